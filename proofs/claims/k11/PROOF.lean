import PyProof.Rows.All
import Wide.All
import OpenK.AllK
import Wide.FinOn
import HandS.Codes
import HandS.Words
import HandS.Head3
import HandS.HeadHook1
import HandS.ExcField
import KE.KExcInit
import HandS.ForMost
import HandS.AnyAll
import HandS.GenList
import HandS.Wide
import HandS.WideBits
import HandS.IsInst
import HandS.Gcd
import HandS.TupAny
import HandS.Zip
import HandS.RaiseMore
import HandS.Lambda
import PyProof.ReprRoads
import Flt.RightSqrt
import HandS.Style
import KE.KMathG
import PyProof.ReprText
import HandS.Deep
import HandS.EndBits
import KE.KNestM
import KE.DatumOrd
import HandS.CallLocal
import KE.GoesEnum
import KE.GoesNew
import HandS.TupMul
import KE.GoesMore
import HandS.ExcInit
import HandS.HotCalls
import HandS.Text
import HandS.StrMore
import PyProof.StrOps2
import HandS.ExcIs
import KE.KExcIs
import HandS.ReplaceLit
import PySem.Challenge.RW_truecourse_k11_whole_ratios_and_texts
set_option Elab.async false
set_option linter.all false
set_option maxRecDepth 100000
set_option autoImplicit false
namespace DL
open PySem PySem.Spec L2
open PyProof.Rows hiding St
def methS : Stmt → Stmt
  | .ClassDef _ _ _ b _ _ _ _ _ _ _ => b.headD (.Pass ⟨0, 0, 0, 0⟩)
  | s => s
inductive Fx where
  | old (f : He.Fa)
  | num (x : Str) (i : Int)
  | bui (x : Str) (y : String)
  | tw (x : Str) (i j : Int)
  | tab (x : Str)
  | fcl (x : Str)
  | exg (x : Str) (B newId : String)
  | mth (x m : Str)
  | xf (x : Str)
  | tne (x y : Str)
  | exi (x y : Str)
def bmOf (B : String) : List Value := [.type B, .type "Exception", .type "BaseException", .type "object"]
def exgB (K : PySem.W.Frag) (C : Addr) (bm : List Value) (newId : String) : Bool := PySem.W.excInitIn K C bm newId && (PySem.W.excOver K C bm && (PySem.W.hasDictIn K C && (He.eqO (PySem.W.findIn K (.ref C) "__setattr__") (some (some (.builtin "object.__setattr__"))) && (decide (PySem.W.subIn K (.ref C) (.type "BaseException") = some true) && (decide (PySem.W.typeIn K (.ref C) = some (.type "type")) && PySem.W.keepIn K (.ref C))))))
def excCB (K : PySem.W.Frag) (D : Addr) : Bool := decide (PySem.W.findIn K (.ref D) "__getattribute__" = some (some (.builtin "BaseException.__getattribute__"))) && (decide (PySem.W.findIn K (.ref D) "__getattr__" = some none) && (decide (PySem.W.subIn K (.ref D) (.type "BaseException") = some true) && (PySem.W.hasDictIn K D && (decide (PySem.W.findIn K (.ref D) "__class__" = some (some (.builtin "object.__class__"))) &&
  (decide (PySem.W.specialIn K (.builtin "object.__class__") "__get__" = some (some (.builtin "getset_descriptor.__get__"))) && (decide (PySem.W.takesIn K (.builtin "object.__class__") = some true) && decide (PySem.W.mroIn K D (.type "object") = some true)))))))
def mthB (K : PySem.W.Frag) (C : Addr) (m : Str) : Bool := He.eqO (PySem.W.findIn K (.ref C) m) (some (some (.ref (He.ma K C m)))) && decide (PySem.W.typeIn K (.ref (He.ma K C m)) = some (.type "function"))
def tabV : Option Value → Option Addr | some (.ref P) => some P | _ => none
def tabO : Option Obj → Option Addr | some ⟨_, _, .fields vs, _⟩ => tabV (vs[11]? : Option Value) | _ => none
def tabC (K : PySem.W.Frag) : Value → Option Addr | .ref c => tabO (K.lookup c) | _ => none
def tabF (K : PySem.W.Frag) : Option Obj → Option Addr | some ⟨_, _, .func fd, _⟩ => tabC K fd.code | _ => none
def gNs (K : PySem.W.Frag) (x : Str) : Option Value := (PySem.W.nsIn K mainGlobals x).bind id
def isNum (i : Int) : Option Value → Bool | some (.int n _) => decide (n = i) | _ => false
def isBui (y : String) : Option Value → Bool | some (.builtin z) => decide (z = y) | _ => false
def isTwo (i j : Int) : List Value → Bool | [.int n _, .int m _] => decide (n = i) && decide (m = j) | _ => false
def twObj (i j : Int) : Option Obj → Bool | some ⟨.type c, _, .seq its _, _⟩ => decide (c = "tuple") && isTwo i j its.toList | _ => false
def isTw (K : PySem.W.Frag) (i j : Int) : Option Value → Bool | some (.ref a) => twObj i j (K.lookup a) | _ => false
def isTab (K : PySem.W.Frag) : Option Value → Bool | some (.ref P) => (K.lookup P).isNone | _ => false
def fldTab (K : PySem.W.Frag) : Option Obj → Bool | some ⟨_, _, .fields vs, _⟩ => isTab K (vs[11]? : Option Value) | _ => false
def cdTab (K : PySem.W.Frag) : Value → Bool | .ref c => fldTab K (K.lookup c) | _ => false
def fnTab (K : PySem.W.Frag) : Option Obj → Bool | some ⟨_, _, .func fd, _⟩ => cdTab K fd.code | _ => false
def isFcl : Option Obj → Bool | some ⟨.type c, _, _, _⟩ => decide (c = "function") | _ => false
def Fx.ok (K : PySem.W.Frag) : Fx → Bool
  | .old f => f.ok K
  | .num x i => isNum i (gNs K x)
  | .bui x y => isBui y (gNs K x)
  | .tw x i j => isTw K i j (gNs K x)
  | .tab x => fnTab K (K.lookup (He.ga K x))
  | .fcl x => isFcl (K.lookup (He.ga K x))
  | .exg x B newId => exgB K (He.ga K x) (bmOf B) newId
  | .mth x m => mthB K (He.ga K x) m
  | .xf x => L2.xfB K (He.ga K x)
  | .exi x y => excCB K (He.ga K x) && decide (PySem.W.kitOne K (.ref (He.ga K x)) (.ref (He.ga K y)) = some true)
  | .tne x y => !decide (tabF K (K.lookup (He.ga K x)) = tabF K (K.lookup (He.ga K y)))
theorem gNs_eq {K : PySem.W.Frag} {x : Str} {v : Value} (h : gNs K x = some v) : PySem.W.nsIn K mainGlobals x = some (some v) := by
  unfold gNs at h
  cases e : PySem.W.nsIn K mainGlobals x with
  | none => rw [e] at h; cases h
  | some o => rw [e] at h; exact congrArg some h
theorem bui_eq {K : PySem.W.Frag} {x : Str} {y : String} (h : (Fx.bui x y).ok K = true) : PySem.W.nsIn K mainGlobals x = some (some (.builtin y)) := by
  have h : isBui y (gNs K x) = true := h
  cases e : gNs K x with
  | none => rw [e] at h; cases h
  | some v =>
    rw [e] at h
    cases v with
    | builtin z =>
      have := of_decide_eq_true (show decide (z = y) = true from h)
      rw [gNs_eq e, this]
    | _ => cases h
theorem num_eq {K : PySem.W.Frag} {x : Str} {i : Int} (h : (Fx.num x i).ok K = true) : ∃ t, PySem.W.nsIn K mainGlobals x = some (some (.int i t)) := by
  have h : isNum i (gNs K x) = true := h
  cases e : gNs K x with
  | none => rw [e] at h; cases h
  | some v =>
    rw [e] at h
    cases v with
    | int n t =>
      have := of_decide_eq_true (show decide (n = i) = true from h)
      exact ⟨t, by rw [gNs_eq e, this]⟩
    | _ => cases h
def growD (g : Addr → Option Obj) (as : List Addr) : List Addr := as ++ (as.flatMap fun a => match g a with
  | some ⟨_, _, .dict es _, _⟩ => es.toList.flatMap fun e => He.refV e.val
  | _ => []).filter fun b => !as.contains b
def growF (g : Addr → Option Obj) (as : List Addr) : List Addr := as ++ (as.flatMap fun a => match g a with
  | some ⟨_, _, .func fd, _⟩ => He.refV fd.code
  | _ => []).filter fun b => !as.contains b
def asN (g : Addr → Option Obj) (n : Nat) : List Addr := if n = 9 then growF g (growD g (He.asG g 2)) else He.asG g n
abbrev AlX : Type := Bool × List He.FnV
def obsX (fx : List Fx) (fn : List He.FnD) (K : PySem.W.Frag) : AlX := ((fx.all fun f => f.ok K) && fn.all fun d => (He.Fa.code d.at_ d.qual).ok K, fn.map fun d => He.fnObs K d.at_)
def valX (fn : List He.FnD) : AlX := (true, fn.map He.FnD.val)
def SaysX (fx : List Fx) (fn : List He.FnD) (K : PySem.W.Frag) : Prop := obsX fx fn K = valX fn
def obsXG (n : Nat) (fx : List Fx) (fn : List He.FnD) (g : Addr → Option Obj) : AlX := obsX fx fn (He.frG g (asN g n))
def hookX (n : Nat) (fx : List Fx) (fn : List He.FnD) : PySem.W.Hook where
  α := AlX
  obs := fun s => obsXG n fx fn s.heap.get?
  val := fun _ => valX fn
  says := fun _ h => ∃ K : PySem.W.Frag, K.In h ∧ SaysX fx fn K
  of := fun _ _ e => ⟨_, He.frG_in, e⟩
  keeps := fun _ _ _ ⟨K, hK, c⟩ k => ⟨K, PySem.W.Frag.In.keeps hK k, c⟩
def obX (n : Nat) (fx : List Fx) (fn : List He.FnD) (s : PySem.W.SharedT) : AlX := obsXG n fx fn (HandSHeadRun.getT s)
theorem obX_eq (n : Nat) (fx : List Fx) (fn : List He.FnD) (s : PySem.W.SharedT) : obX n fx fn s = (hookX n fx fn).obs s.abs := by
  have e : HandSHeadRun.getT s = s.abs.heap.get? := funext (HandSHeadRun.getT_eq s)
  unfold obX
  rw [e]
  rfl
section
variable {fx : List Fx} {fn : List He.FnD} {K : PySem.W.Frag}
theorem SaysX.fact (c : SaysX fx fn K) (i : Nat) {f : Fx} (h : fx[i]? = some f) : f.ok K = true := by
  have c1 := (Bool.and_eq_true_iff.mp (show ((fx.all fun f => f.ok K) && fn.all fun d => (He.Fa.code d.at_ d.qual).ok K) = true from congrArg (fun z : AlX => z.1) c)).1
  exact List.all_eq_true.mp c1 f (List.mem_of_getElem? h)
theorem SaysX.def_ (c : SaysX fx fn K) (i : Nat) {d : He.FnD} (h : fn[i]? = some d) :
    ∃ oc od osl kV doc pm an cdv ct, K.lookup (He.fAd K d.at_) = some ⟨oc, od, .func (PySem.W.fnOf d.name d.qual d.params d.body d.scope .none kV doc pm an cdv ct), osl⟩ ∧ PySem.W.codeIn K cdv d.qual = true := by
  have c2 := (Bool.and_eq_true_iff.mp (show ((fx.all fun f => f.ok K) && fn.all fun d => (He.Fa.code d.at_ d.qual).ok K) = true from congrArg (fun z : AlX => z.1) c)).2
  have e : fn.map (fun d => He.fnObs K d.at_) = fn.map He.FnD.val := congrArg (fun z : AlX => z.2) c
  have e2 : (fn.map fun d => He.fnObs K d.at_)[i]? = (fn.map He.FnD.val)[i]? := by rw [e]
  rw [List.getElem?_map, List.getElem?_map, h] at e2
  exact He.fn_ok (Option.some.inj e2) (List.all_eq_true.mp c2 d (List.mem_of_getElem? h))
end
end DL
namespace LW
open PySem PySem.Spec L2 DL
open PyProof.Rows hiding St
def top (i : Nat) : Stmt := PySem.Challenge.pw_truecourse_k11_whole_ratios_and_texts.main.body.getD i (.Pass ⟨0, 0, 0, 0⟩)
abbrev s_is_integer : Stmt := top 16
abbrev s_is_ratio : Stmt := top 21
abbrev s__law_draw : Stmt := top 36
abbrev s__law_pick : Stmt := top 37
abbrev s__law_one : Stmt := top 38
abbrev s__law_gcd : Stmt := top 39
abbrev s__law_ratio : Stmt := top 40
abbrev s__check_integer : Stmt := top 24
abbrev s_ratio_of : Stmt := top 12
abbrev s_ratio : Stmt := top 25
abbrev s_check_ratio : Stmt := top 22
abbrev s_digits_end : Stmt := top 27
abbrev s__few_digits_end : Stmt := top 28
abbrev s__check_read : Stmt := top 29
abbrev s__check_whole : Stmt := top 30
abbrev s__under_read : Stmt := top 32
abbrev s__tenths_read : Stmt := top 33
abbrev s_check_text : Stmt := top 23
abbrev s_parse_ratio : Stmt := top 31
abbrev s_digits_of : Stmt := top 13
abbrev s_text_of_ratio : Stmt := top 14
abbrev s_ratio_text : Stmt := top 26
abbrev s__law_text : Stmt := top 43
abbrev s__law_size : Stmt := top 41
abbrev s__law_number : Stmt := top 42
abbrev s__law_figures : Stmt := top 45
abbrev s__law_drawn_text : Stmt := top 46
abbrev s__law_heard : Stmt := top 47
abbrev s__law_read : Stmt := top 44
abbrev s__law_right : Stmt := top 48
abbrev s__law_pot : Stmt := top 35
abbrev s_law : Stmt := top 49
abbrev s_BadText : Stmt := top 5
def loose0 : List PySem.Str := ["__name__", "CourseError", "InvalidRatio", "InvalidText", "BadText", "InvalidInteger", "StateError", "NoQuotient", "_PIECE", "_PIECE_DIGITS", "ratio_of", "digits_of", "text_of_ratio", "is_integer", "_DIGITS", "_MOST_DIGITS", "_TOO_LARGE", "is_ratio", "check_ratio", "check_text", "_check_integer", "ratio", "ratio_text", "digits_end", "_few_digits_end", "_check_read", "_check_whole", "parse_ratio", "_under_read", "_tenths_read"]
def loose1 : List PySem.Str := ["_law_pot", "_law_draw", "_law_pick", "_law_one", "_law_gcd", "_law_ratio", "_law_size", "_law_number", "_law_text", "_law_read", "_law_figures", "_law_drawn_text", "_law_heard", "_law_right"]
def loose : List PySem.Str := loose0 ++ loose1
def fx0 : List DL.Fx := [.old (.glo "is_integer"), .old (.keep "is_integer"), .old (.glo "is_ratio"), .old (.keep "is_ratio"), .old (.glo "_law_draw"), .old (.keep "_law_draw"), .old (.glo "_law_pick"), .old (.keep "_law_pick"), .old (.glo "_law_one"), .old (.keep "_law_one"), .old (.glo "_law_gcd"), .old (.keep "_law_gcd"), .old (.glo "_law_ratio"), .old (.keep "_law_ratio"), .old (.glo "_check_integer"), .old (.keep "_check_integer"), .old (.glo "ratio_of"), .old (.keep "ratio_of"), .old (.glo "ratio"), .old (.keep "ratio"), .old (.glo "check_ratio"), .old (.keep "check_ratio"), .old (.glo "digits_end"), .old (.keep "digits_end"), .old (.glo "_few_digits_end"), .old (.keep "_few_digits_end"), .old (.glo "_check_read"), .old (.keep "_check_read"), .old (.glo "_check_whole"), .old (.keep "_check_whole")]
def fx1 : List DL.Fx := [.old (.glo "_under_read"), .old (.keep "_under_read"), .old (.glo "_tenths_read"), .old (.keep "_tenths_read"), .old (.glo "check_text"), .old (.keep "check_text"), .old (.glo "parse_ratio"), .old (.keep "parse_ratio"), .old (.glo "digits_of"), .old (.keep "digits_of"), .old (.glo "text_of_ratio"), .old (.keep "text_of_ratio"), .old (.glo "ratio_text"), .old (.keep "ratio_text"), .old (.glo "_law_text"), .old (.keep "_law_text"), .old (.glo "_law_size"), .old (.keep "_law_size"), .old (.glo "_law_number"), .old (.keep "_law_number"), .old (.glo "_law_figures"), .old (.keep "_law_figures"), .old (.glo "_law_drawn_text"), .old (.keep "_law_drawn_text"), .old (.glo "_law_heard"), .old (.keep "_law_heard"), .old (.glo "_law_read"), .old (.keep "_law_read"), .old (.glo "_law_right"), .old (.keep "_law_right")]
def fx2 : List DL.Fx := [.old (.glo "_law_pot"), .old (.keep "_law_pot"), .old (.glo "law"), .old (.keep "law"), .old (.free "abs"), .old (.free "bool"), .old (.free "divmod"), .old (.free "int"), .old (.free "isinstance"), .old (.free "len"), .old (.free "max"), .old (.free "min"), .old (.free "range"), .old (.free "repr"), .old (.free "str"), .old (.free "tuple"), .bui "gcd" "math.gcd", .num "_MOST_DIGITS" (40), .num "_PIECE" (1000000000000000000000000000000000000000000000000000000000000), .num "_PIECE_DIGITS" (60), .num "_TOO_LARGE" (10000000000000000000000000000000000000000), .old (.str "_DIGITS" "0123456789"), .old (.glo "BadText"), .old (.glo "CourseError"), .exg "BadText" "ValueError" "ValueError.__new__", .mth "BadText" "__init__", .old (.noat "BadText" "position"), .exi "BadText" "CourseError", .xf "BadText", .old (.exm "BadText" "BadText" true)]
def fx : List DL.Fx := fx0 ++ fx1 ++ fx2
def fn_X_BadText : He.FnD := ⟨("BadText", some "__init__"), "__init__", "BadText.__init__", defArgs (methS s_BadText), defBody (methS s_BadText), defScope (methS s_BadText)⟩
def fn_is_integer : He.FnD := ⟨("is_integer", none), "is_integer", "is_integer", defArgs s_is_integer, defBody s_is_integer, defScope s_is_integer⟩
def fn_is_ratio : He.FnD := ⟨("is_ratio", none), "is_ratio", "is_ratio", defArgs s_is_ratio, defBody s_is_ratio, defScope s_is_ratio⟩
def fn__law_draw : He.FnD := ⟨("_law_draw", none), "_law_draw", "_law_draw", defArgs s__law_draw, defBody s__law_draw, defScope s__law_draw⟩
def fn__law_pick : He.FnD := ⟨("_law_pick", none), "_law_pick", "_law_pick", defArgs s__law_pick, defBody s__law_pick, defScope s__law_pick⟩
def fn__law_one : He.FnD := ⟨("_law_one", none), "_law_one", "_law_one", defArgs s__law_one, defBody s__law_one, defScope s__law_one⟩
def fn__law_gcd : He.FnD := ⟨("_law_gcd", none), "_law_gcd", "_law_gcd", defArgs s__law_gcd, defBody s__law_gcd, defScope s__law_gcd⟩
def fn__law_ratio : He.FnD := ⟨("_law_ratio", none), "_law_ratio", "_law_ratio", defArgs s__law_ratio, defBody s__law_ratio, defScope s__law_ratio⟩
def fn__check_integer : He.FnD := ⟨("_check_integer", none), "_check_integer", "_check_integer", defArgs s__check_integer, defBody s__check_integer, defScope s__check_integer⟩
def fn_ratio_of : He.FnD := ⟨("ratio_of", none), "ratio_of", "ratio_of", defArgs s_ratio_of, defBody s_ratio_of, defScope s_ratio_of⟩
def fn_ratio : He.FnD := ⟨("ratio", none), "ratio", "ratio", defArgs s_ratio, defBody s_ratio, defScope s_ratio⟩
def fn_check_ratio : He.FnD := ⟨("check_ratio", none), "check_ratio", "check_ratio", defArgs s_check_ratio, defBody s_check_ratio, defScope s_check_ratio⟩
def fn_digits_end : He.FnD := ⟨("digits_end", none), "digits_end", "digits_end", defArgs s_digits_end, defBody s_digits_end, defScope s_digits_end⟩
def fn__few_digits_end : He.FnD := ⟨("_few_digits_end", none), "_few_digits_end", "_few_digits_end", defArgs s__few_digits_end, defBody s__few_digits_end, defScope s__few_digits_end⟩
def fn__check_read : He.FnD := ⟨("_check_read", none), "_check_read", "_check_read", defArgs s__check_read, defBody s__check_read, defScope s__check_read⟩
def fn__check_whole : He.FnD := ⟨("_check_whole", none), "_check_whole", "_check_whole", defArgs s__check_whole, defBody s__check_whole, defScope s__check_whole⟩
def fn__under_read : He.FnD := ⟨("_under_read", none), "_under_read", "_under_read", defArgs s__under_read, defBody s__under_read, defScope s__under_read⟩
def fn__tenths_read : He.FnD := ⟨("_tenths_read", none), "_tenths_read", "_tenths_read", defArgs s__tenths_read, defBody s__tenths_read, defScope s__tenths_read⟩
def fn_check_text : He.FnD := ⟨("check_text", none), "check_text", "check_text", defArgs s_check_text, defBody s_check_text, defScope s_check_text⟩
def fn_parse_ratio : He.FnD := ⟨("parse_ratio", none), "parse_ratio", "parse_ratio", defArgs s_parse_ratio, defBody s_parse_ratio, defScope s_parse_ratio⟩
def fn_digits_of : He.FnD := ⟨("digits_of", none), "digits_of", "digits_of", defArgs s_digits_of, defBody s_digits_of, defScope s_digits_of⟩
def fn_text_of_ratio : He.FnD := ⟨("text_of_ratio", none), "text_of_ratio", "text_of_ratio", defArgs s_text_of_ratio, defBody s_text_of_ratio, defScope s_text_of_ratio⟩
def fn_ratio_text : He.FnD := ⟨("ratio_text", none), "ratio_text", "ratio_text", defArgs s_ratio_text, defBody s_ratio_text, defScope s_ratio_text⟩
def fn__law_text : He.FnD := ⟨("_law_text", none), "_law_text", "_law_text", defArgs s__law_text, defBody s__law_text, defScope s__law_text⟩
def fn__law_size : He.FnD := ⟨("_law_size", none), "_law_size", "_law_size", defArgs s__law_size, defBody s__law_size, defScope s__law_size⟩
def fn__law_number : He.FnD := ⟨("_law_number", none), "_law_number", "_law_number", defArgs s__law_number, defBody s__law_number, defScope s__law_number⟩
def fn__law_figures : He.FnD := ⟨("_law_figures", none), "_law_figures", "_law_figures", defArgs s__law_figures, defBody s__law_figures, defScope s__law_figures⟩
def fn__law_drawn_text : He.FnD := ⟨("_law_drawn_text", none), "_law_drawn_text", "_law_drawn_text", defArgs s__law_drawn_text, defBody s__law_drawn_text, defScope s__law_drawn_text⟩
def fn__law_heard : He.FnD := ⟨("_law_heard", none), "_law_heard", "_law_heard", defArgs s__law_heard, defBody s__law_heard, defScope s__law_heard⟩
def fn__law_read : He.FnD := ⟨("_law_read", none), "_law_read", "_law_read", defArgs s__law_read, defBody s__law_read, defScope s__law_read⟩
def fn__law_right : He.FnD := ⟨("_law_right", none), "_law_right", "_law_right", defArgs s__law_right, defBody s__law_right, defScope s__law_right⟩
def fn__law_pot : He.FnD := ⟨("_law_pot", none), "_law_pot", "_law_pot", defArgs s__law_pot, defBody s__law_pot, defScope s__law_pot⟩
def fn_law : He.FnD := ⟨("law", none), "law", "law", defArgs s_law, defBody s_law, defScope s_law⟩
def fns0 : List He.FnD := [fn_is_integer, fn_is_ratio, fn__law_draw, fn__law_pick, fn__law_one, fn__law_gcd, fn__law_ratio, fn__check_integer, fn_ratio_of, fn_ratio, fn_check_ratio, fn_digits_end, fn__few_digits_end, fn__check_read, fn__check_whole, fn__under_read, fn__tenths_read, fn_check_text, fn_parse_ratio, fn_digits_of, fn_text_of_ratio, fn_ratio_text, fn__law_text, fn__law_size, fn__law_number, fn__law_figures, fn__law_drawn_text, fn__law_heard, fn__law_read, fn__law_right]
def fns1 : List He.FnD := [fn__law_pot, fn_law, fn_X_BadText]
def fns : List He.FnD := fns0 ++ fns1
abbrev RR : PySem.W.OpenRow := PySem.W.OpenLaw.row PySem.Challenge.rw_truecourse_k11_whole_ratios_and_texts
abbrev qv : Program := PySem.W.view RR.prog [0, 49]
set_option maxHeartbeats 0 in
theorem run (w : World) : HandSHeadRun.RunEqI RR qv (DL.hookX 9 fx fns) (DL.obX 9 fx fns) 20000 loose w := by
  unfold HandSHeadRun.RunEqI
  kernel_rfl
end LW
namespace GA
open PySem PySem.Spec PyProof.Rows L2 GxR
structure GxOk (N : List Str) (sc scope : Scope) (own : List (Str × Nat)) : Prop where
  blk : BlkOk N sc scope own
  co : scope.isCoroutine = false
  cell : ∀ y ∈ scope.names, y.2 ≠ .cell
  dot : scope.names.lookup (".0" : Str) = some NameKind.local
abbrev gx (X : Cx) (s : Shared) (H : Hp) (ge : Env) (fp : List Addr) : Cx :=
  { X with A := X.A.in1.in1.deeper ge, s_0 := s, H_0 := H, env := ge, outer := X.stack, stack := ge :: X.stack, ex := fp, fn := fun _ => false, calm := true, pn := [], xe := fun _ _ => False }
section
variable {X : Cx} {pins : List (Addr × Obj)} {σ : L2.St} {H : Hp} {s : Shared}
end
section
variable {X : Cx} {pg : List (Addr × Obj)} {σw : L2.St} {s4 : Shared} {H4 : Hp} {ge : Env} {fp : List Addr}
def gY (Z : Cx) (pg : List (Addr × Obj)) (σw : L2.St) (c : Bool) (Qf : Hp → Prop) : Protocol := fun _ _ v s kap =>
  ∃ b H', v = .bool b ∧ Inv Z pg σw H' s ∧ if b = c then ∀ s'' : Shared, s''.heap = s.heap → s''.os = s.os → AllBare s''.gens → kap (.send .none) s'' else Qf H'
def gR (Z : Cx) (pg : List (Addr × Obj)) (σw : L2.St) (Qt : Hp → Prop) : Shared → Prop := fun s => ∃ H', Inv Z pg σw H' s ∧ Qt H'
structure Cons (Z : Cx) (M : Model) (A : Around) (pg : List (Addr × Obj)) (σw : L2.St) (c : Bool) (Qt Qf : Hp → Prop) (a : Addr) (g n : Nat) (s : Shared) : Prop where
  lt : g < s.gens.size
  bare : AllBare s.gens
  lim : s.heap.NoLimit
  gen : s.heap.IsGen a g
  go : ∃ gs, s.gens[g]? = some gs ∧ gs.Goes M A.in1.in1 (fun _ _ r s₁ => r = .ok .next ∧ gR Z pg σw Qt s₁) (gY Z pg σw c Qf) n (.send .none) (s.setGen g .running)
end
section
variable {X : Cx} {pins : List (Addr × Obj)} {σ : L2.St} {H : Hp} {s : Shared}
end
section
variable {X : Cx}
end
end GA
namespace DL
open PySem PySem.Spec L2
inductive D where
  | non | bl (b : Bool) | int (i : Int) | str (x : Str) | ty (n : String) | fn (x : Str) | tup (l : List D) | lst (l : List D) | pot
  /-- a list that this def has made and may change -/
  | own (l : List D)
structure Tf where
  tabs : List Addr
  fns : Str → Option Value
  /-- tables of lambdas' code objects -/
  lts : List (Addr × Str) := []
structure Qt where
  pot : Addr
  tf : Tf
abbrev Qt.tabs (p : Qt) : List Addr := p.tf.tabs
structure Gd where
  F0 : List Addr
  B : List Addr
  H0 : Hp
def NoT (o : HO) : Prop := ∀ ps, o ≠ .tbl ps
mutual
inductive Is (K : PySem.W.Frag) (p : Qt) (F : List Addr) (H : Hp) : V → D → Prop
  | non : Is K p F H .non .non
  | bl (b : Bool) : Is K p F H (.bl b) (.bl b)
  | int (i : Int) : Is K p F H (.int i) (.int i)
  | str (x : Str) : Is K p F H (.str x) (.str x)
  | ty (n : String) : Is K p F H (.ty n) (.ty n)
  | fn {x : Str} {f : Addr} : p.tf.fns x = some (.ref f) → Is K p F H (.ref f) (.fn x)
  | tup {a : Addr} {vs : List V} {l : List D} : SqT K H a vs → a ≠ p.pot → IsL K p F H vs l → Is K p F H (.ref a) (.tup l)
  | lst {a : Addr} {vs : List V} {l : List D} : Rd H a (.lst vs) → a ≠ p.pot ∧ a ∉ F → IsL K p F H vs l → Is K p F H (.ref a) (.lst l)
  | pot : Is K p F H (.ref p.pot) .pot
inductive IsL (K : PySem.W.Frag) (p : Qt) (F : List Addr) (H : Hp) : List V → List D → Prop
  | nil : IsL K p F H [] []
  | cons {v : V} {d : D} {vs : List V} {l : List D} : Is K p F H v d → IsL K p F H vs l → IsL K p F H (v :: vs) (d :: l)
end
structure Pk (p : Qt) (H : Hp) : Prop where
  at_ : ∃ a b : Int, 0 ≤ a ∧ 0 ≤ b ∧ b < 4294967296 ∧ H p.pot = some (.lst [.int a, .int b])
  tb : ∀ t ∈ p.tabs, GxR.TabG H t
  lt : LamX.Tabs p.tf.lts H
  lp : ∀ t ∈ p.tf.lts, t.1 ≠ p.pot ∧ t.1 ∉ p.tabs
structure Ex (p : Qt) (H H' : Hp) : Prop where
  kp : ∀ b o, b ≠ p.pot → NoT o → H b = some o → H' b = some o
  pk : Pk p H'
section
variable {K : PySem.W.Frag} {p : Qt} {F G : List Addr} {H H1 H2 : Hp}
theorem SqT.keep {a : Addr} {vs : List V} (h : SqT K H a vs) (n : a ≠ p.pot) (e : ∀ b o, b ≠ p.pot → NoT o → H b = some o → H1 b = some o) : SqT K H1 a vs := by
  rcases h with (h | ⟨o, h⟩) | h
  · exact .inl (.inl (e _ _ n (fun _ z => nomatch z) h))
  · exact .inl (.inr ⟨o, e _ _ n (fun _ z => nomatch z) h⟩)
  · exact .inr h
theorem Rdl.keep {a : Addr} {vs : List V} (h : Rd H a (.lst vs)) (n : a ≠ p.pot) (e : ∀ b o, b ≠ p.pot → NoT o → H b = some o → H1 b = some o) : Rd H1 a (.lst vs) := by
  rcases h with h | ⟨o, h⟩
  · exact .inl (e _ _ n (fun _ z => nomatch z) h)
  · exact .inr ⟨o, e _ _ n (fun _ z => nomatch z) h⟩
theorem Rdl.sq {a : Addr} {vs : List V} (h : Rd H a (.lst vs)) : SqL K H a vs := .inl h
theorem Rdl.noT {a : Addr} {vs : List V} (h : Rd H a (.lst vs)) : ∃ o, NoT o ∧ H a = some o := by
  rcases h with h | ⟨o, h⟩
  · exact ⟨.lst vs, fun ps z => HO.noConfusion z, h⟩
  · exact ⟨.frz o (.lst vs), fun ps z => HO.noConfusion z, h⟩
theorem Is.mono {v : V} {d : D} (h : Is K p F H v d) (e : ∀ b o, b ≠ p.pot → NoT o → H b = some o → H1 b = some o) : Is K p F H1 v d :=
  Is.rec (motive_1 := fun v d _ => Is K p F H1 v d) (motive_2 := fun vs l _ => IsL K p F H1 vs l) .non .bl .int .str .ty .fn
    (fun h n _ ih => .tup (SqT.keep h n e) n ih) (fun h n _ ih => .lst (Rdl.keep h n.1 e) n ih) .pot .nil (fun _ _ i1 i2 => .cons i1 i2) h
theorem IsL.mono {vs : List V} {l : List D} (h : IsL K p F H vs l) (e : ∀ b o, b ≠ p.pot → NoT o → H b = some o → H1 b = some o) : IsL K p F H1 vs l :=
  IsL.rec (motive_1 := fun v d _ => Is K p F H1 v d) (motive_2 := fun vs l _ => IsL K p F H1 vs l) .non .bl .int .str .ty .fn
    (fun h n _ ih => .tup (SqT.keep h n e) n ih) (fun h n _ ih => .lst (Rdl.keep h n.1 e) n ih) .pot .nil (fun _ _ i1 i2 => .cons i1 i2) h
theorem Is.less {v : V} {d : D} (h : Is K p F H v d) (e : ∀ b ∈ G, b ∈ F) : Is K p G H v d :=
  Is.rec (motive_1 := fun v d _ => Is K p G H v d) (motive_2 := fun vs l _ => IsL K p G H vs l) .non .bl .int .str .ty .fn
    (fun h n _ ih => .tup h n ih) (fun h n _ ih => .lst h ⟨n.1, fun z => n.2 (e _ z)⟩ ih) .pot .nil (fun _ _ i1 i2 => .cons i1 i2) h
theorem IsL.less {vs : List V} {l : List D} (h : IsL K p F H vs l) (e : ∀ b ∈ G, b ∈ F) : IsL K p G H vs l :=
  IsL.rec (motive_1 := fun v d _ => Is K p G H v d) (motive_2 := fun vs l _ => IsL K p G H vs l) .non .bl .int .str .ty .fn
    (fun h n _ ih => .tup h n ih) (fun h n _ ih => .lst h ⟨n.1, fun z => n.2 (e _ z)⟩ ih) .pot .nil (fun _ _ i1 i2 => .cons i1 i2) h
theorem Is.more {v : V} {d : D} (h : Is K p F H v d) (n : ∀ b ∈ G, b ∈ F ∨ ∀ o, NoT o → H b ≠ some o) : Is K p G H v d :=
  Is.rec (motive_1 := fun v d _ => Is K p G H v d) (motive_2 := fun vs l _ => IsL K p G H vs l) .non .bl .int .str .ty .fn
    (fun h n _ ih => .tup h n ih) (fun h m _ ih => .lst h ⟨m.1, fun z => by
      rcases n _ z with q | q
      · exact m.2 q
      · obtain ⟨o, h1, h2⟩ := Rdl.noT h
        exact q o h1 h2⟩ ih) .pot .nil (fun _ _ i1 i2 => .cons i1 i2) h
theorem IsL.more {vs : List V} {l : List D} (h : IsL K p F H vs l) (n : ∀ b ∈ G, b ∈ F ∨ ∀ o, NoT o → H b ≠ some o) : IsL K p G H vs l :=
  IsL.rec (motive_1 := fun v d _ => Is K p G H v d) (motive_2 := fun vs l _ => IsL K p G H vs l) .non .bl .int .str .ty .fn
    (fun h n _ ih => .tup h n ih) (fun h m _ ih => .lst h ⟨m.1, fun z => by
      rcases n _ z with q | q
      · exact m.2 q
      · obtain ⟨o, h1, h2⟩ := Rdl.noT h
        exact q o h1 h2⟩ ih) .pot .nil (fun _ _ i1 i2 => .cons i1 i2) h
theorem IsL.len : ∀ {vs : List V} {l : List D}, IsL K p F H vs l → vs.length = l.length
  | [], _, h => by cases h; rfl
  | v :: vs, _, h => by
    cases h with
    | cons h1 h2 => simp [IsL.len h2]
theorem IsL.get : ∀ {vs : List V} {l : List D} {i : Nat} {v : V}, IsL K p F H vs l → vs[i]? = some v → ∃ d, l[i]? = some d ∧ Is K p F H v d
  | [], _, _, _, h, e => by simp at e
  | w :: vs, _, 0, v, h, e => by
    cases h with
    | cons h1 h2 =>
      have q : w = v := by simpa using e
      subst q
      exact ⟨_, rfl, h1⟩
  | w :: vs, _, i + 1, v, h, e => by
    cases h with
    | cons h1 h2 =>
      obtain ⟨d, e1, e2⟩ := IsL.get (i := i) (v := v) h2 (by simpa using e)
      exact ⟨d, by simpa using e1, e2⟩
theorem IsL.getD : ∀ {vs : List V} {l : List D} {i : Nat} {d : D}, IsL K p F H vs l → l[i]? = some d → ∃ v, vs[i]? = some v ∧ Is K p F H v d
  | _, [], _, _, h, e => by simp at e
  | _, w :: l, 0, d, h, e => by
    cases h with
    | cons h1 h2 =>
      have q : w = d := by simpa using e
      subst q
      exact ⟨_, rfl, h1⟩
  | _, w :: l, i + 1, d, h, e => by
    cases h with
    | cons h1 h2 =>
      obtain ⟨v, e1, e2⟩ := IsL.getD (i := i) (d := d) h2 (by simpa using e)
      exact ⟨v, by simpa using e1, e2⟩
theorem IsL.app : ∀ {vs ws : List V} {l m : List D}, IsL K p F H vs l → IsL K p F H ws m → IsL K p F H (vs ++ ws) (l ++ m)
  | [], _, _, _, h, h' => by cases h; exact h'
  | v :: vs, _, _, _, h, h' => by
    cases h with
    | cons h1 h2 => exact .cons h1 (IsL.app h2 h')
theorem IsL.drop : ∀ {vs : List V} {l : List D} (n : Nat), IsL K p F H vs l → IsL K p F H (vs.drop n) (l.drop n)
  | _, _, 0, h => h
  | [], _, n + 1, h => by cases h; exact .nil
  | v :: vs, _, n + 1, h => by
    cases h with
    | cons h1 h2 => exact IsL.drop n h2
theorem IsL.take : ∀ {vs : List V} {l : List D} (n : Nat), IsL K p F H vs l → IsL K p F H (vs.take n) (l.take n)
  | _, _, 0, h => .nil
  | [], _, n + 1, h => by cases h; exact .nil
  | v :: vs, _, n + 1, h => by
    cases h with
    | cons h1 h2 => exact .cons h1 (IsL.take n h2)
theorem IsL.ints : ∀ {vs : List V} {ns : List Int}, IsL K p F H vs (ns.map D.int) → vs = ns.map V.int
  | vs, [], h => by cases h; rfl
  | vs, n :: ns, h => by
    cases h with
    | cons h1 h2 =>
      cases h1
      rw [IsL.ints h2]
      rfl
theorem Ex.refl (h : Pk p H) : Ex p H H := ⟨fun _ _ _ _ e => e, h⟩
theorem Ex.trans (a : Ex p H H1) (b : Ex p H1 H2) : Ex p H H2 := ⟨fun c o n t e => b.kp c o n t (a.kp c o n t e), b.pk⟩
theorem Pk.ne {a : Addr} (h : Pk p H) (n : H a = none) : a ≠ p.pot := by
  rintro rfl
  obtain ⟨_, _, _, _, _, e⟩ := h.at_
  rw [n] at e
  cases e
theorem TabG.upd {a t : Addr} {o : HO} (h : GxR.TabG H t) (n : a ≠ t) : GxR.TabG (upd H a o) t := by
  obtain ⟨ps, e, r⟩ := h
  exact ⟨ps, by rw [upd_ne (Ne.symm n)]; exact e, r⟩
theorem TabG.ne {a t : Addr} (h : GxR.TabG H t) (n : H a = none) : a ≠ t := by
  rintro rfl
  obtain ⟨_, e, _⟩ := h
  rw [n] at e
  cases e
theorem Ex.new {a : Addr} {o : HO} (h : Pk p H) (n : H a = none) : Ex p H (upd H a o) := by
  refine ⟨fun b u _ _ e => ?_, ?_, fun t ht => TabG.upd (h.tb t ht) (TabG.ne (h.tb t ht) n), ?_, h.lp⟩
  · rw [upd_ne (ne_of_none e n)]
    exact e
  · obtain ⟨x, y, h1, h2, h3, e⟩ := h.at_
    exact ⟨x, y, h1, h2, h3, by rw [upd_ne (ne_of_none e n)]; exact e⟩
  · exact h.lt.ext fun b o e => by rw [upd_ne (ne_of_none e n)]; exact e
end
theorem Tabs.put {T : List (Addr × Str)} {H : Hp} {a : Addr} {u : List V} {o : HO} (h : LamX.Tabs T H) (e : H a = some (.lst u)) : LamX.Tabs T (upd H a o) := by
  intro P hP
  obtain ⟨ps, h1, h2, h3⟩ := h P hP
  refine ⟨ps, by rw [upd_ne (fun z => by rw [z, e] at h1; cases h1)]; exact h1, h2, fun pos cv hc => ?_⟩
  obtain ⟨c, e1, e2⟩ := h3 pos cv hc
  have ne : c ≠ a := fun z => by
    rw [z, e] at e2
    have q : HO.lst u = HO.ext _ := Option.some.inj e2
    cases q
  exact ⟨c, e1, by rw [upd_ne ne]; exact e2⟩
def isMut : HO → Prop
  | .lst _ => True
  | .dK _ => True
  | .dT _ => True
  | _ => False
theorem isMut.noT {o : HO} (h : isMut o) : NoT o := fun ps e => by subst e; exact h
structure PkF (p : Qt) (F : List Addr) (H : Hp) : Prop where
  pk : Pk p H
  al : ∀ b ∈ F, b ≠ p.pot ∧ ∃ o, H b = some o ∧ isMut o
theorem PkF.ne {p : Qt} {F : List Addr} {H : Hp} (h : PkF p F H) {a : Addr} (n : H a = none) : a ≠ p.pot := h.pk.ne n
theorem PkF.nF {p : Qt} {F : List Addr} {H : Hp} (h : PkF p F H) {a : Addr} (n : H a = none) : a ≠ p.pot ∧ a ∉ F := ⟨h.pk.ne n, fun z => by
  obtain ⟨_, o, h, _⟩ := h.al a z
  rw [n] at h
  cases h⟩
abbrev Sl := List (Option D)
-- no list in it, and not the pot
mutual
def noL : D → Bool
  | .lst _ => false
  | .own _ => false
  | .pot => false
  | .tup l => noLs l
  | _ => true
def noLs : List D → Bool
  | [] => true
  | d :: l => noL d && noLs l
end
theorem Is.noL {K : PySem.W.Frag} {p : Qt} {F G : List Addr} {H : Hp} {v : V} {d : D} (h : Is K p F H v d) : noL d = true → Is K p G H v d :=
  Is.rec (motive_1 := fun v d _ => DL.noL d = true → Is K p G H v d) (motive_2 := fun vs l _ => noLs l = true → IsL K p G H vs l)
    (fun _ => .non) (fun b _ => .bl b) (fun i _ => .int i) (fun x _ => .str x) (fun n _ => .ty n) (fun h _ => .fn h)
    (fun h n _ ih z => .tup h n (ih z)) (fun _ _ _ _ z => nomatch z) (fun z => nomatch z) (fun _ => .nil)
    (fun _ _ i1 i2 z => by
      have z' := Bool.and_eq_true_iff.mp z
      exact .cons (i1 z'.1) (i2 z'.2)) h
def isOwn : D → Bool
  | .own _ => true
  | _ => false
structure Rel (K : PySem.W.Frag) (p : Qt) (g : Gd) (F : List Addr) (σ : St) (H : Hp) (τ : Sl) : Prop where
  pk : Pk p H
  kp : ∀ b o, b ≠ p.pot → b ∉ g.B → NoT o → g.H0 b = some o → H b = some o
  sub : ∀ b ∈ g.F0, b ∈ F
  al : ∀ b ∈ F, b ≠ p.pot ∧ ∃ o, H b = some o ∧ isMut o
  fo : ∀ b ∈ F, b ∈ g.F0 ∨ b ∈ g.B ∨ ∀ o, NoT o → g.H0 b ≠ some o
  sl : ∀ (i : Nat) (d : D), τ[i]? = some (some d) → isOwn d = false → ∃ v, σ[i]? = some (some v) ∧ Is K p F H v d
  ow : ∀ (i : Nat) (l : List D), τ[i]? = some (some (.own l)) → ∃ a vs, σ[i]? = some (some (.ref a)) ∧ H a = some (.lst vs) ∧ a ∈ F ∧ a ∉ g.F0 ∧ IsL K p F H vs l
  un : ∀ (i j : Nat) (l l' : List D) (a : Addr), τ[i]? = some (some (.own l)) → τ[j]? = some (some (.own l')) → σ[i]? = some (some (.ref a)) → σ[j]? = some (some (.ref a)) → i = j
  len : τ.length = σ.length
section
variable {K : PySem.W.Frag} {p : Qt} {g : Gd} {F : List Addr} {H H1 : Hp} {σ : St} {τ : Sl}
theorem Rel.st (r : Rel K p g F σ H τ) (e : Ex p H H1) : Rel K p g F σ H1 τ where
  pk := e.pk
  kp := fun b o n nb t q => e.kp b o n t (r.kp b o n nb t q)
  sub := r.sub
  al := fun b hb => let ⟨n, o, h1, h2⟩ := r.al b hb; ⟨n, o, e.kp b o n h2.noT h1, h2⟩
  fo := r.fo
  sl := fun i d h n => let ⟨v, h1, h2⟩ := r.sl i d h n; ⟨v, h1, h2.mono e.kp⟩
  ow := fun i l h => by
    obtain ⟨a, vs, h1, h2, h3, h4, h6⟩ := r.ow i l h
    exact ⟨a, vs, h1, e.kp _ _ (r.al a h3).1 (fun _ z => nomatch z) h2, h3, h4, h6.mono e.kp⟩
  un := r.un
  len := r.len
theorem Rel.pkf (r : Rel K p g F σ H τ) : PkF p F H := ⟨r.pk, r.al⟩
theorem Rel.notF (r : Rel K p g F σ H τ) {a : Addr} (n : H a = none) : a ≠ p.pot ∧ a ∉ F := r.pkf.nF n
theorem set_get {α : Type} {τ : List (Option α)} {i j : Nat} {x : Option α} {e : α} (q : (τ.set i x)[j]? = some (some e)) : (i = j ∧ x = some e ∧ i < τ.length) ∨ (i ≠ j ∧ τ[j]? = some (some e)) := by
  by_cases hj : i = j
  · subst hj
    by_cases hl : i < τ.length
    · rw [List.getElem?_set_self hl] at q
      cases q
      exact .inl ⟨rfl, rfl, hl⟩
    · rw [List.getElem?_eq_none (by simpa using hl)] at q
      cases q
  · rw [List.getElem?_set_ne hj] at q
    exact .inr ⟨hj, q⟩
theorem Rel.set (r : Rel K p g F σ H τ) {i : Nat} {v : V} {d : D} (h : Is K p F H v d) : Rel K p g F (σ.set i (some v)) H (τ.set i (some d)) := by
  have no : ∀ l, d ≠ .own l := fun l e => by subst e; cases h
  have ownj : ∀ (j : Nat) (l : List D), (τ.set i (some d))[j]? = some (some (.own l)) → i ≠ j ∧ τ[j]? = some (some (.own l)) := fun j l q => by
    rcases set_get q with ⟨rfl, e2, hl⟩ | q
    · cases e2
      exact absurd rfl (no l)
    · exact q
  refine ⟨r.pk, r.kp, r.sub, r.al, r.fo, fun j e q n => ?_, fun j l q => ?_, fun a b l l' c q1 q2 s1 s2 => ?_, by simp [r.len]⟩
  · rcases set_get q with ⟨rfl, e2, hl⟩ | ⟨hj, q⟩
    · cases e2
      exact ⟨v, by rw [List.getElem?_set_self (by rw [← r.len]; exact hl)], h⟩
    · obtain ⟨u, h1, h2⟩ := r.sl j e q n
      exact ⟨u, by rw [List.getElem?_set_ne hj]; exact h1, h2⟩
  · obtain ⟨hj, q⟩ := ownj j l q
    obtain ⟨a, vs, h1, h2⟩ := r.ow j l q
    exact ⟨a, vs, by rw [List.getElem?_set_ne hj]; exact h1, h2⟩
  · obtain ⟨n1, q1⟩ := ownj a l q1
    obtain ⟨n2, q2⟩ := ownj b l' q2
    rw [List.getElem?_set_ne n1] at s1
    rw [List.getElem?_set_ne n2] at s2
    exact r.un a b l l' c q1 q2 s1 s2
theorem Rel.out (r : Rel K p g F σ H τ) {i : Nat} : Rel K p g F (σ.set i none) H (τ.set i none) := by
  have oth : ∀ (j : Nat) (d : D), (τ.set i none)[j]? = some (some d) → i ≠ j ∧ τ[j]? = some (some d) := fun j l q => by
    rcases set_get q with ⟨rfl, e2, hl⟩ | q
    · cases e2
    · exact q
  refine ⟨r.pk, r.kp, r.sub, r.al, r.fo, fun j e q n => ?_, fun j l q => ?_, fun a b l l' c q1 q2 s1 s2 => ?_, by simp [r.len]⟩
  · obtain ⟨hj, q⟩ := oth j e q
    obtain ⟨u, h1, h2⟩ := r.sl j e q n
    exact ⟨u, by rw [List.getElem?_set_ne hj]; exact h1, h2⟩
  · obtain ⟨hj, q⟩ := oth j _ q
    obtain ⟨a, vs, h1, h2⟩ := r.ow j l q
    exact ⟨a, vs, by rw [List.getElem?_set_ne hj]; exact h1, h2⟩
  · obtain ⟨n1, q1⟩ := oth a _ q1
    obtain ⟨n2, q2⟩ := oth b _ q2
    rw [List.getElem?_set_ne n1] at s1
    rw [List.getElem?_set_ne n2] at s2
    exact r.un a b l l' c q1 q2 s1 s2
def wipeD (τ : Sl) : List Nat → Sl
  | [] => τ
  | v :: vs => (wipeD τ vs).set v none
theorem Rel.wipe (r : Rel K p g F σ H τ) : ∀ vs : List Nat, Rel K p g F (wipe σ vs) H (wipeD τ vs)
  | [] => r
  | v :: vs => (Rel.wipe r vs).out
end
abbrev DE := Sl → (D → Prop) → Prop
abbrev DT := Sl → (Bool → Prop) → Prop
abbrev DA := Sl → (List D → Prop) → Prop
structure PD (X : Cx) (p : Qt) (e : Expr) (d : DE) : Prop where
  run : ∃ t, PE X e t ∧ ∀ (g0 : Gd) (F : List Addr) (σ : St) (H : Hp) (τ : Sl) (Q : VK) (R : D → Prop), Rel X.K p g0 F σ H τ → d τ R → (∀ x v H', Ex p H H' → Is X.K p F H' v x → R x → Q v H') → t σ H Q
structure PDT (X : Cx) (p : Qt) (e : Expr) (d : DT) : Prop where
  run : ∃ t, PT X e t ∧ ∀ (g0 : Gd) (F : List Addr) (σ : St) (H : Hp) (τ : Sl) (Q : Bool → Hp → Prop) (R : Bool → Prop), Rel X.K p g0 F σ H τ → d τ R → (∀ b H', Ex p H H' → R b → Q b H') → t σ H Q
structure PDW (X : Cx) (p : Qt) (e : Expr) (d : DT) : Prop where
  run : ∃ t, PW X e t ∧ ∀ (g0 : Gd) (F : List Addr) (σ : St) (H : Hp) (τ : Sl) (Q : Bool → Hp → Prop) (R : Bool → Prop), Rel X.K p g0 F σ H τ → d τ R → (∀ b H', Ex p H H' → R b → Q b H') → t σ H Q
structure PDA (X : Cx) (p : Qt) (es : List Expr) (d : DA) : Prop where
  run : ∃ t, PA X es t ∧ ∀ (g0 : Gd) (F : List Addr) (σ : St) (H : Hp) (τ : Sl) (Q : List V → Hp → Prop) (R : List D → Prop), Rel X.K p g0 F σ H τ → d τ R → (∀ xs vs H', Ex p H H' → IsL X.K p F H' vs xs → vs.length = es.length → R xs → Q vs H') → t σ H Q
def OpD (X : Cx) (p : Qt) (f : Value → Value → Sem Value) (g : D → D → (D → Prop) → Prop) : Prop :=
  ∃ r, OpR X f r ∧ ∀ (F : List Addr) (H : Hp) (x y : D) (v u : V) (Q : VK) (R : D → Prop), PkF p F H → Is X.K p F H v x → Is X.K p F H u y → g x y R → (∀ z v' H', Ex p H H' → Is X.K p F H' v' z → R z → Q v' H') → r v u H Q
def UnD (X : Cx) (p : Qt) (f : Value → Sem Value) (g : D → (D → Prop) → Prop) : Prop :=
  ∃ r, UnR X f r ∧ ∀ (F : List Addr) (H : Hp) (x : D) (v : V) (Q : VK) (R : D → Prop), PkF p F H → Is X.K p F H v x → g x R → (∀ z v' H', Ex p H H' → Is X.K p F H' v' z → R z → Q v' H') → r v H Q
def CallD (X : Cx) (p : Qt) (f : Value) (g : List D → (D → Prop) → Prop) : Prop :=
  ∃ r, CallR X f r ∧ ∀ (F : List Addr) (H : Hp) (xs : List D) (vs : List V) (Q : VK) (R : D → Prop), PkF p F H → IsL X.K p F H vs xs → g xs R → (∀ z v' H', Ex p H H' → Is X.K p F H' v' z → R z → Q v' H') → r vs H Q
theorem OpR.or {X : Cx} {f : Value → Value → Sem Value} {r r' : R2} (h : OpR X f r) (h' : OpR X f r') : OpR X f (fun x y H Q => r x y H Q ∨ r' x y H Q) :=
  fun pins s σ H x y v u Q I rx ry q => q.elim (h pins s σ H x y v u Q I rx ry) (h' pins s σ H x y v u Q I rx ry)
theorem CallR.or {X : Cx} {f : Value} {r r' : List V → Hp → VK → Prop} (h : CallR X f r) (h' : CallR X f r') : CallR X f (fun x H Q => r x H Q ∨ r' x H Q) :=
  fun pins s σ H xs us Q I rx q => q.elim (h pins s σ H xs us Q I rx) (h' pins s σ H xs us Q I rx)
def dVar (i : Nat) : DE := fun τ R => match τ[i]? with
  | some (some (.own _)) => False
  | some (some d) => R d
  | _ => False
def dC (d : D) : DE := fun _ R => R d
def dOp (g : D → D → (D → Prop) → Prop) (da db : DE) : DE := fun τ R => da τ fun x => db τ fun y => g x y R
def dUn (g : D → (D → Prop) → Prop) (da : DE) : DE := fun τ R => da τ fun x => g x R
def dTst (d : DE) : DT := fun τ R => d τ fun x => match x with
  | .bl b => R b
  | _ => False
def dAnd (t u : DT) : DT := fun τ R => t τ fun c => if c = true then u τ R else R false
def dOr (t u : DT) : DT := fun τ R => t τ fun c => if c = true then R true else u τ R
def dNot (t : DT) : DT := fun τ R => t τ fun c => R (!c)
def dAndV (da db : DE) : DE := fun τ R => da τ fun x => match x with
  | .bl c => if c = true then db τ R else R (.bl false)
  | _ => False
def dOrV (da db : DE) : DE := fun τ R => da τ fun x => match x with
  | .bl c => if c = true then R (.bl true) else db τ R
  | _ => False
def dNotV (da : DE) : DE := fun τ R => da τ fun x => match x with
  | .bl c => R (.bl (!c))
  | _ => False
def dIf (t : DT) (da db : DE) : DE := fun τ R => t τ fun c => if c = true then da τ R else db τ R
def dNil : DA := fun _ R => R []
def dCons (da : DE) (dr : DA) : DA := fun τ R => da τ fun x => dr τ fun xs => R (x :: xs)
def dTup (t : DA) : DE := fun τ R => t τ fun xs => R (.tup xs)
def dLst (t : DA) : DE := fun τ R => t τ fun xs => R (.lst xs)
def dB (g : List D → (D → Prop) → Prop) (t : DA) : DE := fun τ R => t τ fun xs => g xs R
section
variable {X : Cx} {p : Qt} {a b c : Expr} {da db dc : DE} {pos : Pos}
theorem pd_var (i : Nat) {x : Str} {pos : Pos} (hN : X.N[i]? = some x := by rfl) (hv : Vis X.env.scope x := by first | exact Or.inl rfl | exact Or.inr (Or.inl rfl) | exact Or.inr (Or.inr rfl)) (hd : (x == ("__debug__" : Str)) = false := by decide)
    (hcd : (x == ("__classdict__" : Str)) = false := by decide) : PD X p (.Name x pos) (dVar i) := by
  refine ⟨tVar i, pe_var hN hv hd hcd, fun g0 F σ H τ Q R rel h q => ?_⟩
  unfold dVar at h
  split at h
  · exact h.elim
  · rename_i d n e
    obtain ⟨v, h1, h2⟩ := rel.sl i d e (by cases d <;> first | rfl | exact (n _ rfl).elim)
    exact ⟨v, h1, q d v H (.refl rel.pk) h2 h⟩
  · exact h.elim
theorem pd_int {i j pos} : PD X p (.Constant (.int i) j pos) (dC (.int i)) := ⟨_, pe_int, fun g0 F σ H τ Q R rel h q => q _ _ H (.refl rel.pk) (.int i) h⟩
theorem pd_bl {b j pos} : PD X p (.Constant (.bool b) j pos) (dC (.bl b)) := ⟨_, pe_bl, fun g0 F σ H τ Q R rel h q => q _ _ H (.refl rel.pk) (.bl b) h⟩
theorem pd_non {j pos} : PD X p (.Constant .none j pos) (dC .non) := ⟨_, pe_non, fun g0 F σ H τ Q R rel h q => q _ _ H (.refl rel.pk) .non h⟩
theorem pd_str {x j pos} : PD X p (.Constant (.str x) j pos) (dC (.str x)) := ⟨_, pe_str, fun g0 F σ H τ Q R rel h q => q _ _ H (.refl rel.pk) (.str x) h⟩
theorem pd_gint {x : Str} {i : Int} {t : Tok} {pos : Pos} (hg : Gl X x) (hm : X.mg x = some (.int i t)) (hd : (x == ("__debug__" : Str)) = false := by decide) : PD X p (.Name x pos) (dC (.int i)) :=
  ⟨_, pe_glob (v := .int i) hg hm ⟨t, rfl⟩ hd, fun g0 F σ H τ Q R rel h q => q _ _ H (.refl rel.pk) (.int i) h⟩
theorem pd_ty {x : Str} {n : String} {pos : Pos} (hg : Gl X x) (hm : X.mg x = none) (hv : bootBuiltins x = some (.type n)) (hn : x ≠ "__name__" := by decide) (hd : (x == ("__debug__" : Str)) = false := by decide) : PD X p (.Name x pos) (dC (.ty n)) :=
  ⟨_, pe_bltn (v := .ty n) hg hm hv rfl hn hd, fun g0 F σ H τ Q R rel h q => q _ _ H (.refl rel.pk) (.ty n) h⟩
theorem op_run {r : R2} {ta tb : TE} {g : D → D → (D → Prop) → Prop}
    (hr : ∀ (F : List Addr) (H : Hp) (x y : D) (v u : V) (Q : VK) (R : D → Prop), PkF p F H → Is X.K p F H v x → Is X.K p F H u y → g x y R → (∀ z v' H', Ex p H H' → Is X.K p F H' v' z → R z → Q v' H') → r v u H Q)
    (ka : ∀ (g0 : Gd) (F : List Addr) (σ : St) (H : Hp) (τ : Sl) (Q : VK) (R : D → Prop), Rel X.K p g0 F σ H τ → da τ R → (∀ x v H', Ex p H H' → Is X.K p F H' v x → R x → Q v H') → ta σ H Q)
    (kb : ∀ (g0 : Gd) (F : List Addr) (σ : St) (H : Hp) (τ : Sl) (Q : VK) (R : D → Prop), Rel X.K p g0 F σ H τ → db τ R → (∀ x v H', Ex p H H' → Is X.K p F H' v x → R x → Q v H') → tb σ H Q)
    (g0 : Gd) (F : List Addr) (σ : St) (H : Hp) (τ : Sl) (Q : VK) (R : D → Prop) (rel : Rel X.K p g0 F σ H τ) (h : dOp g da db τ R) (q : ∀ x v H', Ex p H H' → Is X.K p F H' v x → R x → Q v H') : tOp r ta tb σ H Q := by
  refine ka g0 F σ H τ _ _ rel h fun x v H1 e1 i1 h1 => ?_
  refine kb g0 F σ H1 τ _ _ (rel.st e1) h1 fun y u H2 e2 i2 h2 => ?_
  exact hr F H2 x y v u Q R (rel.st (e1.trans e2)).pkf (i1.mono e2.kp) i2 h2 fun z v' H' e3 i3 r3 => q z v' H' ((e1.trans e2).trans e3) i3 r3
theorem pd_bin {op : Operator} {g} (ho : OpD X p (binaryOp op) g) (ha : PD X p a da) (hb : PD X p b db) : PD X p (.BinOp a op b pos) (dOp g da db) := by
  obtain ⟨r, h1, h2⟩ := ho
  obtain ⟨ta, a1, a2⟩ := ha.run
  obtain ⟨tb, b1, b2⟩ := hb.run
  exact ⟨_, pe_op h1 a1 b1, op_run h2 a2 b2⟩
theorem pd_cmp {op : CmpOp} {g} (ho : OpD X p (compareOp op) g) (ha : PD X p a da) (hb : PD X p b db) (hm : behindInMarks op b = false := by first | exact nomark _ | rfl) : PD X p (.Compare a [op] [b] pos) (dOp g da db) := by
  obtain ⟨r, h1, h2⟩ := ho
  obtain ⟨ta, a1, a2⟩ := ha.run
  obtain ⟨tb, b1, b2⟩ := hb.run
  exact ⟨_, pe_cmpR h1 a1 b1 hm, op_run h2 a2 b2⟩
theorem tst_run {ta : TE} (ka : ∀ (g0 : Gd) (F : List Addr) (σ : St) (H : Hp) (τ : Sl) (Q : VK) (R : D → Prop), Rel X.K p g0 F σ H τ → da τ R → (∀ x v H', Ex p H H' → Is X.K p F H' v x → R x → Q v H') → ta σ H Q)
    (g0 : Gd) (F : List Addr) (σ : St) (H : Hp) (τ : Sl) (Q : Bool → Hp → Prop) (R : Bool → Prop) (rel : Rel X.K p g0 F σ H τ) (h : dTst da τ R) (q : ∀ b H', Ex p H H' → R b → Q b H') : ta σ H fun x H' => ∃ k, x = .bl k ∧ Q k H' := by
  refine ka g0 F σ H τ _ _ rel h fun x v H1 e1 i1 h1 => ?_
  cases i1 with
  | bl b => exact ⟨b, rfl, q b H1 e1 h1⟩
  | _ => exact h1.elim
theorem pdt_cmp {op : CmpOp} {g} (ho : OpD X p (compareOp op) g) (ha : PD X p a da) (hb : PD X p b db) (hm : behindInMarks op b = false := by first | exact nomark _ | rfl) : PDT X p (.Compare a [op] [b] pos) (dTst (dOp g da db)) := by
  obtain ⟨r, h1, h2⟩ := ho
  obtain ⟨ta, a1, a2⟩ := ha.run
  obtain ⟨tb, b1, b2⟩ := hb.run
  exact ⟨_, pt_cmpR h1 a1 b1 hm, tst_run (op_run h2 a2 b2)⟩
theorem pdt_val (ha : PD X p a da) (he : ∀ whole, isTrue a X.env whole = (do let v ← whole; standAt a.pos; holding [v] (truthy v)) := by intro _; rfl) : PDT X p a (dTst da) := by
  obtain ⟨ta, a1, a2⟩ := ha.run
  exact ⟨_, pt_val a1 he, tst_run a2⟩
variable {ta tb : DT} {rest : List Expr}
theorem pdw_t (h : PDW X p a ta) : PDT X p a ta := by
  obtain ⟨t, h1, h2⟩ := h.run
  exact ⟨t, h1.pt, h2⟩
theorem pdw_and1 (ha : PDT X p a ta) : PDW X p (.BoolOp .And [a] pos) ta := by
  obtain ⟨t, h1, h2⟩ := ha.run
  exact ⟨t, pw_and1 h1, h2⟩
theorem pdw_or1 (ha : PDT X p a ta) : PDW X p (.BoolOp .Or [a] pos) ta := by
  obtain ⟨t, h1, h2⟩ := ha.run
  exact ⟨t, pw_or1 h1, h2⟩
theorem pdw_and (ha : PDT X p a ta) (hb : PDW X p (.BoolOp .And (b :: rest) pos) tb) : PDW X p (.BoolOp .And (a :: b :: rest) pos) (dAnd ta tb) := by
  obtain ⟨t, h1, h2⟩ := ha.run
  obtain ⟨u, k1, k2⟩ := hb.run
  refine ⟨_, pw_and h1 k1, fun g0 F σ H τ Q R rel h q => ?_⟩
  refine h2 g0 F σ H τ _ _ rel h fun b H1 e1 h1 => ?_
  cases b with
  | true => exact k2 g0 F σ H1 τ Q R (rel.st e1) h1 fun b H' e r => q b H' (e1.trans e) r
  | false => exact q false H1 e1 h1
theorem pdw_or (ha : PDT X p a ta) (hb : PDW X p (.BoolOp .Or (b :: rest) pos) tb) : PDW X p (.BoolOp .Or (a :: b :: rest) pos) (dOr ta tb) := by
  obtain ⟨t, h1, h2⟩ := ha.run
  obtain ⟨u, k1, k2⟩ := hb.run
  refine ⟨_, pw_or h1 k1, fun g0 F σ H τ Q R rel h q => ?_⟩
  refine h2 g0 F σ H τ _ _ rel h fun b H1 e1 h1 => ?_
  cases b with
  | false => exact k2 g0 F σ H1 τ Q R (rel.st e1) h1 fun b H' e r => q b H' (e1.trans e) r
  | true => exact q true H1 e1 h1
theorem pdt_not (ha : PDT X p a ta) : PDT X p (.UnaryOp .Not a pos) (dNot ta) := by
  obtain ⟨t, h1, h2⟩ := ha.run
  exact ⟨_, pt_not h1, fun g0 F σ H τ Q R rel h q => h2 g0 F σ H τ _ _ rel h fun b H1 e1 h1 => q _ H1 e1 h1⟩
theorem pd_one {op} (h : PD X p a da) : PD X p (.BoolOp op [a] pos) da := by
  obtain ⟨t, h1, h2⟩ := h.run
  exact ⟨t, pe_one h1, h2⟩
theorem pd_and (ha : PD X p a da) (hb : PD X p (.BoolOp .And (b :: rest) pos) db) : PD X p (.BoolOp .And (a :: b :: rest) pos) (dAndV da db) := by
  obtain ⟨t, h1, h2⟩ := ha.run
  obtain ⟨u, k1, k2⟩ := hb.run
  refine ⟨_, pe_and h1 k1, fun g0 F σ H τ Q R rel h q => ?_⟩
  refine h2 g0 F σ H τ _ _ rel h fun x v H1 e1 i1 h1 => ?_
  cases i1 with
  | bl c =>
    refine ⟨c, rfl, ?_⟩
    cases c with
    | true => exact k2 g0 F σ H1 τ Q R (rel.st e1) h1 fun x v H' e i r => q x v H' (e1.trans e) i r
    | false => exact q _ _ H1 e1 (.bl false) h1
  | _ => exact h1.elim
theorem pd_not (ha : PD X p a da) : PD X p (.UnaryOp .Not a pos) (dNotV da) := by
  obtain ⟨t, h1, h2⟩ := ha.run
  refine ⟨_, pe_not h1, fun g0 F σ H τ Q R rel h q => ?_⟩
  refine h2 g0 F σ H τ _ _ rel h fun x v H1 e1 i1 h1 => ?_
  cases i1 with
  | bl c => exact ⟨c, rfl, q _ _ H1 e1 (.bl _) h1⟩
  | _ => exact h1.elim
theorem pd_ifx (hc : PDT X p c ta) (ha : PD X p a da) (hb : PD X p b db) : PD X p (.IfExp c a b pos) (dIf ta da db) := by
  obtain ⟨t, h1, h2⟩ := hc.run
  obtain ⟨u, k1, k2⟩ := ha.run
  obtain ⟨w, l1, l2⟩ := hb.run
  refine ⟨_, pe_ifExp h1 k1 l1, fun g0 F σ H τ Q R rel h q => ?_⟩
  refine h2 g0 F σ H τ _ _ rel h fun b H1 e1 h1 => ?_
  cases b with
  | true => exact k2 g0 F σ H1 τ Q R (rel.st e1) h1 fun x v H' e i r => q x v H' (e1.trans e) i r
  | false => exact l2 g0 F σ H1 τ Q R (rel.st e1) h1 fun x v H' e i r => q x v H' (e1.trans e) i r
theorem pd_un {op : UnaryOp} {g} (ho : UnD X p (unaryOp op) g) (ha : PD X p a da) : PD X p (.UnaryOp op a pos) (dUn g da) := by
  obtain ⟨r, h1, h2⟩ := ho
  obtain ⟨t, a1, a2⟩ := ha.run
  refine ⟨_, pe_un h1 a1, fun g0 F σ H τ Q R rel h q => ?_⟩
  refine a2 g0 F σ H τ _ _ rel h fun x v H1 e1 i1 h1 => ?_
  exact h2 F H1 x v Q R (rel.st e1).pkf i1 h1 fun z v' H' e i r => q z v' H' (e1.trans e) i r
variable {es : List Expr} {ds : DA}
theorem pda_nil : PDA X p [] dNil := ⟨_, pa_nil, fun g0 F σ H τ Q R rel h q => q [] [] H (.refl rel.pk) .nil rfl h⟩
theorem pda_cons (ha : PD X p a da) (hr : PDA X p es ds) (hs : starEach (a :: es) X.env = (false, eval a X.env) :: starEach es X.env := by rfl) : PDA X p (a :: es) (dCons da ds) := by
  obtain ⟨t, h1, h2⟩ := ha.run
  obtain ⟨u, k1, k2⟩ := hr.run
  refine ⟨_, pa_cons h1 k1 hs, fun g0 F σ H τ Q R rel h q => ?_⟩
  refine h2 g0 F σ H τ _ _ rel h fun x v H1 e1 i1 h1 => ?_
  refine k2 g0 F σ H1 τ _ _ (rel.st e1) h1 fun xs vs H2 e2 i2 l2 h2 => ?_
  exact q _ _ H2 (e1.trans e2) (.cons (i1.mono e2.kp) i2) (by simp [l2]) h2
theorem pd_tup {k : Nat} (h : PDA X p es ds) (hl : es.length ≤ 1000 := by decide) : PD X p (.Tuple es k pos) (dTup ds) := by
  obtain ⟨t, h1, h2⟩ := h.run
  refine ⟨_, pe_tup h1, fun g0 F σ H τ Q R rel h q => ?_⟩
  refine h2 g0 F σ H τ _ _ rel h fun xs vs H1 e1 i1 l1 h1 => ⟨by rw [l1]; exact Nat.le_of_lt (small1000 hl), fun a ha => ?_⟩
  have e2 : Ex p H1 (upd H1 a (.tup vs)) := .new e1.pk ha
  exact q _ _ _ (e1.trans e2) (.tup (SqT.of upd_same) (e1.pk.ne ha) (i1.mono e2.kp)) h1
theorem pd_lst (h : PDA X p es ds) (hl : es.length ≤ 1000 := by decide) : PD X p (.List es pos) (dLst ds) := by
  obtain ⟨t, h1, h2⟩ := h.run
  refine ⟨_, pe_lst h1, fun g0 F σ H τ Q R rel h q => ?_⟩
  refine h2 g0 F σ H τ _ _ rel h fun xs vs H1 e1 i1 l1 h1 => ⟨by rw [l1]; exact Nat.le_of_lt (small1000 hl), fun a ha => ?_⟩
  have e2 : Ex p H1 (upd H1 a (.lst vs)) := .new e1.pk ha
  exact q _ _ _ (e1.trans e2) (.lst (Rd.of upd_same) ((rel.st e1).notF ha) (i1.mono e2.kp)) h1
theorem pd_callB {x : Str} {p' : Pos} {e : Expr} {id : String} {g} (hc : CallD X p (.builtin id) g) (hg : Gl X x) (hm : X.mg x = none) (hv : bootBuiltins x = some (.builtin id)) (ha : PDA X p (e :: es) ds) (hn : x ≠ "__name__" := by decide) (hdb : (x == ("__debug__" : Str)) = false := by decide)
    (he : starEach (e :: es) X.env = (false, eval e X.env) :: starEach es X.env := by rfl) (hpl : (backTo pos (starEach es X.env)).any (·.1) = false := by rfl) : PD X p (.Call (.Name x p') (e :: es) [] pos) (dB g ds) := by
  obtain ⟨r, c1, c2⟩ := hc
  obtain ⟨t, h1, h2⟩ := ha.run
  refine ⟨_, pe_callB c1 hg hm hv h1 hn hdb he hpl, fun g0 F σ H τ Q R rel h q => ?_⟩
  refine h2 g0 F σ H τ _ _ rel h fun xs vs H1 e1 i1 l1 h1 => ?_
  exact c2 F H1 xs vs Q R (rel.st e1).pkf i1 h1 fun z v' H' e i r => q z v' H' (e1.trans e) i r
theorem pd_callTy {x : Str} {p' : Pos} {e : Expr} {T : String} {g} (hc : CallD X p (.type T) g) (hg : Gl X x) (hm : X.mg x = none) (hv : bootBuiltins x = some (.type T)) (ha : PDA X p (e :: es) ds) (hn : x ≠ "__name__" := by decide) (hdb : (x == ("__debug__" : Str)) = false := by decide)
    (he : starEach (e :: es) X.env = (false, eval e X.env) :: starEach es X.env := by rfl) (hpl : (backTo pos (starEach es X.env)).any (·.1) = false := by rfl) : PD X p (.Call (.Name x p') (e :: es) [] pos) (dB g ds) := by
  obtain ⟨r, c1, c2⟩ := hc
  obtain ⟨t, h1, h2⟩ := ha.run
  refine ⟨_, pe_callTy c1 hg hm hv h1 hn hdb he hpl, fun g0 F σ H τ Q R rel h q => ?_⟩
  refine h2 g0 F σ H τ _ _ rel h fun xs vs H1 e1 i1 l1 h1 => ?_
  exact c2 F H1 xs vs Q R (rel.st e1).pkf i1 h1 fun z v' H' e i r => q z v' H' (e1.trans e) i r
theorem pd_callFun {x : Str} {p' : Pos} {e : Expr} {id : String} {g} (hc : CallD X p (.builtin id) g) (hg : Gl X x) (hm : X.mg x = some (.builtin id)) (ha : PDA X p (e :: es) ds) (hdb : (x == ("__debug__" : Str)) = false := by decide)
    (he : starEach (e :: es) X.env = (false, eval e X.env) :: starEach es X.env := by rfl) (hpl : (backTo pos (starEach es X.env)).any (·.1) = false := by rfl) : PD X p (.Call (.Name x p') (e :: es) [] pos) (dB g ds) := by
  obtain ⟨r, c1, c2⟩ := hc
  obtain ⟨t, h1, h2⟩ := ha.run
  refine ⟨_, pe_callBfun c1 hg hm h1 hdb he hpl, fun g0 F σ H τ Q R rel h q => ?_⟩
  refine h2 g0 F σ H τ _ _ rel h fun xs vs H1 e1 i1 l1 h1 => ?_
  exact c2 F H1 xs vs Q R (rel.st e1).pkf i1 h1 fun z v' H' e i r => q z v' H' (e1.trans e) i r
end
end DL
namespace DL
open PySem PySem.Spec L2
abbrev SpD := List D → (D → Prop) → Prop
def toSp (K : PySem.W.Frag) (tabs : Tf) (n : Nat) (sp : SpD) : Sp := fun vs H Q _ => vs.length = n ∧ ∃ (pot : Addr) (F : List Addr) (ds : List D) (R : D → Prop), PkF ⟨pot, tabs⟩ F H ∧ IsL K ⟨pot, tabs⟩ F H vs ds ∧ sp ds R ∧ ∀ x v H', Ex ⟨pot, tabs⟩ H H' → Is K ⟨pot, tabs⟩ F H' v x → R x → Q v H'
structure DEn where
  nx : Sl → Prop
  rt : D → Prop
  bk : Sl → Prop := fun _ => False
  ct : Sl → Prop := fun _ => False
  /-- a list of its own is handed out -/
  ro : List D → Prop := fun _ => False
abbrev DS := DEn → Sl → Prop
structure Agree (K : PySem.W.Frag) (p : Qt) (g : Gd) (E' : DEn) (E : Ends) : Prop where
  nx : ∀ F σ H τ, Rel K p g F σ H τ → E'.nx τ → E.nx σ H
  rt : ∀ F σ H τ v x, Rel K p g F σ H τ → Is K p F H v x → E'.rt x → E.rt v H
  bk : ∀ F σ H τ, Rel K p g F σ H τ → E'.bk τ → E.bk σ H
  ct : ∀ F σ H τ, Rel K p g F σ H τ → E'.ct τ → E.ct σ H
  ro : ∀ (F : List Addr) (σ : St) (H : Hp) (τ : Sl) (a : Addr) (vs : List V) (l : List D), Rel K p g F σ H τ → a ∈ F → a ∉ g.F0 → H a = some (.lst vs) → IsL K p F H vs l → E'.ro l → E.rt (.ref a) H := by exact fun _ _ _ _ _ _ _ _ _ _ _ _ z => z.elim
structure PDS (X : Cx) (p : Qt) (st : Stmt) (d : DS) : Prop where
  run : ∃ t, PS X st t ∧ ∀ (g : Gd) (F : List Addr) (σ : St) (H : Hp) (τ : Sl) (E : Ends) (E' : DEn), Rel X.K p g F σ H τ → d E' τ → Agree X.K p g E' E → t E σ H
structure PDSs (X : Cx) (p : Qt) (st : List Stmt) (d : DS) : Prop where
  run : ∃ t, PSs X st t ∧ ∀ (g : Gd) (F : List Addr) (σ : St) (H : Hp) (τ : Sl) (E : Ends) (E' : DEn), Rel X.K p g F σ H τ → d E' τ → Agree X.K p g E' E → t E σ H
def dNext : DS := fun E τ => E.nx τ
def dSeq (t u : DS) : DS := fun E τ => t { E with nx := u E } τ
def dRet (d : DE) : DS := fun E τ => d τ E.rt
def dRetN : DS := fun E _ => E.rt .non
def dIfS (c : DT) (t u : DS) : DS := fun E τ => c τ fun b => if b = true then t E τ else u E τ
def dDrop (d : DE) : DS := fun E τ => d τ fun _ => E.nx τ
def dNever : DS := fun _ _ => False
def dBrk : DS := fun E τ => E.bk τ
def dCnt : DS := fun E τ => E.ct τ
abbrev DG := D → Sl → (Sl → Prop) → Prop
def dAsg (d : DE) (g : DG) : DS := fun E τ => d τ fun x => g x τ E.nx
structure PDG (X : Cx) (p : Qt) (tg : Expr) (d : DG) : Prop where
  run : ∃ t : TG, PG X tg t ∧ ∀ (v : V) (x : D) (g : Gd) (F : List Addr) (σ : St) (H : Hp) (τ : Sl) (Q : St → Hp → Prop) (R : Sl → Prop), Rel X.K p g F σ H τ → Is X.K p F H v x → d x τ R → (∀ σ' H' τ', Rel X.K p g F σ' H' τ' → (∀ w y, Is X.K p F H w y → Is X.K p F H' w y) → R τ' → Q σ' H') → t v σ H Q
abbrev DGs := List D → Sl → (Sl → Prop) → Prop
structure PDGs (X : Cx) (p : Qt) (tgs : List Expr) (d : DGs) : Prop where
  run : ∃ t : TGs, PGs X tgs t ∧ ∀ (vs : List V) (xs : List D) (g : Gd) (F : List Addr) (σ : St) (H : Hp) (τ : Sl) (Q : St → Hp → Prop) (R : Sl → Prop), Rel X.K p g F σ H τ → IsL X.K p F H vs xs → d xs τ R → (∀ σ' H' τ', Rel X.K p g F σ' H' τ' → (∀ w y, Is X.K p F H w y → Is X.K p F H' w y) → R τ' → Q σ' H') → t vs σ H Q
def gN (i : Nat) : DG := fun x τ R => R (τ.set i (some x))
def gNl : DGs := fun xs τ R => match xs with
  | [] => R τ
  | _ => False
def gCn (g : DG) (gs : DGs) : DGs := fun xs τ R => match xs with
  | x :: r => g x τ fun τ' => gs r τ' R
  | _ => False
def gTu (n : Nat) (gs : DGs) : DG := fun x τ R => match x with
  | .tup xs => xs.length = n ∧ gs xs τ R
  | _ => False
def gP0 (i : Nat) : DG := fun x τ R => match τ[i]?, x with
  | some (some .pot), .int a => 0 ≤ a ∧ R τ
  | _, _ => False
def gP1 (i : Nat) : DG := fun x τ R => match τ[i]?, x with
  | some (some .pot), .int a => (0 ≤ a ∧ a < 4294967296) ∧ R τ
  | _, _ => False
section
variable {K : PySem.W.Frag} {p : Qt}
theorem IsL.all {F : List Addr} {H H' : Hp} (f : ∀ w y, Is K p F H w y → Is K p F H' w y) : ∀ {vs : List V} {xs : List D}, IsL K p F H vs xs → IsL K p F H' vs xs
  | [], _, h => by cases h; exact .nil
  | v :: vs, _, h => by
    cases h with
    | cons h1 h2 => exact .cons (f _ _ h1) (IsL.all f h2)
end
section
variable {X : Cx} {p : Qt} {pos : Pos} {st : Stmt} {rest : List Stmt} {t u : DS} {e : Expr} {d : DE}
theorem Agree.seq {K : PySem.W.Frag} {g : Gd} {E' : DEn} {E : Ends} (a : Agree K p g E' E) {n' : Sl → Prop} {n : St → Hp → Prop} (h : ∀ F σ H τ, Rel K p g F σ H τ → n' τ → n σ H) : Agree K p g { E' with nx := n' } { E with nx := n } := ⟨h, a.rt, a.bk, a.ct, a.ro⟩
theorem pdss_nil : PDSs X p [] dNext := ⟨_, pss_nil, fun g F σ H τ E E' rel h a => a.nx F σ H τ rel h⟩
theorem pdss_cons (h1 : PDS X p st t) (h2 : PDSs X p rest u) : PDSs X p (st :: rest) (dSeq t u) := by
  obtain ⟨a, a1, a2⟩ := h1.run
  obtain ⟨b, b1, b2⟩ := h2.run
  refine ⟨_, pss_cons a1 b1, fun g F σ H τ E E' rel h ag => ?_⟩
  exact a2 g F σ H τ _ _ rel h (ag.seq fun F' σ' H' τ' rel' h' => b2 g F' σ' H' τ' E E' rel' h' ag)
theorem pdss_one (h1 : PDS X p st t) : PDSs X p [st] t := by
  obtain ⟨a, a1, a2⟩ := h1.run
  exact ⟨_, pss_one a1, a2⟩
theorem pds_never : PDS X p st dNever := ⟨_, ps_never, fun _ _ _ _ _ _ _ _ h _ => h.elim⟩
theorem pds_ret (he : PD X p e d) : PDS X p (.Return (some e) pos) (dRet d) := by
  obtain ⟨a, a1, a2⟩ := he.run
  exact ⟨_, ps_ret a1, fun g F σ H τ E E' rel h ag => a2 g F σ H τ _ _ rel h fun x v H' e1 i1 r1 => ag.rt F σ H' τ v x (rel.st e1) i1 r1⟩
theorem pds_expr (he : PD X p e d) (hs : swapsWith e none pos.line X.env = pure false := by rfl) : PDS X p (.Expr e pos) (dDrop d) := by
  obtain ⟨a, a1, a2⟩ := he.run
  exact ⟨_, ps_expr a1 hs, fun g F σ H τ E E' rel h ag => a2 g F σ H τ _ _ rel h fun x v H' e1 i1 r1 => ag.nx F σ H' τ (rel.st e1) r1⟩
theorem pds_if {c : Expr} {a b : List Stmt} {tc : DT} (hc : PDT X p c tc) (ha : PDSs X p a t) (hb : PDSs X p b u) : PDS X p (.If c a b pos) (dIfS tc t u) := by
  obtain ⟨c0, c1, c2⟩ := hc.run
  obtain ⟨a0, a1, a2⟩ := ha.run
  obtain ⟨b0, b1, b2⟩ := hb.run
  refine ⟨_, ps_if c1 a1 b1, fun g F σ H τ E E' rel h ag => ?_⟩
  refine c2 g F σ H τ _ _ rel h fun b H1 e1 h1 => ?_
  cases b with
  | true => exact a2 g F σ H1 τ E E' (rel.st e1) h1 ag
  | false => exact b2 g F σ H1 τ E E' (rel.st e1) h1 ag
theorem pds_set {i : Nat} {x : Str} {pos' : Pos} (hN : X.N.Nodup) (hi : X.N[i]? = some x) (hx : Loc X.env.scope x) (he : PD X p e d) (hs : swapsWith e (some (.Name x pos')) pos.line X.env = pure false := by rfl) (hf : X.fn x = true ∨ X.env.scope.names.lookup x = some .local := by first | exact .inl rfl | exact .inr rfl | assumption) :
    PDS X p (.Assign [.Name x pos'] e pos) (dAsg d (gN i)) := by
  obtain ⟨a, a1, a2⟩ := he.run
  refine ⟨_, ps_set hN hi hx a1 hs hf, fun g F σ H τ E E' rel h ag => ?_⟩
  exact a2 g F σ H τ _ _ rel h fun x v H' e1 i1 r1 => ag.nx F _ H' _ ((rel.st e1).set i1) r1
theorem pdg_name {i : Nat} {x : Str} (hN : X.N.Nodup) (hi : X.N[i]? = some x) (hx : Loc X.env.scope x) (hf : X.fn x = true ∨ X.env.scope.names.lookup x = some .local := by first | exact .inl rfl | exact .inr rfl | assumption) : PDG X p (.Name x pos) (gN i) :=
  ⟨_, pg_name hN hi hx hf, fun v x g F σ H τ Q R rel i1 h q => q _ H _ (rel.set i1) (fun _ _ z => z) h⟩
theorem pdgs_nil : PDGs X p [] gNl := by
  refine ⟨_, pgs_nil, fun vs xs g F σ H τ Q R rel i1 h q => ?_⟩
  cases i1 with
  | nil => exact ⟨rfl, q σ H τ rel (fun _ _ z => z) h⟩
  | cons _ _ => exact h.elim
theorem pdgs_cons {es : List Expr} {g : DG} {gs : DGs} (h1 : PDG X p e g) (h2 : PDGs X p es gs) (hs : (assignEach (e :: es) X.env).map (·.2) = assign e X.env :: (assignEach es X.env).map (·.2) := by rfl) : PDGs X p (e :: es) (gCn g gs) := by
  obtain ⟨a, a1, a2⟩ := h1.run
  obtain ⟨b, b1, b2⟩ := h2.run
  refine ⟨_, pgs_cons a1 b1 hs, fun vs xs g0 F σ H τ Q R rel i1 h q => ?_⟩
  cases i1 with
  | nil => exact h.elim
  | cons i1 i2 =>
    refine ⟨_, _, rfl, a2 _ _ g0 F σ H τ _ _ rel i1 h fun σ' H' τ' rel1 k1 h1 => ?_⟩
    exact b2 _ _ g0 F σ' H' τ' _ _ rel1 (i2.all k1) h1 fun σ2 H2 τ2 rel2 k2 r2 => q σ2 H2 τ2 rel2 (fun w y z => k2 w y (k1 w y z)) r2
theorem pdg_tup {es : List Expr} {k n : Nat} {gs : DGs} (hc : X.calm = true) (h : PDGs X p es gs) (hn : (assignEach es X.env).length = n := by rfl) (hst : (assignEach es X.env).findIdx? (·.1) = none := by rfl) : PDG X p (.Tuple es k pos) (gTu n gs) := by
  obtain ⟨a, a1, a2⟩ := h.run
  refine ⟨_, pg_tup hc a1 hn hst, fun v x g F σ H τ Q R rel i1 h q => ?_⟩
  cases i1 with
  | tup s ne il =>
    obtain ⟨hl, h⟩ := h
    exact ⟨_, _, rfl, s, by rw [il.len]; exact hl, a2 _ _ g F σ H τ _ _ rel il h q⟩
  | _ => exact h.elim
theorem Ex.pot {H : Hp} {a b : Int} (k : Pk p H) (h0 : 0 ≤ a) (h1 : 0 ≤ b) (h2 : b < 4294967296) : Ex p H (upd H p.pot (.lst [.int a, .int b])) := by
  obtain ⟨_, _, _, _, _, e⟩ := k.at_
  refine ⟨fun c o n _ e => by rw [upd_ne n]; exact e, ⟨a, b, h0, h1, h2, upd_same⟩, fun t ht => TabG.upd (k.tb t ht) fun z => ?_, Tabs.put k.lt e, k.lp⟩
  obtain ⟨_, e', _⟩ := k.tb t ht
  rw [← z, e] at e'
  cases e'
theorem pdg_p0 {i : Nat} {o ix : Expr} (hi : X.N[i]? = X.N[i]?) (ho : PD X p o (dVar i)) (hx : PD X p ix (dC (.int 0)))
    (ha : ∀ v, assign (.Subscript o ix pos) X.env v = (do
      let ov ← holding [v] (eval o X.env)
      let iv ← holding [v, ov] (eval ix X.env)
      standAt pos
      holding [v, ov, iv] (setItem ov iv v)
      release [v, ov, iv] []) := by intro _; rfl) : PDG X p (.Subscript o ix pos) (gP0 i) := by
  obtain ⟨a, a1, a2⟩ := ho.run
  obtain ⟨b, b1, b2⟩ := hx.run
  refine ⟨_, pg_sub a1 b1 set_list ha, fun v x g F σ H τ Q R rel i1 h q => ?_⟩
  unfold gP0 at h
  split at h
  · rename_i z hz
    obtain ⟨h0, hR⟩ := h
    refine a2 g F σ H τ _ (fun d => d = .pot) rel (by unfold dVar; rw [hz]) fun d ov H1 e1 j1 hd => ?_
    subst hd
    refine b2 g F σ H1 τ _ (fun d => d = .int 0) (rel.st e1) rfl fun d iv H2 e2 j2 hd => ?_
    subst hd
    cases j1
    cases j2
    cases i1
    obtain ⟨x, y, p0, p1, p2, hp⟩ := e2.pk.at_
    refine ⟨p.pot, _, 0, 0, rfl, rfl, hp, rfl, ?_⟩
    have e3 : Ex p H2 (upd H2 p.pot (.lst ([V.int x, V.int y].set 0 (V.int z)))) := .pot e2.pk h0 p1 p2
    exact q σ _ τ (rel.st ((e1.trans e2).trans e3)) (fun w y z => z.mono ((e1.trans e2).trans e3).kp) hR
  · exact h.elim
theorem pdg_p1 {i : Nat} {o ix : Expr} (hi : X.N[i]? = X.N[i]?) (ho : PD X p o (dVar i)) (hx : PD X p ix (dC (.int 1)))
    (ha : ∀ v, assign (.Subscript o ix pos) X.env v = (do
      let ov ← holding [v] (eval o X.env)
      let iv ← holding [v, ov] (eval ix X.env)
      standAt pos
      holding [v, ov, iv] (setItem ov iv v)
      release [v, ov, iv] []) := by intro _; rfl) : PDG X p (.Subscript o ix pos) (gP1 i) := by
  obtain ⟨a, a1, a2⟩ := ho.run
  obtain ⟨b, b1, b2⟩ := hx.run
  refine ⟨_, pg_sub a1 b1 set_list ha, fun v x g F σ H τ Q R rel i1 h q => ?_⟩
  unfold gP1 at h
  split at h
  · rename_i z hz
    obtain ⟨⟨h0, h1⟩, hR⟩ := h
    refine a2 g F σ H τ _ (fun d => d = .pot) rel (by unfold dVar; rw [hz]) fun d ov H1 e1 j1 hd => ?_
    subst hd
    refine b2 g F σ H1 τ _ (fun d => d = .int 1) (rel.st e1) rfl fun d iv H2 e2 j2 hd => ?_
    subst hd
    cases j1
    cases j2
    cases i1
    obtain ⟨x, y, p0, p1, p2, hp⟩ := e2.pk.at_
    refine ⟨p.pot, _, 1, 1, rfl, rfl, hp, rfl, ?_⟩
    have e3 : Ex p H2 (upd H2 p.pot (.lst ([V.int x, V.int y].set 1 (V.int z)))) := .pot e2.pk p0 h0 h1
    exact q σ _ τ (rel.st ((e1.trans e2).trans e3)) (fun w y z => z.mono ((e1.trans e2).trans e3).kp) hR
  · exact h.elim
theorem pds_asg {tg : Expr} {g : DG} (he : PD X p e d) (hg : PDG X p tg g) (hs : swapsWithSole [tg] e pos.line X.env = pure false := by rfl) (hw : swappedStores [tg] e X.env = pure none := by rfl)
    (h1 : (assignEach [tg] X.env).map (·.2) = [assign tg X.env] := by rfl) : PDS X p (.Assign [tg] e pos) (dAsg d g) := by
  obtain ⟨a, a1, a2⟩ := he.run
  obtain ⟨b, b1, b2⟩ := hg.run
  refine ⟨_, ps_asg a1 b1 hs hw h1, fun g F σ H τ E E' rel h ag => ?_⟩
  refine a2 g F σ H τ _ _ rel h fun x v H1 e1 i1 r1 => ?_
  exact b2 v x g F σ H1 τ _ _ (rel.st e1) i1 r1 fun σ' H' τ' rel2 _ r2 => ag.nx F σ' H' τ' rel2 r2
def dPar (i j : Nat) (t : DA) : DS := fun E τ => t τ fun xs => match xs with
  | [x, y] => E.nx ((τ.set i (some x)).set j (some y))
  | _ => False
theorem pds_par {i j : Nat} {x y : Str} {a b : Expr} {ta : DA} {px py pt : Pos} {kt k2 pt2} (hc : X.calm = true) (hN : X.N.Nodup) (hi : X.N[i]? = some x) (hj : X.N[j]? = some y) (hij : i ≠ j)
    (hx : X.env.scope.names.lookup x = some .local) (hy : X.env.scope.names.lookup y = some .local) (ha : PDA X p [a, b] ta)
    (hw : swappedStores [.Tuple [.Name x px, .Name y py] kt pt] (.Tuple [a, b] k2 pt2) X.env = pure (some [x, y]))
    (hs : swapsWithSole [.Tuple [.Name x px, .Name y py] kt pt] (.Tuple [a, b] k2 pt2) pos.line X.env = pure false := by rfl) :
    PDS X p (.Assign [.Tuple [.Name x px, .Name y py] kt pt] (.Tuple [a, b] k2 pt2) pos) (dPar i j ta) := by
  obtain ⟨a, a1, a2⟩ := ha.run
  refine ⟨_, ps_par hc hN hi hj hij hx hy a1 hw hs, fun g F σ H τ E E' rel h ag => ?_⟩
  refine a2 g F σ H τ _ _ rel h fun xs vs H1 e1 i1 l1 r1 => ?_
  cases i1 with
  | nil => exact r1.elim
  | cons i1 i2 =>
    cases i2 with
    | nil => exact r1.elim
    | cons i2 i3 =>
      cases i3 with
      | nil => exact ⟨_, _, rfl, ag.nx F _ H1 _ (((rel.st e1).set i1).set i2) r1⟩
      | cons _ _ => exact r1.elim
def dPar3 (i j l : Nat) (t : DA) : DS := fun E τ => t τ fun xs => match xs with
  | [x, y, z] => E.nx (((τ.set i (some x)).set j (some y)).set l (some z))
  | _ => False
end
def Gd.cut (g : Gd) (F : List Addr) (H : Hp) : Gd := ⟨g.F0, F.filter (fun b => decide (b ∉ g.F0)), H⟩
section
variable {K : PySem.W.Frag} {p : Qt} {g : Gd} {F F' : List Addr} {σ σ' : St} {H H' : Hp} {τ τ' : Sl}
theorem Rel.cut (r : Rel K p g F σ H τ) : Rel K p (g.cut F H) F σ H τ where
  pk := r.pk
  kp := fun _ _ _ _ _ e => e
  sub := r.sub
  al := r.al
  fo := fun b hb => by
    by_cases h : b ∈ g.F0
    · exact .inl h
    · exact .inr (.inl (List.mem_filter.mpr ⟨hb, by simpa using h⟩))
  sl := r.sl
  ow := r.ow
  un := r.un
  len := r.len
theorem Rel.back (r : Rel K p g F σ H τ) (r' : Rel K p (g.cut F H) F' σ' H' τ') : Rel K p g F' σ' H' τ' where
  pk := r'.pk
  kp := fun b o n nb t e => by
    refine r'.kp b o n (fun z => ?_) t (r.kp b o n nb t e)
    obtain ⟨z1, z2⟩ := List.mem_filter.mp z
    rcases r.fo b z1 with q | q | q
    · exact (by simpa using z2 : b ∉ g.F0) q
    · exact nb q
    · exact q o t e
  sub := r'.sub
  al := r'.al
  fo := fun b hb => by
    rcases r'.fo b hb with q | q | q
    · exact .inl q
    · exact r.fo b (List.mem_filter.mp q).1
    · by_cases hB : b ∈ g.B
      · exact .inr (.inl hB)
      · exact .inr (.inr fun o t e => q o t (r.kp b o (r'.al b hb).1 hB t e))
  sl := r'.sl
  ow := r'.ow
  un := r'.un
  len := r'.len
theorem Rel.since (r' : Rel K p (g.cut F H) F' σ' H' τ') {b : Addr} {o : HO} (n : b ≠ p.pot) (nf : b ∉ F) (t : NoT o) (e : H b = some o) : H' b = some o :=
  r'.kp b o n (fun z => nf (List.mem_filter.mp z).1) t e
theorem Rel.isl {vs : List V} {l : List D} (r' : Rel K p (g.cut F H) F' σ' H' τ') (i : IsL K p F H vs l) (k : ∀ b o, b ≠ p.pot → b ∉ F → NoT o → H b = some o → H' b = some o) (al : ∀ b ∈ F, ∃ o, H b = some o ∧ isMut o) (s0 : ∀ b ∈ g.F0, b ∈ F) : IsL K p F' H' vs l :=
  IsL.rec (motive_1 := fun v d _ => Is K p F' H' v d) (motive_2 := fun vs l _ => IsL K p F' H' vs l) .non .bl .int .str .ty .fn
    (fun {a vs l} h n _ ih => .tup (by
      rcases h with (h | ⟨o, h⟩) | h
      · refine .inl (.inl (k _ _ n (fun z => ?_) (fun _ z => nomatch z) h))
        obtain ⟨o, q, m⟩ := al a z
        rw [h] at q
        cases q
        exact m
      · refine .inl (.inr ⟨o, k _ _ n (fun z => ?_) (fun _ z => nomatch z) h⟩)
        obtain ⟨o, q, m⟩ := al a z
        rw [h] at q
        cases q
        exact m
      · exact .inr h) n ih)
    (fun {a vs l} h m _ ih => .lst (by
      rcases h with h | ⟨o, h⟩
      · exact .inl (k _ _ m.1 m.2 (fun _ z => nomatch z) h)
      · exact .inr ⟨o, k _ _ m.1 m.2 (fun _ z => nomatch z) h⟩) ⟨m.1, fun z => by
        rcases r'.fo _ z with q | q | q
        · exact m.2 (s0 _ q)
        · exact m.2 (List.mem_filter.mp q).1
        · obtain ⟨o, h1, h2⟩ := Rdl.noT h
          exact q o h1 h2⟩ ih) .pot .nil (fun _ _ i1 i2 => .cons i1 i2) i
end
structure ExF (p : Qt) (F : List Addr) (H H' : Hp) : Prop where
  kp : ∀ b o, b ≠ p.pot → b ∉ F → NoT o → H b = some o → H' b = some o
  pk : Pk p H'
structure WD (K : PySem.W.Frag) (p : Qt) (F : List Addr) (J : It) (H0 : Hp) (l : List D) : Prop where
  step : ∀ (i : Nat) (H : Hp) (F' : List Addr), ExF p F H0 H → (∀ {vs : List V} {l : List D}, IsL K p F H0 vs l → IsL K p F' H vs l) → PkF p F' H → i < l.length → J.go i H ∧ ∀ x H', J.yld i H x H' → Ex p H H' ∧ ∃ d, l[i]? = some d ∧ Is K p F' H' x d
  stop : ∀ H, ExF p F H0 H → J.stop l.length H
abbrev DI := Sl → (List D → Prop) → Prop
structure PDI (X : Cx) (p : Qt) (tg iter : Expr) (d : DI) : Prop where
  run : ∃ wi, PI X tg iter wi ∧ ∀ (g : Gd) (F : List Addr) (σ : L2.St) (H : Hp) (τ : Sl) (Rw : It → Hp → Prop) (R : List D → Prop), Rel X.K p g F σ H τ → d τ R → (∀ J H1 l, Ex p H H1 → WD X.K p F J H1 l → R l → Rw J H1) → wi σ H Rw
def dForGo (g : DG) (body : DS) (E : DEn) : List D → Sl → Prop
  | [], τ => E.nx τ
  | x :: r, τ => g x τ fun τ2 => body { nx := dForGo g body E r, rt := E.rt, bk := E.nx, ct := dForGo g body E r } τ2
def dFor (it : DI) (g : DG) (body : DS) : DS := fun E τ => it τ fun l => dForGo g body E l τ
def dWhile (c : DT) (body : DS) : DS := fun E τ => ∃ W : Nat → Sl → Prop, (∃ m, W m τ) ∧ ∀ m τ, W m τ → c τ fun b => if b = true then body { nx := fun τ' => ∃ m', m' < m ∧ W m' τ', rt := E.rt, bk := E.nx, ct := fun τ' => ∃ m', m' < m ∧ W m' τ' } τ else E.nx τ
section
variable {X : Cx} {p : Qt} {pos : Pos}
theorem drop_at {l : List D} {i : Nat} {d : D} (h : l[i]? = some d) : l.drop i = d :: l.drop (i + 1) := by
  obtain ⟨hi, e⟩ := List.getElem?_eq_some_iff.mp h
  rw [List.drop_eq_getElem_cons hi, e]
theorem pds_for {tg iter : Expr} {body : List Stmt} {it : DI} {gt : DG} {b : DS} (hc : X.calm = true) (hp : PassesOwn (model X.prog X.w) X.A X.env X.xe) (hi : PDI X p tg iter it) (hg : PDG X p tg gt) (hb : PDSs X p body b)
    (hs : ∀ x, foldedSetIterable iter X.env x = pure x := by intro _; rfl) : PDS X p (.For tg iter body [] pos) (dFor it gt b) := by
  obtain ⟨wi, i1, i2⟩ := hi.run
  obtain ⟨tg', g1, g2⟩ := hg.run
  obtain ⟨tb, b1, b2⟩ := hb.run
  refine ⟨_, ps_for hp hc i1 g1 b1 hs, fun g F σ H τ E E' rel h ag => ?_⟩
  refine i2 g F σ H τ _ _ rel h fun J H1 l e1 wd h1 => ?_
  have rel1 := rel.st e1
  have isl : ∀ {F' : List Addr} {σ' : L2.St} {H' : Hp} {τ' : Sl}, Rel X.K p (g.cut F H1) F' σ' H' τ' → ∀ {vs : List V} {l : List D}, IsL X.K p F H1 vs l → IsL X.K p F' H' vs l := by
    intro F' σ' H' τ' r' vs l i
    exact r'.isl i (fun b o n nf t e => r'.since n nf t e) (fun b hb => (rel1.al b hb).2) rel1.sub
  refine ⟨fun i m σ' H' => i ≤ l.length ∧ m = l.length - i ∧ ∃ F' τ', Rel X.K p (g.cut F H1) F' σ' H' τ' ∧ dForGo gt b E' (l.drop i) τ', ⟨_, Nat.zero_le _, rfl, F, τ, rel1.cut, h1⟩, ?_⟩
  rintro i m σ' H' ⟨hi, rfl, F', τ', rel', h'⟩
  have exf : ExF p F H1 H' := ⟨fun b o n nf t e => rel'.since n nf t e, rel'.pk⟩
  by_cases hlt : i < l.length
  · obtain ⟨go, y⟩ := wd.step i H' F' exf (isl rel') rel'.pkf hlt
    refine .inr ⟨go, fun σ2 H2 => i + 1 ≤ l.length ∧ ∃ F2 τ2, Rel X.K p (g.cut F H1) F2 σ2 H2 τ2 ∧ dForGo gt b E' (l.drop (i + 1)) τ2, fun σ2 H2 ⟨q1, q2⟩ => ⟨_, by omega, q1, rfl, q2⟩, fun x H2 yl => ?_⟩
    obtain ⟨e2, d, hd, hx⟩ := y x H2 yl
    rw [drop_at hd] at h'
    refine g2 x d (g.cut F H1) F' σ' H2 τ' _ _ (rel'.st e2) hx h' fun σ3 H3 τ3 rel3 _ h3 => ?_
    refine b2 (g.cut F H1) F' σ3 H3 τ3 _ _ rel3 h3 ⟨fun F4 σ4 H4 τ4 rel4 h4 => ⟨hlt, F4, τ4, rel4, h4⟩, fun F4 σ4 H4 τ4 v x rel4 i4 h4 => ag.rt F4 σ4 H4 τ4 v x (rel1.back rel4) i4 h4, fun F4 σ4 H4 τ4 rel4 h4 => ag.nx F4 σ4 H4 τ4 (rel1.back rel4) h4, fun F4 σ4 H4 τ4 rel4 h4 => ⟨hlt, F4, τ4, rel4, h4⟩, fun _ _ _ _ _ _ _ _ _ _ _ _ z => z.elim⟩
  · have e : i = l.length := by omega
    subst e
    rw [List.drop_length] at h'
    exact .inl ⟨wd.stop H' exf, ag.nx F' σ' H' τ' (rel1.back rel') h'⟩
theorem pds_while {c : Expr} {body : List Stmt} {dc : DT} {b : DS} (hp : PassesOwn (model X.prog X.w) X.A X.env X.xe) (hc : PDT X p c dc) (hb : PDSs X p body b) : PDS X p (.While c body [] pos) (dWhile dc b) := by
  obtain ⟨tc, c1, c2⟩ := hc.run
  obtain ⟨tb, b1, b2⟩ := hb.run
  refine ⟨_, ps_while hp c1 b1, fun g F σ H τ E E' rel h ag => ?_⟩
  obtain ⟨W, ⟨m0, w0⟩, turn⟩ := h
  refine ⟨fun m σ' H' => ∃ F' τ', Rel X.K p g F' σ' H' τ' ∧ W m τ', ⟨m0, F, τ, rel, w0⟩, ?_⟩
  rintro m σ' H' ⟨F', τ', rel', w'⟩
  refine c2 g F' σ' H' τ' _ _ rel' (turn m τ' w') fun t H1 e1 h1 => ?_
  cases t with
  | false =>
    rw [if_neg Bool.false_ne_true] at h1 ⊢
    exact ag.nx _ _ _ _ (rel'.st e1) h1
  | true =>
    rw [if_pos rfl] at h1 ⊢
    refine ⟨fun σ2 H2 => ∃ F2 τ2, Rel X.K p g F2 σ2 H2 τ2 ∧ ∃ m', m' < m ∧ W m' τ2, fun σ2 H2 ⟨F2, τ2, q2, m', q3, q4⟩ => ⟨m', q3, F2, τ2, q2, q4⟩, ?_⟩
    exact b2 g F' σ' H1 τ' _ _ (rel'.st e1) h1 ⟨fun F4 σ4 H4 τ4 rel4 h4 => ⟨F4, τ4, rel4, h4⟩, fun F4 σ4 H4 τ4 v x rel4 i4 h4 => ag.rt F4 σ4 H4 τ4 v x rel4 i4 h4, fun F4 σ4 H4 τ4 rel4 h4 => ag.nx F4 σ4 H4 τ4 rel4 h4, fun F4 σ4 H4 τ4 rel4 h4 => ⟨F4, τ4, rel4, h4⟩, fun _ _ _ _ _ _ _ _ _ _ _ _ z => z.elim⟩
end
end DL
namespace DL
open PySem PySem.Spec L2
def gII (g : Int → Int → D) : D → D → (D → Prop) → Prop := fun x y R => match x, y with
  | .int i, .int j => R (g i j)
  | _, _ => False
def gIIc (C : Int → Int → Prop) (g : Int → Int → D) : D → D → (D → Prop) → Prop := fun x y R => match x, y with
  | .int i, .int j => C i j ∧ R (g i j)
  | _, _ => False
section
variable {X : Cx} {p : Qt}
theorem opd_I0 {f : Value → Value → Sem Value} {gv : Int → Int → V} {g : Int → Int → D} (h : OpR X f (rI0 gv)) (hg : ∀ i j F H, Is X.K p F H (gv i j) (g i j)) : OpD X p f (gII g) := by
  refine ⟨_, h, fun F H x y v u Q R pk ix iy hh q => ?_⟩
  cases ix with
  | int i =>
    cases iy with
    | int j => exact ⟨i, j, rfl, rfl, q _ _ H (.refl pk.pk) (hg i j F H) hh⟩
    | _ => exact hh.elim
  | _ => exact hh.elim
theorem opd_I {f : Value → Value → Sem Value} {C C' : Int → Int → Prop} {gv : Int → Int → V} {g : Int → Int → D} (h : OpR X f (rI C gv)) (hc : ∀ i j, C' i j → C i j) (hg : ∀ i j F H, C' i j → Is X.K p F H (gv i j) (g i j)) : OpD X p f (gIIc C' g) := by
  refine ⟨_, h, fun F H x y v u Q R pk ix iy hh q => ?_⟩
  cases ix with
  | int i =>
    cases iy with
    | int j => exact ⟨i, j, rfl, rfl, hc i j hh.1, q _ _ H (.refl pk.pk) (hg i j F H hh.1) hh.2⟩
    | _ => exact hh.elim
  | _ => exact hh.elim
def gAdd : D → D → (D → Prop) → Prop := fun x y R => match x, y with
  | .int i, .int j => R (.int (i + j))
  | .tup l, .tup m => l.length + m.length ≤ 1000000 ∧ R (.tup (l ++ m))
  | _, _ => False
theorem opd_add : OpD X p (binaryOp .Add) gAdd := by
  refine ⟨_, op_add.or op_catA, fun F H x y v u Q R pk ix iy hh q => ?_⟩
  cases ix with
  | int i =>
    cases iy with
    | int j => exact .inl ⟨i, j, rfl, rfl, q _ _ H (.refl pk.pk) (.int _) hh⟩
    | _ => exact hh.elim
  | @tup a vs l hs hn hl =>
    cases iy with
    | @tup b ws m hs' hn' hl' =>
      have h1 := hl.len
      have h2 := hl'.len
      refine .inr ⟨a, b, vs, ws, rfl, rfl, hs, hs', ?_, fun e => ?_, fun _ e => ?_, fun _ _ c hc => ?_⟩
      · have : sizeLine = 16777216 := sizeLine_eq
        have := hh.1
        omega
      · subst e
        cases hl
        exact q _ _ H (.refl pk.pk) (.tup hs' hn' hl') hh.2
      · subst e
        cases hl'
        exact q _ _ H (.refl pk.pk) (.tup hs hn hl) (by simpa using hh.2)
      · have e := Ex.new (o := .tup (vs ++ ws)) pk.pk hc
        exact q _ _ _ e (.tup (SqT.of upd_same) (pk.ne hc) ((hl.mono e.kp).app (hl'.mono e.kp))) hh.2
    | _ => exact hh.elim
  | _ => exact hh.elim
abbrev gSub := gII fun i j => .int (i - j)
theorem opd_sub : OpD X p (binaryOp .Sub) gSub := opd_I0 op_sub fun _ _ _ _ => .int _
structure MulC (i j : Int) : Prop where
  ok : IntMulOk i j
theorem MulC.left {i j : Int} (h0 : -18446744073709551616 < i) (h1 : i < 18446744073709551616) : MulC i j := ⟨CMul.ok (.inl ⟨h0, h1⟩)⟩
theorem MulC.right {i j : Int} (h0 : -18446744073709551616 < j) (h1 : j < 18446744073709551616) : MulC i j := ⟨CMul.ok (.inr ⟨h0, h1⟩)⟩
theorem MulC.wide {i j : Int} (h0 : -1606938044258990275541962092341162602522202993782792835301376 < i) (h1 : i < 1606938044258990275541962092341162602522202993782792835301376) (h2 : -1606938044258990275541962092341162602522202993782792835301376 < j) (h3 : j < 1606938044258990275541962092341162602522202993782792835301376) : MulC i j := by
  have e : (2 : Nat) ^ 200 = 1606938044258990275541962092341162602522202993782792835301376 := by decide +kernel
  exact ⟨CMulW.ok (wide_mul (a := 200) (b := 200) (by rw [e]; omega) (by rw [e]; omega) (by decide) (by decide) (by decide))⟩
abbrev gMul := gIIc MulC fun i j => .int (i * j)
theorem opd_mul : OpD X p (binaryOp .Mult) gMul :=
  opd_I (C := MulC) (X := X) (gv := fun i j => .int (i * j)) (opI fun _ _ _ _ _ _ _ hc q => PyProof.Rows.mul_int q hc.ok) (fun _ _ h => h) fun _ _ _ _ _ => .int _
structure BD (j : Int) : Prop where
  pos : 0 < j
  few : j.natAbs.log2 < 8990
theorem BD.of {j : Int} (h0 : 0 < j) (h1 : j < 1606938044258990275541962092341162602522202993782792835301376) : BD j := by
  have e : (1606938044258990275541962092341162602522202993782792835301376 : Nat) ≤ 2 ^ 512 := by decide +kernel
  have l : j.natAbs.log2 < 512 := PySem.Flt.log2_lt_of (by decide) (Nat.lt_of_lt_of_le (by omega) e)
  exact ⟨h0, by omega⟩
abbrev gDiv := gIIc (fun _ j => BD j) fun i j => .int (i / j)
theorem opd_div : OpD X p (binaryOp .FloorDiv) gDiv :=
  opd_I op_fdivW (fun i j h => ⟨h.1, by have h2 := h.2; omega⟩) fun _ _ _ _ _ => .int _
abbrev gMod := gIIc (fun _ j => 0 < j) fun i j => .int (i % j)
theorem opd_mod : OpD X p (binaryOp .Mod) gMod := opd_I op_mod (fun _ _ h => h) fun _ _ _ _ _ => .int _
abbrev gPow := gIIc (fun i j => 0 ≤ j ∧ j ≤ 1000000 ∧ -(2 ^ 64) < i ∧ i < 2 ^ 64) fun i j => .int (i ^ j.toNat)
theorem opd_pow : OpD X p (binaryOp .Pow) gPow := opd_I op_pow (fun i j h => ⟨h.1, h.2.1, by have h1 := h.2.2.1; have h2 := h.2.2.2; omega⟩) fun _ _ _ _ _ => .int _
theorem opd_lt : OpD X p (compareOp .Lt) (gII fun i j => .bl (decide (i < j))) := opd_I0 op_lt fun _ _ _ _ => .bl _
theorem opd_gt : OpD X p (compareOp .Gt) (gII fun i j => .bl (decide (j < i))) := opd_I0 op_gt fun _ _ _ _ => .bl _
theorem opd_ge : OpD X p (compareOp .GtE) (gII fun i j => .bl (decide (j ≤ i))) := opd_I0 op_ge fun _ _ _ _ => .bl _
mutual
def toP : D → PyData
  | .non => .none
  | .bl b => .bool b
  | .int i => .int i
  | .str x => .str x
  | .ty _ => .none
  | .fn _ => .none
  | .pot => .none
  | .own _ => .none
  | .tup l => .tuple (toPs l)
  | .lst l => .list (toPs l)
def toPs : List D → List PyData
  | [] => []
  | d :: l => toP d :: toPs l
end
mutual
def pure? : D → Bool
  | .ty _ => false
  | .fn _ => false
  | .pot => false
  | .own _ => false
  | .tup l => pures? l
  | .lst l => pures? l
  | _ => true
def pures? : List D → Bool
  | [] => true
  | d :: l => pure? d && pures? l
end
theorem Is.dp {K : PySem.W.Frag} {p : Qt} {F : List Addr} {H : Hp} {v : V} {d : D} (h : Is K p F H v d) : pure? d = true → Dp K H v (toP d) :=
  Is.rec (motive_1 := fun v d _ => pure? d = true → Dp K H v (toP d)) (motive_2 := fun vs l _ => pures? l = true → DpAll K H vs (toPs l))
    (fun _ => .non) (fun b _ => .bl b) (fun i _ => .int i) (fun x _ => .str x) (fun _ z => nomatch z) (fun _ z => nomatch z)
    (fun h _ _ ih z => .tup h (ih z)) (fun h _ _ ih z => .lst (Rdl.sq h) (ih z)) (fun z => nomatch z) (fun _ => .nil)
    (fun _ _ i1 i2 z => by
      have z' := Bool.and_eq_true_iff.mp z
      exact .cons (i1 z'.1) (i2 z'.2)) h
-- no text, type or pot in it; at most so deep
mutual
def shp : Nat → D → Bool
  | _, .non => true
  | _, .bl _ => true
  | _, .int _ => true
  | _, .str x => PyData.strOk x
  | n + 1, .tup l => shps n l
  | n + 1, .lst l => shps n l
  | _, _ => false
def shps : Nat → List D → Bool
  | _, [] => true
  | n, d :: l => shp n d && shps n l
end
theorem shp_all : ∀ (n : Nat), (∀ d : D, shp n d = true → pure? d = true ∧ (toP d).canLay0 = true ∧ (toP d).depth ≤ n ∧ (toP d).hasDict = false) ∧
    ∀ l : List D, shps n l = true → pures? l = true ∧ PyData.canLayAll0 (toPs l) = true ∧ PyData.depthAll (toPs l) ≤ n ∧ PyData.hasDictAll (toPs l) = false := by
  have lists : ∀ n, (∀ d : D, shp n d = true → pure? d = true ∧ (toP d).canLay0 = true ∧ (toP d).depth ≤ n ∧ (toP d).hasDict = false) →
      ∀ l : List D, shps n l = true → pures? l = true ∧ PyData.canLayAll0 (toPs l) = true ∧ PyData.depthAll (toPs l) ≤ n ∧ PyData.hasDictAll (toPs l) = false := by
    intro n h l
    induction l with
    | nil => intro _; exact ⟨by simp [pures?], by simp [toPs, PyData.canLayAll0], by simp [toPs, PyData.depthAll], by simp [toPs, PyData.hasDictAll]⟩
    | cons d l ih =>
      intro hl
      rw [shps, Bool.and_eq_true] at hl
      obtain ⟨a1, a2, a3, a4⟩ := h d hl.1
      obtain ⟨b1, b2, b3, b4⟩ := ih hl.2
      refine ⟨by simp [pures?, a1, b1], by simp [toPs, PyData.canLayAll0, a2, b2], ?_, by simp [toPs, PyData.hasDictAll, a4, b4]⟩
      simp only [toPs, PyData.depthAll]
      omega
  intro n
  induction n with
  | zero =>
    have one : ∀ d : D, shp 0 d = true → pure? d = true ∧ (toP d).canLay0 = true ∧ (toP d).depth ≤ 0 ∧ (toP d).hasDict = false := by
      intro d hd
      cases d <;> simp [shp] at hd <;> simp [pure?, toP, PyData.canLay0, PyData.depth, PyData.hasDict, hd]
    exact ⟨one, lists 0 one⟩
  | succ n ih =>
    have one : ∀ d : D, shp (n + 1) d = true → pure? d = true ∧ (toP d).canLay0 = true ∧ (toP d).depth ≤ n + 1 ∧ (toP d).hasDict = false := by
      intro d hd
      cases d with
      | tup l =>
        obtain ⟨b1, b2, b3, b4⟩ := ih.2 l (by simpa [shp] using hd)
        exact ⟨by simp [pure?, b1], by simp [toP, PyData.canLay0, b2], by simp only [toP, PyData.depth]; omega, by simp [toP, PyData.hasDict, b4]⟩
      | lst l =>
        obtain ⟨b1, b2, b3, b4⟩ := ih.2 l (by simpa [shp] using hd)
        exact ⟨by simp [pure?, b1], by simp [toP, PyData.canLay0, b2], by simp only [toP, PyData.depth]; omega, by simp [toP, PyData.hasDict, b4]⟩
      | _ => simp [shp] at hd <;> simp [pure?, toP, PyData.canLay0, PyData.depth, PyData.hasDict, hd]
    exact ⟨one, lists (n + 1) one⟩
theorem shp_shaped {d : D} (h : shp 60 d = true) : pure? d = true ∧ SeqAt.shaped (toP d) = true := by
  obtain ⟨h1, h2, h3, _⟩ := (shp_all 60).1 d h
  exact ⟨h1, by unfold SeqAt.shaped; rw [h2, decide_eq_true (Nat.le_trans h3 (by decide))]; rfl⟩
def gEq : D → D → (D → Prop) → Prop := fun x y R => match x, y with
  | .int i, .int j => R (.bl (decide (i = j)))
  | .str i, .str j => R (.bl (decide (i = j)))
  | .bl i, .bl j => R (.bl (decide (i = j)))
  | x, y => (shp 60 x = true ∧ shp 60 y = true) ∧ R (.bl (PyData.eqv (toP x) (toP y)))
def gNe : D → D → (D → Prop) → Prop := fun x y R => match x, y with
  | .int i, .int j => R (.bl (!decide (i = j)))
  | .str i, .str j => R (.bl (!decide (i = j)))
  | .bl i, .bl j => R (.bl (!decide (i = j)))
  | x, y => (shp 60 x = true ∧ shp 60 y = true) ∧ R (.bl (!PyData.eqv (toP x) (toP y)))
theorem opd_eq (hu : X.A.units + 64 < cLine) : OpD X p (compareOp .Eq) gEq := by
  refine ⟨_, op_eq.or (op_eqD hu), fun F H x y v u Q R pk ix iy hh q => ?_⟩
  unfold gEq at hh
  split at hh
  · cases ix
    cases iy
    exact .inl ⟨rfl, by simpa using q _ _ H (.refl pk.pk) (.bl _) hh⟩
  · cases ix
    cases iy
    exact .inl ⟨rfl, by simpa using q _ _ H (.refl pk.pk) (.bl _) hh⟩
  · cases ix
    cases iy
    exact .inl ⟨rfl, by simpa using q _ _ H (.refl pk.pk) (.bl _) hh⟩
  · obtain ⟨⟨h1, h2⟩, h5⟩ := hh
    exact .inr ⟨_, _, ix.dp (shp_shaped h1).1, iy.dp (shp_shaped h2).1, (shp_shaped h1).2, (shp_shaped h2).2, q _ _ H (.refl pk.pk) (.bl _) h5⟩
theorem opd_ne (hu : X.A.units + 64 < cLine) : OpD X p (compareOp .NotEq) gNe := by
  refine ⟨_, op_ne.or (op_neD hu), fun F H x y v u Q R pk ix iy hh q => ?_⟩
  unfold gNe at hh
  split at hh
  · cases ix
    cases iy
    exact .inl ⟨rfl, by simpa using q _ _ H (.refl pk.pk) (.bl _) hh⟩
  · cases ix
    cases iy
    exact .inl ⟨rfl, by simpa using q _ _ H (.refl pk.pk) (.bl _) hh⟩
  · cases ix
    cases iy
    exact .inl ⟨rfl, by simpa using q _ _ H (.refl pk.pk) (.bl _) hh⟩
  · obtain ⟨⟨h1, h2⟩, h5⟩ := hh
    exact .inr ⟨_, _, ix.dp (shp_shaped h1).1, iy.dp (shp_shaped h2).1, (shp_shaped h1).2, (shp_shaped h2).2, q _ _ H (.refl pk.pk) (.bl _) h5⟩
def isNon : D → Bool
  | .non => true
  | _ => false
def gNeg : D → (D → Prop) → Prop := fun x R => match x with
  | .int i => R (.int (-i))
  | _ => False
theorem und_neg : UnD X p (unaryOp .USub) gNeg := by
  refine ⟨_, un_neg, fun F H x v Q R pk ix hh q => ?_⟩
  cases ix with
  | int i => exact ⟨i, rfl, q _ _ H (.refl pk.pk) (.int _) hh⟩
  | _ => exact hh.elim
def atD (l : List D) (i : Int) : Option D := if 0 ≤ i then l[i.toNat]? else if -(l.length : Int) ≤ i then l[(i + (l.length : Int)).toNat]? else none
theorem atD_at {l : List D} {i : Int} {d : D} (h : atD l i = some d) : L2.atI l i = some d := by
  unfold atD at h
  unfold L2.atI ixN
  by_cases h0 : 0 ≤ i
  · rw [if_pos h0] at h ⊢
    have hl : i.toNat < l.length := (List.getElem?_eq_some_iff.mp h).1
    rw [if_pos (show i < (l.length : Int) by omega)]
    exact h
  · rw [if_neg h0] at h ⊢
    by_cases h1 : -(l.length : Int) ≤ i
    · rw [if_pos h1] at h ⊢
      exact h
    · rw [if_neg h1] at h
      cases h
def gIx : D → D → (D → Prop) → Prop := fun x y R => match x, y with
  | .tup l, .int i => match atD l i with
    | some d => R d
    | none => False
  | .lst l, .int i => match atD l i with
    | some d => R d
    | none => False
  | .pot, .int i => if i = 0 then ∀ a, 0 ≤ a → R (.int a) else i = 1 ∧ ∀ a, 0 ≤ a → a < 4294967296 → R (.int a)
  | _, _ => False
theorem IsL.atI {K : PySem.W.Frag} {F : List Addr} {H : Hp} {vs : List V} {l : List D} {i : Int} {d : D} (h : IsL K p F H vs l) (e : L2.atI l i = some d) : ∃ v, L2.atI vs i = some v ∧ Is K p F H v d := by
  unfold L2.atI at e ⊢
  rw [h.len]
  cases q : ixN l.length i with
  | none => rw [q] at e; cases e
  | some j =>
    rw [q] at e
    exact h.getD e
theorem pd_ix {a b : Expr} {da db : DE} {pos : Pos} (ha : PD X p a da) (hb : PD X p b db) (hs : PlainIx b := by exact fun _ _ => rfl) : PD X p (.Subscript a b pos) (dOp gIx da db) := by
  obtain ⟨ta, a1, a2⟩ := ha.run
  obtain ⟨tb, b1, b2⟩ := hb.run
  refine ⟨_, pe_ix ix_seq a1 b1 hs, op_run (fun F H x y v u Q R pk ix iy hh q => ?_) a2 b2⟩
  unfold gIx at hh
  split at hh
  · cases iy
    cases ix with
    | tup hs hn hl =>
      split at hh
      · rename_i d e
        obtain ⟨w, e1, e2⟩ := hl.atI (atD_at e)
        exact .inr (.inl ⟨_, _, _, w, rfl, rfl, hs, e1, q _ _ H (.refl pk.pk) e2 hh⟩)
      · exact hh.elim
  · cases iy
    cases ix with
    | lst hs hn hl =>
      split at hh
      · rename_i d e
        obtain ⟨w, e1, e2⟩ := hl.atI (atD_at e)
        exact .inl ⟨_, _, _, w, rfl, rfl, (Rdl.sq hs), e1, q _ _ H (.refl pk.pk) e2 hh⟩
      · exact hh.elim
  · cases iy
    cases ix
    obtain ⟨m, n, p0, p1, p2, hp⟩ := pk.pk.at_
    split at hh
    · rename_i e0
      subst e0
      exact .inl ⟨p.pot, _, 0, .int m, rfl, rfl, SqL.of hp, rfl, q _ _ H (.refl pk.pk) (.int m) (hh m p0)⟩
    · obtain ⟨rfl, hh⟩ := hh
      exact .inl ⟨p.pot, _, 1, .int n, rfl, rfl, SqL.of hp, rfl, q _ _ H (.refl pk.pk) (.int n) (hh n p1 p2)⟩
  · exact hh.elim
def cLen : List D → (D → Prop) → Prop := fun xs R => match xs with
  | [.tup l] => R (.int l.length)
  | [.lst l] => R (.int l.length)
  | _ => False
theorem cd_len : CallD X p (.builtin "len") cLen := by
  refine ⟨_, call_len_seq, fun F H xs vs Q R pk ix hh q => ?_⟩
  unfold cLen at hh
  split at hh
  · cases ix with
    | cons i1 i2 =>
      cases i2
      cases i1 with
      | tup hs hn hl => exact ⟨_, _, rfl, .inr hs, by rw [hl.len]; exact q _ _ H (.refl pk.pk) (.int _) hh⟩
  · cases ix with
    | cons i1 i2 =>
      cases i2
      cases i1 with
      | lst hs hn hl => exact ⟨_, _, rfl, .inl (Rdl.sq hs), by rw [hl.len]; exact q _ _ H (.refl pk.pk) (.int _) hh⟩
  · exact hh.elim
def cI1 (g : Int → D) : List D → (D → Prop) → Prop := fun xs R => match xs with
  | [.int i] => R (g i)
  | _ => False
def cI2 (C : Int → Int → Prop) (g : Int → Int → D) : List D → (D → Prop) → Prop := fun xs R => match xs with
  | [.int i, .int j] => C i j ∧ R (g i j)
  | _ => False
theorem cI1_of {f : Value} {r : List V → Hp → VK → Prop} {g : Int → D} (hr : CallR X f r) (h : ∀ i F H Q, PkF p F H → (∀ v' H', Ex p H H' → Is X.K p F H' v' (g i) → Q v' H') → r [.int i] H Q) : CallD X p f (cI1 g) := by
  refine ⟨_, hr, fun F H xs vs Q R pk ix hh q => ?_⟩
  unfold cI1 at hh
  split at hh
  · cases ix with
    | cons i1 i2 =>
      cases i2
      cases i1
      exact h _ F H Q pk fun v' H' e i => q _ v' H' e i hh
  · exact hh.elim
theorem cI2_of {f : Value} {r : List V → Hp → VK → Prop} {C : Int → Int → Prop} {g : Int → Int → D} (hr : CallR X f r) (h : ∀ i j F H Q, C i j → PkF p F H → (∀ v' H', Ex p H H' → Is X.K p F H' v' (g i j) → Q v' H') → r [.int i, .int j] H Q) : CallD X p f (cI2 C g) := by
  refine ⟨_, hr, fun F H xs vs Q R pk ix hh q => ?_⟩
  unfold cI2 at hh
  split at hh
  · cases ix with
    | cons i1 i2 =>
      cases i2 with
      | cons i2 i3 =>
        cases i3
        cases i1
        cases i2
        exact h _ _ F H Q hh.1 pk fun v' H' e i => q _ v' H' e i hh.2
  · exact hh.elim
theorem cd_abs : CallD X p (.builtin "abs") (cI1 fun i => .int (i.natAbs : Int)) := cI1_of call_abs fun i F H Q pk q => ⟨i, rfl, by
  have e : (if i < 0 then -i else i) = (i.natAbs : Int) := by split <;> omega
  rw [e]
  exact q _ H (.refl pk.pk) (.int _)⟩
def cInt : List D → (D → Prop) → Prop := fun xs R => match xs with
  | [.int i] => R (.int i)
  | [.bl b] => R (.int (if b = true then 1 else 0))
  | _ => False
theorem cd_int : CallD X p (.type "int") cInt := by
  refine ⟨_, call_int1, fun F H xs vs Q R pk ix hh q => ?_⟩
  unfold cInt at hh
  split at hh
  · cases ix with
    | cons i1 i2 =>
      cases i2
      cases i1
      exact .inl ⟨_, rfl, q _ _ H (.refl pk.pk) (.int _) hh⟩
  · cases ix with
    | cons i1 i2 =>
      cases i2
      cases i1
      exact .inr ⟨_, rfl, q _ _ H (.refl pk.pk) (.int _) hh⟩
  · exact hh.elim
theorem cd_divmod : CallD X p (.builtin "divmod") (cI2 (fun _ j => BD j) fun i j => .tup [.int (i / j), .int (i % j)]) := cI2_of call_divmodW fun i j F H Q hc pk q => by
  refine ⟨i, j, rfl, ⟨hc.1, ?_⟩, fun a ha => ?_⟩
  · have hj : j.natAbs.log2 < 8990 := hc.2
    show (decide ((if j == 0 then 0 else j.natAbs.log2 / 30 + 1) > 300) && _) = false
    rw [decide_eq_false (by split <;> omega), Bool.false_and]
  · have e := Ex.new (o := .tup [.int (i / j), .int (i % j)]) pk.pk ha
    exact q _ _ e (.tup (SqT.of upd_same) (pk.ne ha) (.cons (.int _) (.cons (.int _) .nil)))
def intsOf : List D → Option (List Int)
  | [] => some []
  | .int i :: l => (intsOf l).map (i :: ·)
  | _ => none
theorem intsOf_eq : ∀ {l : List D} {ns : List Int}, intsOf l = some ns → l = ns.map D.int
  | [], ns, h => by cases h; rfl
  | .int i :: l, ns, h => by
    unfold intsOf at h
    cases q : intsOf l with
    | none => rw [q] at h; cases h
    | some ms =>
      rw [q] at h
      cases h
      rw [intsOf_eq q]
      rfl
def boolsOf : List D → Option (List Bool)
  | [] => some []
  | .bl i :: l => (boolsOf l).map (i :: ·)
  | _ => none
def maxL : Int → List Int → Int
  | a, [] => a
  | a, b :: l => maxL (max a b) l
def minL : Int → List Int → Int
  | a, [] => a
  | a, b :: l => minL (min a b) l
theorem maxL_ge : ∀ (l : List Int) (a : Int), a ≤ maxL a l ∧ ∀ y ∈ l, y ≤ maxL a l
  | [], a => ⟨Int.le_refl _, fun y h => by cases h⟩
  | b :: l, a => by
    obtain ⟨h1, h2⟩ := maxL_ge l (max a b)
    refine ⟨by show a ≤ maxL (max a b) l; omega, fun y hy => ?_⟩
    rcases List.mem_cons.mp hy with e | e
    · subst e
      show y ≤ maxL (max a y) l
      omega
    · exact h2 y e
theorem maxL_mem : ∀ (l : List Int) (a : Int), maxL a l = a ∨ maxL a l ∈ l
  | [], a => .inl rfl
  | b :: l, a => by
    show maxL (max a b) l = a ∨ maxL (max a b) l ∈ b :: l
    rcases maxL_mem l (max a b) with e | e
    · rw [e]
      by_cases h : a ≤ b
      · exact .inr (by rw [Int.max_eq_right h]; exact List.mem_cons_self)
      · exact .inl (Int.max_eq_left (by omega))
    · exact .inr (List.mem_cons_of_mem _ e)
theorem minL_le : ∀ (l : List Int) (a : Int), minL a l ≤ a ∧ ∀ y ∈ l, minL a l ≤ y
  | [], a => ⟨Int.le_refl _, fun y h => by cases h⟩
  | b :: l, a => by
    obtain ⟨h1, h2⟩ := minL_le l (min a b)
    refine ⟨by show minL (min a b) l ≤ a; omega, fun y hy => ?_⟩
    rcases List.mem_cons.mp hy with e | e
    · subst e
      show minL (min a y) l ≤ y
      omega
    · exact h2 y e
theorem minL_mem : ∀ (l : List Int) (a : Int), minL a l = a ∨ minL a l ∈ l
  | [], a => .inl rfl
  | b :: l, a => by
    show minL (min a b) l = a ∨ minL (min a b) l ∈ b :: l
    rcases minL_mem l (min a b) with e | e
    · rw [e]
      by_cases h : a ≤ b
      · exact .inl (Int.min_eq_left h)
      · exact .inr (by rw [Int.min_eq_right (by omega)]; exact List.mem_cons_self)
    · exact .inr (List.mem_cons_of_mem _ e)
def cMax : List D → (D → Prop) → Prop := fun xs R => match xs with
  | [.int i, .int j] => R (.int (max i j))
  | [.lst l] => match intsOf l with
    | some (n :: ns) => R (.int (maxL n ns))
    | _ => False
  | _ => False
def cMin : List D → (D → Prop) → Prop := fun xs R => match xs with
  | [.int i, .int j] => R (.int (min i j))
  | [.lst l] => match intsOf l with
    | some (n :: ns) => R (.int (minL n ns))
    | _ => False
  | _ => False
theorem cd_min (hc : X.calm = true) : CallD X p (.builtin "min") cMin := by
  refine ⟨_, (call_min2 hc).or (cr_min hc), fun F H xs vs Q R pk ix hh q => ?_⟩
  unfold cMin at hh
  split at hh
  · rename_i i j
    cases ix with
    | cons i1 i2 =>
      cases i2 with
      | cons i2 i3 =>
        cases i3
        cases i1
        cases i2
        have e : (if j < i then j else i) = min i j := by split <;> omega
        exact .inl ⟨i, j, rfl, by rw [e]; exact q _ _ H (.refl pk.pk) (.int _) hh⟩
  · split at hh
    · rename_i l n ns e
      cases ix with
      | cons i1 i2 =>
        cases i2
        cases i1 with
        | lst hs hn hl =>
          rw [intsOf_eq e] at hl
          rw [hl.ints] at hs
          refine .inr ⟨_, n :: ns, rfl, (Rdl.sq hs), by simp, fun m hm hall => ?_⟩
          have em : m = minL n ns := by
            have h1 : minL n ns ≤ m := by
              rcases List.mem_cons.mp hm with e | e
              · rw [e]; exact (minL_le ns n).1
              · exact (minL_le ns n).2 m e
            have h2 : m ≤ minL n ns := hall _ (by
              rcases minL_mem ns n with e | e
              · rw [e]; exact List.mem_cons_self
              · exact List.mem_cons_of_mem _ e)
            omega
          subst em
          exact q _ _ H (.refl pk.pk) (.int _) hh
    · exact hh.elim
  · exact hh.elim
def cAll : List D → (D → Prop) → Prop := fun xs R => match xs with
  | [.lst l] => match boolsOf l with
    | some bs => R (.bl (bs.all id))
    | _ => False
  | _ => False
def cAny : List D → (D → Prop) → Prop := fun xs R => match xs with
  | [.lst l] => match boolsOf l with
    | some bs => R (.bl (bs.any id))
    | _ => False
  | _ => False
end
end DL
namespace DL
open PySem PySem.Spec L2
open PyProof.Rows hiding St
structure FnG (P : Program) (w : World) (K : PySem.W.Frag) (mg : Str → Option Value) (base : Heap) (CX : CXT) (k : Nat) (f : Addr) (fd : FuncData) (ps : List Str) (sp : Sp) : Prop where
  len : ∀ vs H Q E, sp vs H Q E → vs.length = ps.length
  go : ∀ (A : Around) (outer : List Env) (s : Shared) (H : Hp) (args : Args) (us : List Value) (vs : List V) (Q : VK) (E : XK), A.guards = some [] → Room k A → Env0 P w K mg base A outer s H →
    BindsTo s fd args (ps.zip us) → Vals vs us → sp vs H Q E → codeAny (model P w) A (.call (.ref f) args) (CR CX outer P w H s Q E) s
section
variable {P : Program} {w : World} {K : PySem.W.Frag} {mg : Str → Option Value} {base : Heap} {CX : CXT} {k : Nat} {f : Addr} {fd : FuncData} {ps : List Str} {sp : Sp}
theorem FnG.weak {j : Nat} (F : FnG P w K mg base CX k f fd ps sp) (h : k ≤ j) : FnG P w K mg base CX j f fd ps sp :=
  ⟨F.len, fun A outer s H args us vs Q E g r => F.go A outer s H args us vs Q E g (r.mono h)⟩
theorem funG {x qual : Str} {st : Stmt} {N : List Str} (F : Fun K x qual st f fd) (S : FnScope N ps (defScope st)) (hlen : ∀ vs H Q E, sp vs H Q E → vs.length = ps.length)
    (body : ∀ (cdv : Value) (A : Around) (outer : List Env) (s : Shared) (H : Hp) (vs : List V) (Q : VK) (E : XK), fd.code = cdv → A.guards = some [] → (∀ a o, K.lookup a = some o → H a = none) → Room k (A.deeper (envOfC qual (defScope st) s.heap.objs.size f cdv)) → sp vs H Q E →
      ∃ t, PSs (cxOf CX P w K mg base N qual (defScope st) f cdv A outer s H E) (defBody st) t ∧ t { nx := fun _ H' => Q .non H', rt := Q } (L2.start N vs) H) : FnG P w K mg base CX (k + 1) f fd ps sp := by
  obtain ⟨oc, od, kV, doc, pm, an, cdv, ct, osl, rfl, lk, hcd⟩ := F.ex
  refine ⟨hlen, fun A outer s H args us vs Q E hg room ev bnd rel prom => ?_⟩
  have inK : K.In s.heap := ev.mod.kin.keeps fun b o q => And.left (ev.bs b o q)
  have lims : s.heap.NoLimit := ev.mod.nolimit.keeps fun b o q => And.left (ev.bs b o q)
  have kinds : ∀ y ∈ ps.zip us, (defScope st).names.lookup y.1 = some .local ∨ ((defScope st).names.lookup y.1 = some .cell ∧ ((cellsFrom (s.heap.objs.size + 1) (defScope st).names []).lookup y.1).isSome = true) := by
    rintro ⟨n, v⟩ hy
    exact (S.par n (And.left (List.of_mem_zip hy))).elim .inl fun q => .inr ⟨q, PySem.W.cellsFrom_some _ _ _ (Or.inl q)⟩
  refine codeAny_call_function room.depth (inK f _ lk) rfl S.co S.gen rfl (PySem.W.codeRec_of inK hcd) (bnd _ _ _ _ (wpAny_newFunctionEnv_cells S.kind kinds ?_))
  intro env0 hE s1 ent
  subst hE
  refine ⟨lims.keeps ent.toInCall.keep, codeAny_func ?_⟩
  obtain ⟨t, ht, q⟩ := body cdv A outer s H vs Q E rfl hg (fun a o lo => (ev.bs a o (ev.mod.kin a o lo)).2) (room.deeper _) prom
  have J := inv_start (CX := CX) (N := N) (E := E) S room.hd ev (hlen _ _ _ _ prom) rel ent
  refine wpAny_mono (ht.run [] s1 (L2.start N vs) H _ J q) ?_ fun _ _ z => z
  rintro (_ | u | _ | _) s' ho
  · obtain ⟨σ', H', J', q'⟩ := ho
    exact ⟨V.non, H', J'.os, J'.bare, J'.base, J'.hok, rfl, q'⟩
  · first
      | (obtain ⟨_, _, _, z⟩ := ho; exact (show False from z).elim)
      | (obtain ⟨v, σ', H', J', rv, q'⟩ := ho; exact ⟨v, H', J'.os, J'.bare, J'.base, J'.hok, rv, q'⟩)
  · first
      | (obtain ⟨_, _, _, z⟩ := ho; exact (show False from z).elim)
      | (obtain ⟨v, σ', H', J', rv, q'⟩ := ho; exact ⟨v, H', J'.os, J'.bare, J'.base, J'.hok, rv, q'⟩)
  · first
      | (obtain ⟨_, _, _, z⟩ := ho; exact (show False from z).elim)
      | (obtain ⟨v, σ', H', J', rv, q'⟩ := ho; exact ⟨v, H', J'.os, J'.bare, J'.base, J'.hok, rv, q'⟩)
end
def BindK (K : PySem.W.Frag) (fd : FuncData) (ps ks : List Str) (n : Nat) (perm : List Nat) : Prop :=
  ∀ (s : Shared) (us ws : List Value), K.In s.heap → us.length = n → ws.length = ks.length → ∃ zs : List Value, BindsTo s fd ⟨us, ks.zip ws⟩ (ps.zip zs) ∧ zs.length = ps.length ∧ perm.length = ps.length ∧ ∀ (i j : Nat), perm[i]? = some j → zs[i]? = (us ++ ws)[j]? ∧ j < (us ++ ws).length
section
variable {X : Cx} {CX : CXT} {k n : Nat} {f : Addr} {fd : FuncData} {ps ks : List Str} {sp : Sp} {E : XK} {x : Str} {q pos : Pos} {e : Expr} {es : List Expr} {kws : List Keyword} {t tk : TA}
theorem goG {pins : List (Addr × Obj)} {σ : L2.St} {H : Hp} {s : Shared} {Q : VK} {args : Args} {us : List Value} {vs : List V} (F : FnG X.prog X.w X.K X.mg X.base CX k f fd ps sp) (hg : X.A.guards = some []) (hr : Room k X.A) (hx : Passes CX X E)
    (I : Inv X pins σ H s) (hb : BindsTo s fd args (ps.zip us)) (r : Vals vs us) (h : sp vs H Q E) : wpAny (model X.prog X.w) X.A (call (.ref f) args.pos args.kw) (EP X pins σ Q) X.xe s := by
  refine wpAny_call (codeAny_mono (F.go X.A X.stack s H args us vs Q E hg hr I.env0 hb r h) ?_)
  intro res s' out
  match res, out with
  | .error v, o => exact hx pins σ H s v s' I o
  | .ok (.ret u), o => exact I.after o
  | .ok .next, o => exact False.elim o
  | .ok .brk, o => exact False.elim o
  | .ok .cont, o => exact False.elim o
theorem pe_callG (F : FnG X.prog X.w X.K X.mg X.base CX k f fd ps sp) (hgu : X.A.guards = some []) (hr : Room k X.A) (hx : Passes CX X E) (hg : Gl X x) (hm : X.mg x = some (.ref f)) (hk : PySem.W.keepIn X.K (.ref f) = true) (hb : Binds X.K fd ps [])
    (ha : PA X (e :: es) t) (hdb : (x == ("__debug__" : Str)) = false := by decide) (he : starEach (e :: es) X.env = (false, eval e X.env) :: starEach es X.env := by rfl) (hpl : (backTo pos (starEach es X.env)).any (·.1) = false := by rfl) :
    PE X (.Call (.Name x q) (e :: es) [] pos) (fun σ H Q => t σ H fun vs H1 => sp vs H1 Q E) := by
  refine ⟨fun pins s σ H Q I h => wpAny_Call_Name_kw (ld_glob I hg hm ?_ hdb)⟩
  refine PySem.W.callWith_K (h₀ := X.base) I.ok.mod.kin hk (thn (ha.run pos pins s σ H _ I h) ?_) he hpl
  rintro us s1 ⟨vs, H1, I1, r, z⟩
  have hl : (us ++ []).length = ps.length := by rw [List.append_nil, ← r.length]; exact F.len _ _ _ _ z
  have b := hb s1 us I1.kIn hl
  rw [List.append_nil] at b
  exact ⟨I1.kIn, goG (args := ⟨us, []⟩) F hgu hr hx I1 b r z⟩
theorem pe_callG0 (F : FnG X.prog X.w X.K X.mg X.base CX k f fd ps sp) (hgu : X.A.guards = some []) (hr : Room k X.A) (hx : Passes CX X E) (hg : Gl X x) (hm : X.mg x = some (.ref f)) (hk : PySem.W.keepIn X.K (.ref f) = true) (hb : Binds X.K fd ps [])
    (hdb : (x == ("__debug__" : Str)) = false := by decide) : PE X (.Call (.Name x q) [] [] pos) (fun _ H Q => sp [] H Q E) := by
  refine ⟨fun pins s σ H Q I z => wpAny_Call_Name_kw (ld_glob I hg hm ?_ hdb)⟩
  have hl : (([] : List Value) ++ []).length = ps.length := F.len _ _ _ _ z
  exact PySem.W.callWith_K0 I.kIn hk (goG (args := ⟨[], []⟩) F hgu hr hx I (hb s [] I.kIn hl) .nil z)
def ordV (perm : List Nat) (vs : List V) : List V := perm.map fun j => vs.getD j .non
theorem ordV_rel {perm : List Nat} {vs : List V} {us zs : List Value} (r : Vals vs us) (hl : perm.length = zs.length) (h : ∀ (i j : Nat), perm[i]? = some j → zs[i]? = us[j]? ∧ j < us.length) : Vals (ordV perm vs) zs := by
  unfold ordV
  induction perm generalizing zs with
  | nil =>
    cases zs with
    | nil => exact .nil
    | cons _ _ => simp at hl
  | cons j perm ih =>
    cases zs with
    | nil => simp at hl
    | cons z zs =>
      refine .cons ?_ (ih (by simpa using hl) fun i j' e => by simpa using h (i + 1) j' (by simpa using e))
      obtain ⟨h1, h2⟩ := h 0 j rfl
      obtain ⟨u, hu⟩ : ∃ u, us[j]? = some u := ⟨us[j], by simp [h2]⟩
      have e1 : z = u := by
        rw [hu] at h1
        simpa using h1
      have h3 : j < vs.length := by rw [r.length]; exact h2
      obtain ⟨u', g1, g2⟩ := r.get (i := j) (x := vs[j]) (by simp [h3])
      rw [hu] at g1
      cases g1
      rw [e1]
      show RelV (vs.getD j .non) u
      rw [List.getD_eq_getElem?_getD, List.getElem?_eq_getElem h3]
      exact g2
theorem pe_callGK0 (F : FnG X.prog X.w X.K X.mg X.base CX k f fd ps sp) (hgu : X.A.guards = some []) (hr : Room k X.A) (hx : Passes CX X E) (hg : Gl X x) (hm : X.mg x = some (.ref f)) (hk : PySem.W.keepIn X.K (.ref f) = true) {perm : List Nat} (hb : BindK X.K fd ps ks 0 perm)
    (hkw : PK X kws tk) (hall : (backToKw pos (keywordEach kws X.env)).all (·.1.isSome) = true := by rfl) (hks : (backToKw pos (keywordEach kws X.env)).filterMap (·.1) = ks := by rfl)
    (hdb : (x == ("__debug__" : Str)) = false := by decide)
    (hpl : ((backTo pos (starEach [] X.env)).any (·.1) || (backToKw pos (keywordEach kws X.env)).any (·.1.isNone)) = false := by rfl) :
    PE X (.Call (.Name x q) [] kws pos) (fun σ H Q => tk σ H fun ws H2 => ws.length = ks.length ∧ sp (ordV perm ws) H2 Q E) := by
  refine ⟨fun pins s σ H Q I h => wpAny_Call_Name_kw (ld_glob I hg hm ?_ hdb)⟩
  refine PySem.W.callWith_KW0 (h₀ := X.base) I.ok.mod.kin hk hall (thn (hkw.run pos pins s σ H _ I h) ?_) hpl
  rintro ws s2 ⟨zs, H2, I2, r2, l2, z⟩
  rw [hks]
  obtain ⟨os, b1, b2, b3, b4⟩ := hb s2 [] ws I2.kIn rfl (by rw [← r2.length]; exact l2)
  exact ⟨I2.kIn, goG (args := ⟨[], ks.zip ws⟩) F hgu hr hx I2 b1 (ordV_rel r2 (by rw [b3, b2]) b4) z⟩
end
section
variable {X : Cx} {p : Qt} {pos q : Pos} {e : Expr} {es : List Expr} {kws : List Keyword} {ds dk : DA} {k n : Nat} {f : Addr} {fd : FuncData} {ps ks : List Str} {sp : SpD} {x : Str}
theorem pdc (F : FnG X.prog X.w X.K X.mg X.base CX0 k f fd ps (toSp X.K p.tf n sp)) (hgu : X.A.guards = some []) (hr : Room k X.A) (hm : X.mg x = some (.ref f)) (hk : PySem.W.keepIn X.K (.ref f) = true) (hb : Binds X.K fd ps [])
    (ha : PDA X p (e :: es) ds) (hg : Gl X x := by rfl) (hn : (e :: es).length = n := by rfl) (hdb : (x == ("__debug__" : Str)) = false := by decide) (he : starEach (e :: es) X.env = (false, eval e X.env) :: starEach es X.env := by rfl) (hpl : (backTo pos (starEach es X.env)).any (·.1) = false := by rfl) :
    PD X p (.Call (.Name x q) (e :: es) [] pos) (dB sp ds) := by
  obtain ⟨t, h1, h2⟩ := ha.run
  refine ⟨_, pe_callG F hgu hr pass0 hg hm hk hb h1 hdb he hpl, fun g0 F σ H τ Q R rel h q => ?_⟩
  refine h2 g0 F σ H τ _ _ rel h fun xs vs H1 e1 i1 l1 h1 => ?_
  exact ⟨by rw [l1]; exact hn, p.pot, F, xs, R, (rel.st e1).pkf, i1, h1, fun z v' H' e i r => q z v' H' (e1.trans e) i r⟩
theorem pdc0 (F : FnG X.prog X.w X.K X.mg X.base CX0 k f fd ps (toSp X.K p.tf 0 sp)) (hgu : X.A.guards = some []) (hr : Room k X.A) (hm : X.mg x = some (.ref f)) (hk : PySem.W.keepIn X.K (.ref f) = true) (hb : Binds X.K fd ps [])
    (hg : Gl X x := by rfl) (hdb : (x == ("__debug__" : Str)) = false := by decide) : PD X p (.Call (.Name x q) [] [] pos) (dB sp dNil) := by
  refine ⟨_, pe_callG0 F hgu hr pass0 hg hm hk hb hdb, fun g0 F σ H τ Q R rel h q => ?_⟩
  exact ⟨rfl, p.pot, F, [], R, rel.pkf, .nil, h, q⟩
structure PDK (X : Cx) (p : Qt) (kws : List Keyword) (d : DA) : Prop where
  run : ∃ t, PK X kws t ∧ ∀ (g0 : Gd) (F : List Addr) (σ : L2.St) (H : Hp) (τ : Sl) (Q : List V → Hp → Prop) (R : List D → Prop), Rel X.K p g0 F σ H τ → d τ R → (∀ xs vs H', Ex p H H' → IsL X.K p F H' vs xs → vs.length = kws.length → R xs → Q vs H') → t σ H Q
theorem pdk_nil : PDK X p [] dNil := ⟨_, pk_nil, fun g0 F σ H τ Q R rel h q => q [] [] H (.refl rel.pk) .nil rfl h⟩
theorem pdk_cons {nm : Option Str} {da : DE} {kpos : Pos} (ha : PD X p e da) (hr : PDK X p kws dk) : PDK X p (⟨nm, e, kpos⟩ :: kws) (dCons da dk) := by
  obtain ⟨t, h1, h2⟩ := ha.run
  obtain ⟨u, k1, k2⟩ := hr.run
  refine ⟨_, pk_cons h1 k1, fun g0 F σ H τ Q R rel h q => ?_⟩
  refine h2 g0 F σ H τ _ _ rel h fun xs vs H1 e1 i1 h1 => ?_
  exact k2 g0 F σ H1 τ _ _ (rel.st e1) h1 fun xs vs H2 e2 i2 l2 h2 => q _ _ H2 (e1.trans e2) (.cons (i1.mono e2.kp) i2) (by simp [l2]) h2
def ordD (perm : List Nat) (xs : List D) : List D := perm.map fun j => xs.getD j .non
theorem ord_is {K : PySem.W.Frag} {F : List Addr} {H : Hp} {vs : List V} {xs : List D} (h : IsL K p F H vs xs) : ∀ {perm : List Nat}, (∀ j ∈ perm, j < vs.length) → IsL K p F H (ordV perm vs) (ordD perm xs)
  | [], _ => .nil
  | j :: perm, a => by
    refine .cons ?_ (ord_is (perm := perm) h fun i hi => a i (List.mem_cons_of_mem _ hi))
    have hj := a j List.mem_cons_self
    have hj2 : j < xs.length := by rw [← h.len]; exact hj
    obtain ⟨d, e1, e2⟩ := h.get (i := j) (v := vs[j]) (by simp [hj])
    show Is K p F H (vs.getD j .non) (xs.getD j .non)
    rw [List.getD_eq_getElem?_getD, List.getElem?_eq_getElem hj, List.getD_eq_getElem?_getD, e1]
    exact e2
def dBK (sp : SpD) (perm : List Nat) (ds dk : DA) : DE := fun τ R => ds τ fun xs => dk τ fun ys => sp (ordD perm (xs ++ ys)) R
theorem pdcK0 {perm : List Nat} (F : FnG X.prog X.w X.K X.mg X.base CX0 k f fd ps (toSp X.K p.tf n sp)) (hgu : X.A.guards = some []) (hr : Room k X.A) (hm : X.mg x = some (.ref f)) (hk : PySem.W.keepIn X.K (.ref f) = true) (hb : BindK X.K fd ps ks 0 perm)
    (hkw : PDK X p kws dk) (hn : perm.length = n := by rfl) (hp : ∀ j ∈ perm, j < kws.length := by decide) (hlk : kws.length = ks.length := by rfl) (hg : Gl X x := by rfl) (hall : (backToKw pos (keywordEach kws X.env)).all (·.1.isSome) = true := by rfl) (hks : (backToKw pos (keywordEach kws X.env)).filterMap (·.1) = ks := by rfl)
    (hdb : (x == ("__debug__" : Str)) = false := by decide)
    (hpl : ((backTo pos (starEach [] X.env)).any (·.1) || (backToKw pos (keywordEach kws X.env)).any (·.1.isNone)) = false := by rfl) :
    PD X p (.Call (.Name x q) [] kws pos) (dBK sp perm dNil dk) := by
  obtain ⟨u, k1, k2⟩ := hkw.run
  refine ⟨_, pe_callGK0 F hgu hr pass0 hg hm hk hb k1 hall hks hdb hpl, fun g0 F σ H τ Q R rel h q => ?_⟩
  refine k2 g0 F σ H τ _ _ rel h fun ys ws H2 e2 i2 l2 h2 => ⟨by rw [l2, hlk], ?_⟩
  refine ⟨by unfold ordV; rw [List.length_map]; exact hn, p.pot, F, _, R, (rel.st e2).pkf, ord_is i2 (fun j hj => ?_), h2, fun z v' H' e i r => q z v' H' (e2.trans e) i r⟩
  have := hp j hj
  omega
end
def startD (N : List Str) (ds : List D) : Sl := ds.map some ++ List.replicate (N.length - ds.length) none
theorem start_get {K : PySem.W.Frag} {p : Qt} {F : List Addr} {H : Hp} {N : List Str} {vs : List V} {ds : List D} (h : IsL K p F H vs ds) {i : Nat} {d : D} (e : (startD N ds)[i]? = some (some d)) : ∃ v, (L2.start N vs)[i]? = some (some v) ∧ Is K p F H v d := by
  unfold startD at e
  have hi : i < ds.length := by
    by_cases hi : i < ds.length
    · exact hi
    · rw [List.getElem?_append_right (by simpa using hi), List.getElem?_replicate] at e
      split at e <;> cases e
  rw [List.getElem?_append_left (by simpa using hi), List.getElem?_map] at e
  cases q : ds[i]? with
  | none => rw [q] at e; cases e
  | some d' =>
    rw [q] at e
    cases e
    obtain ⟨v, e1, e2⟩ := h.getD q
    refine ⟨v, ?_, e2⟩
    unfold L2.start
    rw [List.getElem?_append_left (by rw [List.length_map, h.len]; exact hi), List.getElem?_map, e1]
    rfl
theorem start_rel {K : PySem.W.Frag} {p : Qt} {F : List Addr} {H : Hp} {N : List Str} {vs : List V} {ds : List D} (pk : PkF p F H) (h : IsL K p F H vs ds) : Rel K p ⟨F, [], H⟩ F (L2.start N vs) H (startD N ds) := by
  have no : ∀ (i : Nat) (l : List D), (startD N ds)[i]? = some (some (.own l)) → False := fun i l e => by
    obtain ⟨v, _, z⟩ := start_get h e
    cases z
  refine ⟨pk.pk, fun _ _ _ _ _ e => e, fun _ h => h, pk.al, fun _ h => .inl h, fun i d e _ => start_get h e, fun i l e => (no i l e).elim, fun i j l l' a e _ _ _ => (no i l e).elim, by unfold L2.start startD; rw [List.length_append, List.length_append, List.length_map, List.length_map, List.length_replicate, List.length_replicate, h.len]⟩
section
variable {P : Program} {w : World} {K : PySem.W.Frag} {mg : Str → Option Value} {base : Heap} {tabs : Tf} {k : Nat} {f : Addr} {fd : FuncData} {ps : List Str} {sp : SpD}
theorem funD {x qual : Str} {st : Stmt} {N : List Str} (F : Fun K x qual st f fd) (S : FnScope N ps (defScope st))
    (body : ∀ (cdv : Value) (A : Around) (outer : List Env) (s : Shared) (H : Hp) (E : XK) (p : Qt), p.tf = tabs → fd.code = cdv → A.guards = some [] → (∀ a o, K.lookup a = some o → a ≠ p.pot) → Room k (A.deeper (envOfC qual (defScope st) s.heap.objs.size f cdv)) →
      ∃ d, PDSs (cxOf CX0 P w K mg base N qual (defScope st) f cdv A outer s H E).nox p (defBody st) d ∧ ∀ (ds : List D) (R : D → Prop), ds.length = ps.length → sp ds R → d { nx := fun _ => R .non, rt := R } (startD N ds)) :
    FnG P w K mg base CX0 (k + 1) f fd ps (toSp K tabs ps.length sp) := by
  refine funG F S (fun vs H Q E h => h.1) fun cdv A outer s H vs Q E hc hg hk hr h => ?_
  obtain ⟨hl, pot, Fb, ds, R, pk, is, h, q⟩ := h
  obtain ⟨d, hb, hd⟩ := body cdv A outer s H E ⟨pot, tabs⟩ rfl hc hg (fun a o lo => pk.ne (hk a o lo)) hr
  obtain ⟨t, h1, h2⟩ := hb.run
  refine ⟨t, h1.nox, ?_⟩
  have ex : ∀ {F' : List Addr} {σ' : L2.St} {H' : Hp} {τ' : Sl}, Rel K ⟨pot, tabs⟩ ⟨Fb, [], H⟩ F' σ' H' τ' → Ex ⟨pot, tabs⟩ H H' := by
    intro F' σ' H' τ' r
    exact ⟨fun b o n t e => r.kp b o n (fun z => nomatch z) t e, r.pk⟩
  exact h2 ⟨Fb, [], H⟩ Fb (L2.start N vs) H (startD N ds) _ _ (start_rel pk is) (hd ds R (by rw [← is.len]; exact hl) h)
    ⟨fun F' σ H' τ rel r => q _ _ H' (ex rel) .non r, fun F' σ H' τ v x rel i r => q x v H' (ex rel) (i.less rel.sub) r, fun _ _ _ _ _ z => z.elim, fun _ _ _ _ _ z => z.elim, fun _ _ _ _ _ _ _ _ _ _ _ _ z => z.elim⟩
end
structure Dfn (K : PySem.W.Frag) (mg : Str → Option Value) (x qual : Str) (st : Stmt) (ps : List Str) (kb : List (List Str × Nat × List Nat)) : Prop where
  ex : ∃ (f : Addr) (fd : FuncData), Fun K x qual st f fd ∧ mg x = some (.ref f) ∧ Binds K fd ps [] ∧ ∀ q ∈ kb, BindK K fd ps q.1 q.2.1 q.2.2
structure Cal (P : Program) (w : World) (K : PySem.W.Frag) (mg : Str → Option Value) (base : Heap) (tabs : Tf) (x : Str) (k n : Nat) (ps : List Str) (kb : List (List Str × Nat × List Nat)) (sp : SpD) : Prop where
  ex : ∃ (f : Addr) (fd : FuncData), FnG P w K mg base CX0 k f fd ps (toSp K tabs n sp) ∧ mg x = some (.ref f) ∧ PySem.W.keepIn K (.ref f) = true ∧ Binds K fd ps [] ∧ ∀ q ∈ kb, BindK K fd ps q.1 q.2.1 q.2.2
section
variable {P : Program} {w : World} {K : PySem.W.Frag} {mg : Str → Option Value} {base : Heap} {k : Nat} {ps : List Str} {sp : SpD} {kb : List (List Str × Nat × List Nat)}
theorem cal_of {tabs : Tf} {x qual : Str} {st : Stmt} {N : List Str} (D0 : Dfn K mg x qual st ps kb) (S : FnScope N ps (defScope st))
    (body : ∀ (f : Addr) (cdv : Value) (A : Around) (outer : List Env) (s : Shared) (H : Hp) (E : XK) (p : Qt), p.tf = tabs → A.guards = some [] → (∀ a o, K.lookup a = some o → a ≠ p.pot) → Room k (A.deeper (envOfC qual (defScope st) s.heap.objs.size f cdv)) →
      ∃ d, PDSs (cxOf CX0 P w K mg base N qual (defScope st) f cdv A outer s H E).nox p (defBody st) d ∧ ∀ (ds : List D) (R : D → Prop), ds.length = ps.length → sp ds R → d { nx := fun _ => R .non, rt := R } (startD N ds)) :
    Cal P w K mg base tabs x (k + 1) ps.length ps kb sp := by
  obtain ⟨f, fd, F, hm, hb, hk⟩ := D0.ex
  exact ⟨f, fd, funD F S fun cdv A outer s H E p ht _ => body f cdv A outer s H E p ht, hm, F.kp, hb, hk⟩
end
section
variable {X : Cx} {p : Qt} {pos q : Pos} {e : Expr} {es : List Expr} {kws : List Keyword} {ds dk : DA} {k j n : Nat} {ps : List Str} {sp : SpD} {x : Str} {kb : List (List Str × Nat × List Nat)}
theorem pdcC (C : Cal X.prog X.w X.K X.mg X.base p.tf x j n ps kb sp) (hgu : X.A.guards = some []) (hr : Room k X.A) (ha : PDA X p (e :: es) ds) (hj : j ≤ k := by decide) (hg : Gl X x := by rfl) (hn : (e :: es).length = n := by rfl) (hdb : (x == ("__debug__" : Str)) = false := by decide)
    (he : starEach (e :: es) X.env = (false, eval e X.env) :: starEach es X.env := by rfl) (hpl : (backTo pos (starEach es X.env)).any (·.1) = false := by rfl) : PD X p (.Call (.Name x q) (e :: es) [] pos) (dB sp ds) := by
  obtain ⟨f, fd, F, hm, hk, hb, _⟩ := C.ex
  exact pdc F hgu (hr.mono hj) hm hk hb ha hg hn hdb he hpl
theorem pdcC0 (C : Cal X.prog X.w X.K X.mg X.base p.tf x j 0 ps kb sp) (hgu : X.A.guards = some []) (hr : Room k X.A) (hj : j ≤ k := by decide) (hg : Gl X x := by rfl) (hdb : (x == ("__debug__" : Str)) = false := by decide) : PD X p (.Call (.Name x q) [] [] pos) (dB sp dNil) := by
  obtain ⟨f, fd, F, hm, hk, hb, _⟩ := C.ex
  exact pdc0 F hgu (hr.mono hj) hm hk hb hg hdb
theorem pdcCK0 {ks : List Str} {perm : List Nat} (C : Cal X.prog X.w X.K X.mg X.base p.tf x j n ps kb sp) (hgu : X.A.guards = some []) (hr : Room k X.A) (hq : (ks, 0, perm) ∈ kb) (hkw : PDK X p kws dk) (hj : j ≤ k := by decide)
    (hn : perm.length = n := by rfl) (hp : ∀ j ∈ perm, j < kws.length := by decide) (hlk : kws.length = ks.length := by rfl) (hg : Gl X x := by rfl) (hall : (backToKw pos (keywordEach kws X.env)).all (·.1.isSome) = true := by rfl) (hks : (backToKw pos (keywordEach kws X.env)).filterMap (·.1) = ks := by rfl)
    (hdb : (x == ("__debug__" : Str)) = false := by decide)
    (hpl : ((backTo pos (starEach [] X.env)).any (·.1) || (backToKw pos (keywordEach kws X.env)).any (·.1.isNone)) = false := by rfl) : PD X p (.Call (.Name x q) [] kws pos) (dBK sp perm dNil dk) := by
  obtain ⟨f, fd, F, hm, hk, _, hb⟩ := C.ex
  exact pdcK0 F hgu (hr.mono hj) hm hk (hb _ hq) hkw hn hp hlk hg hall hks hdb hpl
end
section
variable {K : PySem.W.Frag} {mg : Str → Option Value} {h : Heap} {x qual : Str} {st : Stmt} {f : Addr} {fd : FuncData} {ps ks : List Str} {n : Nat} {perm : List Nat} {kb : List (List Str × Nat × List Nat)}
theorem bindK_of (F : Fun K x qual st f fd) (hb : ∀ (kV doc pm : Value) (an : Option Addr) (cdv ct : Value) (us ws : List Value), us.length = n → ws.length = ks.length →
    ∃ zs : List Value, bindArgs (PySem.W.fnOf x qual (defArgs st) (defBody st) (defScope st) .none kV doc pm an cdv ct) ⟨us, ks.zip ws⟩ = pure (ps.zip zs) ∧ zs.length = ps.length ∧ perm.length = ps.length ∧ ∀ (i j : Nat), perm[i]? = some j → zs[i]? = (us ++ ws)[j]? ∧ j < (us ++ ws).length) : BindK K fd ps ks n perm := by
  obtain ⟨oc, od, kV, doc, pm, an, cdv, ct, osl, rfl, lk, hcd⟩ := F.ex
  intro s us ws _ h1 h2
  obtain ⟨zs, e, r⟩ := hb kV doc pm an cdv ct us ws h1 h2
  exact ⟨zs, .of_eq e, r⟩
theorem dfn_of {oc kV doc pm cdv ct : Value} {od an : Option Addr} {osl : Array (Option Value)} (X : K.In h) (G : h.Ns mainGlobals mg) (a : PySem.W.nsIn K mainGlobals x = some (some (.ref f)))
    (l : K.lookup f = some ⟨oc, od, .func (PySem.W.fnOf x x (defArgs st) (defBody st) (defScope st) .none kV doc pm an cdv ct), osl⟩) (c : PySem.W.codeIn K cdv x = true) (k : PySem.W.keepIn K (.ref f) = true)
    (hb : ∀ (kV doc pm : Value) (an : Option Addr) (cdv ct : Value) (us : List Value), us.length = ps.length → bindArgs (PySem.W.fnOf x x (defArgs st) (defBody st) (defScope st) .none kV doc pm an cdv ct) ⟨us, []⟩ = pure (ps.zip us))
    (hk : ∀ fd : FuncData, Fun K x x st f fd → ∀ q ∈ kb, BindK K fd ps q.1 q.2.1 q.2.2) : Dfn K mg x x st ps kb :=
  ⟨f, _, fun_mk l c k, PySem.W.mg_of X G a, (fun_mk l c k).binds hb, hk _ (fun_mk l c k)⟩
end
end DL
namespace DL
open PySem PySem.Spec L2
open PyProof.Rows hiding St
section
variable {X : Cx} {p : Qt}
def tyN : D → Option String
  | .non => some "NoneType"
  | .bl _ => some "bool"
  | .int _ => some "int"
  | .str _ => some "str"
  | .tup _ => some "tuple"
  | .lst _ => some "list"
  | .pot => some "list"
  | .ty _ => none
  | .fn _ => none
  | .own _ => none
def cIsi : List D → (D → Prop) → Prop := fun xs R => match xs with
  | [x, .ty n] => match tyN x with
    | some t => match kitB t n with
      | some b => R (.bl b)
      | none => False
    | none => False
  | _ => False
theorem tyX_tup {K : PySem.W.Frag} {H : Hp} {a : Addr} {vs : List V} (h : SqT K H a vs) : TyX K H (.ref a) (.type "tuple") := by
  rcases h with (h | ⟨o, h⟩) | ⟨o, its, n, h, c, _⟩
  · exact .base (.tup h)
  · exact .fTuple h
  · exact .kTuple h c
theorem tyX_lst {K : PySem.W.Frag} {H : Hp} {a : Addr} {vs : List V} (h : SqL K H a vs) : TyX K H (.ref a) (.type "list") := by
  rcases h with (h | ⟨o, h⟩) | ⟨o, its, n, h, c, _⟩
  · exact .base (.lst h)
  · exact .base (.frz h)
  · exact .kList h c
theorem cd_isi : CallD X p (.builtin "isinstance") cIsi := by
  refine ⟨_, call_isi, fun F H xs vs Q R pk ix hh q => ?_⟩
  unfold cIsi at hh
  split at hh
  · split at hh
    · rename_i t et
      split at hh
      · rename_i b eb
        cases ix with
        | cons i1 i2 =>
          cases i2 with
          | cons i2 i3 =>
            cases i3
            cases i2
            have fin : ∀ {x : V}, TyX X.K H x (.type t) → ∃ (x' c : V) (t' u : Value) (b : Bool), [x, .ty _] = [x', c] ∧ ClsV c u ∧ TyX X.K H x' t' ∧ PySem.W.kitOne X.K t' u = some b ∧ Q (.bl b) H :=
              fun {x} hx => ⟨x, _, _, _, b, rfl, .ty _, hx, kit_ty eb, q _ _ H (.refl pk.pk) (.bl b) hh⟩
            cases i1 with
            | non => cases et; exact fin (.base .non)
            | bl _ => cases et; exact fin (.base (.bl _))
            | int _ => cases et; exact fin (.base (.int _))
            | str _ => cases et; exact fin (.base (.str _))
            | ty _ => cases et
            | fn _ => cases et
            | tup hs _ _ => cases et; exact fin (tyX_tup hs)
            | lst hs _ _ => cases et; exact fin (tyX_lst (Rdl.sq hs))
            | pot =>
              cases et
              obtain ⟨m, n, _, _, _, hp⟩ := pk.pk.at_
              exact fin (.base (.lst hp))
      · exact hh.elim
    · exact hh.elim
  · exact hh.elim
theorem kb_tt : kitB "tuple" "tuple" = some true := by decide +kernel
theorem kb_ii : kitB "int" "int" = some true := by decide +kernel
theorem kb_ib : kitB "int" "bool" = some false := by decide +kernel
theorem kb_bi : kitB "bool" "int" = some true := by decide +kernel
theorem kb_bb : kitB "bool" "bool" = some true := by decide +kernel
theorem kb_it : kitB "int" "tuple" = some false := by decide +kernel
theorem kb_bt : kitB "bool" "tuple" = some false := by decide +kernel
theorem kb_nt : kitB "NoneType" "tuple" = some false := by decide +kernel
theorem kb_ni : kitB "NoneType" "int" = some false := by decide +kernel
theorem kb_lt : kitB "list" "tuple" = some false := by decide +kernel
theorem kb_li : kitB "list" "int" = some false := by decide +kernel
theorem kb_ti : kitB "tuple" "int" = some false := by decide +kernel
theorem kb_si : kitB "str" "int" = some false := by decide +kernel
theorem kb_st : kitB "str" "tuple" = some false := by decide +kernel
theorem kb_ss : kitB "str" "str" = some true := by decide +kernel
mutual
def intsOk : D → Prop
  | .int i => i.natAbs.log2 < 1920
  | .str x => (PyData.str x).showable = true ∧ (PyData.str x).shown.length + 2 ≤ 1930
  | .tup l => intsOks l
  | .lst l => intsOks l
  | _ => True
def intsOks : List D → Prop
  | [] => True
  | d :: l => intsOk d ∧ intsOks l
end
mutual
def cnt : D → Nat
  | .tup l => cnts l + 1
  | .lst l => cnts l + 1
  | _ => 1
def cnts : List D → Nat
  | [] => 0
  | d :: l => cnt d + cnts l
end
theorem shown_ok : ∀ (n : Nat), (∀ d : D, shp n d = true → intsOk d → (toP d).showable = true ∧ (toP d).shown.length + 2 ≤ 1930 * cnt d) ∧
    ∀ l : List D, shps n l = true → intsOks l → PyData.showableAll (toPs l) = true ∧ piled (PyData.shownAll (toPs l)) ≤ 1930 * cnts l ∧ (∀ t ∈ PyData.shownAll (toPs l), t.length + 2 ≤ 1930 * cnts l) := by
  have lists : ∀ n, (∀ d : D, shp n d = true → intsOk d → (toP d).showable = true ∧ (toP d).shown.length + 2 ≤ 1930 * cnt d) →
      ∀ l : List D, shps n l = true → intsOks l → PyData.showableAll (toPs l) = true ∧ piled (PyData.shownAll (toPs l)) ≤ 1930 * cnts l ∧ (∀ t ∈ PyData.shownAll (toPs l), t.length + 2 ≤ 1930 * cnts l) := by
    intro n h l
    induction l with
    | nil => intro _ _; exact ⟨by simp [toPs, PyData.showableAll], by simp [toPs, PyData.shownAll, piled], by simp [toPs, PyData.shownAll]⟩
    | cons d l ih =>
      intro hl hi
      rw [shps, Bool.and_eq_true] at hl
      rw [intsOks] at hi
      obtain ⟨a1, a2⟩ := h d hl.1 hi.1
      obtain ⟨b1, b2, b3⟩ := ih hl.2 hi.2
      refine ⟨by simp [toPs, PyData.showableAll, a1, b1], ?_, ?_⟩
      · simp only [toPs, PyData.shownAll, piled_cons, cnts]
        omega
      · intro t ht
        simp only [toPs, PyData.shownAll, List.mem_cons] at ht
        simp only [cnts]
        rcases ht with e | e
        · subst e
          omega
        · have := b3 t e
          omega
  have one : ∀ n, (∀ m, n = m + 1 → ∀ l : List D, shps m l = true → intsOks l → PyData.showableAll (toPs l) = true ∧ piled (PyData.shownAll (toPs l)) ≤ 1930 * cnts l ∧ (∀ t ∈ PyData.shownAll (toPs l), t.length + 2 ≤ 1930 * cnts l)) →
      ∀ d : D, shp n d = true → intsOk d → (toP d).showable = true ∧ (toP d).shown.length + 2 ≤ 1930 * cnt d := by
    intro n hls d hd hi
    have hj : ∀ ts : List Str, (Str.join ", " ts).length ≤ piled ts := fun ts => by
      cases ts with
      | nil => exact Nat.le_refl _
      | cons t r =>
        have := join_length_add (t :: r) (by simp)
        omega
    cases d with
    | non => exact ⟨by simp [toP, PyData.showable], by show (4 : Nat) + 2 ≤ 1930 * 1; decide⟩
    | bl b => exact ⟨by simp [toP, PyData.showable], by cases b <;> (show (_ : Nat) ≤ 1930 * 1; decide)⟩
    | int i =>
      rw [intsOk] at hi
      refine ⟨by simp [toP, PyData.showable, hi], ?_⟩
      have := int_text_len_1921 hi
      show (Str.ofString (toString i)).length + 2 ≤ 1930 * 1
      omega
    | str x =>
      rw [intsOk] at hi
      refine ⟨hi.1, ?_⟩
      have := hi.2
      show (PyData.str x).shown.length + 2 ≤ 1930 * 1
      omega
    | tup l =>
      cases n with
      | zero => simp [shp] at hd
      | succ m =>
        obtain ⟨a1, a2, _⟩ := hls m rfl l (by simpa [shp] using hd) (by simpa [intsOk] using hi)
        refine ⟨by simp [toP, PyData.showable, a1], ?_⟩
        have h1 := hj (PyData.shownAll (toPs l))
        have h2 : (toP (.tup l)).shown.length ≤ 1 + (Str.join ", " (PyData.shownAll (toPs l))).length + 2 := by
          simp only [toP, PyData.shown, tupleText]
          rw [strLen_append, strLen_append]
          have : ((if (PyData.shownAll (toPs l)).length == 1 then ",)" else ")" : String) : Str).length ≤ 2 := by split <;> decide
          have : (("(" : String) : Str).length = 1 := rfl
          omega
        simp only [cnt]
        omega
    | lst l =>
      cases n with
      | zero => simp [shp] at hd
      | succ m =>
        obtain ⟨a1, a2, _⟩ := hls m rfl l (by simpa [shp] using hd) (by simpa [intsOk] using hi)
        refine ⟨by simp [toP, PyData.showable, a1], ?_⟩
        have h2 : (toP (.lst l)).shown.length ≤ piled (PyData.shownAll (toPs l)) + 4 := by
          have h1 := hj (PyData.shownAll (toPs l))
          simp only [toP, PyData.shown, listText_eq_join]
          rw [strLen_append, strLen_append]
          have : (("[" : String) : Str).length = 1 := rfl
          have : (("]" : String) : Str).length = 1 := rfl
          omega
        simp only [cnt]
        omega
    | _ => simp [shp] at hd
  intro n
  induction n with
  | zero => exact ⟨one 0 (fun m e => by omega), lists 0 (one 0 (fun m e => by omega))⟩
  | succ n ih =>
    have o := one (n + 1) (fun m e => by have : n = m := by omega
                                         subst this
                                         exact ih.2)
    exact ⟨o, lists (n + 1) o⟩
structure okR (d : D) : Prop where
  sh : shp 60 d = true
  nums : intsOk d
  few : cnt d ≤ 5000
def cRepr : List D → (D → Prop) → Prop := fun xs R => match xs with
  | [d] => okR d ∧ R (.str (toP d).shown)
  | _ => False
theorem call_repr_data (hg : X.A.guards = some []) (hu : X.A.units + 64 < cLine) : CallR X (.builtin "repr") (fun xs H Q => ∃ x d, xs = [x] ∧ Dp X.K H x d ∧ d.showable = true ∧ d.hasDict = false ∧ d.depth ≤ 60 ∧ d.shown.length ≤ sizeLine ∧ Q (.str d.shown) H) := by
  intro pins s σ H xs us Q I r h
  obtain ⟨x, d, rfl, dp, h1, h2, h3, h4, q⟩ := h
  obtain ⟨u, rfl, ru⟩ := vals1 r
  obtain ⟨as, rd⟩ := Dp.reads I d x u dp ru
  cases dp with
  | non => cases ru; exact PySem.P.repr_of_none ⟨.str _, H, I.tok _, ⟨_, rfl⟩, q⟩
  | bl b => cases ru; exact PySem.P.repr_of_bool ⟨.str _, H, I.tok _, ⟨_, rfl⟩, by
      cases b <;> exact q⟩
  | int i =>
    obtain ⟨t, rfl⟩ := ru
    exact PySem.P.repr_of_int (by simpa [PyData.showable] using h1) ⟨.str _, H, I.tok _, ⟨_, rfl⟩, q⟩
  | str z =>
    obtain ⟨t, rfl⟩ := ru
    exact PySem.P.repr_of_str ⟨.str _, H, I.tok _, ⟨_, rfl⟩, q⟩ h4
  | lst hs ha =>
    cases ru
    exact repr_of_reads' rd h1 (PyData.noDict_hsm h2) hg (by omega) (fun _ _ e => e) (fun h' u tk hk => ⟨.str _, H, I.kept (t' := tk) hk, ⟨_, rfl⟩, q⟩) h4
  | tup hs ha =>
    cases ru
    exact repr_of_reads' rd h1 (PyData.noDict_hsm h2) hg (by omega) (fun _ _ e => e) (fun h' u tk hk => ⟨.str _, H, I.kept (t' := tk) hk, ⟨_, rfl⟩, q⟩) h4
theorem cd_repr (hg : X.A.guards = some []) (hu : X.A.units + 64 < cLine) : CallD X p (.builtin "repr") cRepr := by
  refine ⟨_, call_repr_data hg hu, fun F H xs vs Q R pk ix hh q => ?_⟩
  unfold cRepr at hh
  split at hh
  · rename_i d
    obtain ⟨⟨h1, h2, h3⟩, h4⟩ := hh
    cases ix with
    | cons i1 i2 =>
      cases i2
      obtain ⟨a1, a2, a3, a4⟩ := (shp_all 60).1 d h1
      obtain ⟨b1, b2⟩ := (shown_ok 60).1 d h1 h2
      refine ⟨_, _, rfl, i1.dp a1, b1, a4, a3, ?_, q _ _ H (.refl pk.pk) (.str _) h4⟩
      have : sizeLine = 16777216 := sizeLine_eq
      omega
  · exact hh.elim
structure BS (i : Int) : Prop where
  nn : 0 ≤ i
  few : i < 2 ^ 512
theorem BS.of {j : Int} (h0 : 0 ≤ j) (h1 : j < 1606938044258990275541962092341162602522202993782792835301376) : BS j := by
  have e : (1606938044258990275541962092341162602522202993782792835301376 : Int) ≤ 2 ^ 512 := by decide +kernel
  exact ⟨h0, Int.lt_of_lt_of_le h1 e⟩
def cSqrt : List D → (D → Prop) → Prop := fun xs R => match xs with
  | [.int i] => BS i ∧ ∀ r : Int, 0 ≤ r → r * r ≤ i → i < (r + 1) * (r + 1) → R (.int r)
  | _ => False
theorem cd_gcd : CallD X p (.builtin "math.gcd") (cI2 (fun _ _ => True) fun a b => .int ((Nat.gcd a.natAbs b.natAbs : Nat) : Int)) := cI2_of cr_gcd fun a b F H Q _ pk q => ⟨a, b, rfl, q _ H (.refl pk.pk) (.int _)⟩
end
end DL
namespace DL
open PySem PySem.Spec L2
open PyProof.Rows hiding St
def liftE (K : PySem.W.Frag) (p : Qt) (d : DE) : TE := fun σ H Q => ∃ g F τ R, Rel K p g F σ H τ ∧ d τ R ∧ ∀ x v H', Ex p H H' → Is K p F H' v x → R x → Q v H'
def liftT (K : PySem.W.Frag) (p : Qt) (d : DT) : TT := fun σ H Q => ∃ g F τ R, Rel K p g F σ H τ ∧ d τ R ∧ ∀ b H', Ex p H H' → R b → Q b H'
theorem PD.pe {X : Cx} {p : Qt} {e : Expr} {d : DE} (h : PD X p e d) : PE X e (liftE X.K p d) := by
  obtain ⟨t, h1, h2⟩ := h.run
  exact ⟨fun pins s σ H Q I ⟨g, F, τ, R, a, b, c⟩ => h1.run pins s σ H Q I (h2 g F σ H τ Q R a b c)⟩
theorem PDT.pt {X : Cx} {p : Qt} {e : Expr} {d : DT} (h : PDT X p e d) : PT X e (liftT X.K p d) := by
  obtain ⟨t, h1, h2⟩ := h.run
  exact ⟨fun pins s σ H Q I ⟨g, F, τ, R, a, b, c⟩ => h1.run pins s σ H Q I (h2 g F σ H τ Q R a b c)⟩
section
variable {X : Cx} {p : Qt} {tg : Expr}
theorem SqT.since {K : PySem.W.Frag} {F : List Addr} {H H' : Hp} {a : Addr} {vs : List V} (h : SqT K H a vs) (n : a ≠ p.pot) (pk : PkF p F H) (e : ExF p F H H') : SqT K H' a vs := by
  have nf : ∀ o, ¬ isMut o → H a = some o → a ∉ F := fun o m q z => by
    obtain ⟨_, u, h1, h2⟩ := pk.al a z
    rw [q] at h1
    cases h1
    exact m h2
  rcases h with (h | ⟨o, h⟩) | h
  · exact .inl (.inl (e.kp _ _ n (nf (.tup vs) (fun z => z) h) (fun _ z => nomatch z) h))
  · exact .inl (.inr ⟨o, e.kp _ _ n (nf (.frz o (.tup vs)) (fun z => z) h) (fun _ z => nomatch z) h⟩)
  · exact .inr h
theorem Rdl.since {F : List Addr} {H H' : Hp} {a : Addr} {vs : List V} (h : Rd H a (.lst vs)) (n : a ≠ p.pot ∧ a ∉ F) (e : ExF p F H H') : Rd H' a (.lst vs) := by
  rcases h with h | ⟨o, h⟩
  · exact .inl (e.kp _ _ n.1 n.2 (fun _ z => nomatch z) h)
  · exact .inr ⟨o, e.kp _ _ n.1 n.2 (fun _ z => nomatch z) h⟩
def dSq (d : DE) : DI := fun τ R => d τ fun x => match x with
  | .lst l => R l
  | .tup l => R l
  | _ => False
def rng (lo : Int) (n : Nat) : List D := (List.range n).map fun (k : Nat) => D.int (lo + (k : Int))
theorem rng_len (lo : Int) (n : Nat) : (rng lo n).length = n := by simp [rng]
theorem rng_get {lo : Int} {n i : Nat} (h : i < n) : (rng lo n)[i]? = some (.int (lo + i)) := by simp [rng, h]
theorem wd_rng {K : PySem.W.Frag} {F : List Addr} {H : Hp} {lo : Int} {n : Nat} : WD K p F (Itr lo n) H (rng lo n) := by
  refine ⟨fun i H' F' e k pk hi => ?_, fun H' e => by rw [rng_len]; exact Nat.le_refl _⟩
  rw [rng_len] at hi
  refine ⟨hi, fun x H2 y => ?_⟩
  obtain ⟨rfl, rfl⟩ := y
  exact ⟨.refl e.pk, _, rng_get hi, .int _⟩
def dRg1 (d : DA) : DI := fun τ R => d τ fun xs => match xs with
  | [.int j] => (-(2 ^ 62) ≤ j ∧ j < 2 ^ 62) ∧ R (rng 0 j.toNat)
  | _ => False
def dRg2 (d : DA) : DI := fun τ R => d τ fun xs => match xs with
  | [.int i, .int j] => (-(2 ^ 62) ≤ i ∧ i < 2 ^ 62 ∧ -(2 ^ 62) ≤ j ∧ j < 2 ^ 62) ∧ R (rng i (j - i).toNat)
  | _ => False
theorem pdi_rg1 {a : Expr} {q pos : Pos} {d : DA} (hm : X.mg "range" = none) (ha : PDA X p [a] d) (hg : Gl X "range" := by rfl) (hs : starEach [a] X.env = [(false, eval a X.env)] := by rfl) : PDI X p tg (.Call (.Name "range" q) [a] [] pos) (dRg1 d) := by
  obtain ⟨t, h1, h2⟩ := ha.run
  refine ⟨_, pi_range1 hg hm h1 hs, fun g F σ H τ Rw R rel hd q => ?_⟩
  refine h2 g F σ H τ _ _ rel hd fun xs vs H1 e1 i1 l1 h1 => ?_
  split at h1
  · cases i1 with
    | cons i1 i2 =>
      cases i2
      cases i1
      exact ⟨_, rfl, h1.1.1, h1.1.2, q _ H1 _ e1 wd_rng h1.2⟩
  · exact h1.elim
def zipD : List D → List D → List D
  | x :: xs, y :: ys => .tup [x, y] :: zipD xs ys
  | _, _ => []
def dZip (d : DA) : DI := fun τ R => d τ fun xs => match xs with
  | [.tup l, .tup m] => R (zipD l m)
  | [.lst l, .lst m] => R (zipD l m)
  | _ => False
end
structure PDGw (X : Cx) (p : Qt) (vs : List Nat) (tg : Expr) (d : DG) (t : TG) : Prop where
  pg : PG X tg t
  go : ∀ (v : V) (x : D) (g : Gd) (F : List Addr) (σ : L2.St) (H : Hp) (τ : Sl) (Q : L2.St → Hp → Prop) (R : Sl → Prop), Rel X.K p g F σ H τ → Is X.K p F H v x → d x τ R → (∀ σ' H' τ', Ex p H H' → Rel X.K p g F σ' H' τ' → wipe σ' vs = wipe σ vs → R τ' → Q σ' H') → t v σ H Q
structure PDGsw (X : Cx) (p : Qt) (vs : List Nat) (tgs : List Expr) (d : DGs) (t : TGs) : Prop where
  pg : PGs X tgs t
  go : ∀ (ws : List V) (xs : List D) (g : Gd) (F : List Addr) (σ : L2.St) (H : Hp) (τ : Sl) (Q : L2.St → Hp → Prop) (R : Sl → Prop), Rel X.K p g F σ H τ → IsL X.K p F H ws xs → d xs τ R → (∀ σ' H' τ', Ex p H H' → Rel X.K p g F σ' H' τ' → wipe σ' vs = wipe σ vs → R τ' → Q σ' H') → t ws σ H Q
section
variable {X : Cx} {p : Qt} {pos : Pos} {vs : List Nat}
end
def dYes : DT := fun _ R => R true
def dLcGo (g : DG) (tt : DT) (te : DE) (τ : Sl) : List D → List D → (List D → Prop) → Prop
  | [], acc, R => R acc
  | x :: r, acc, R => g x τ fun τ2 => tt τ2 fun b => if b = true then te τ2 fun y => dLcGo g tt te τ r (acc ++ [y]) R else dLcGo g tt te τ r acc R
structure LenOk (l : List D) : Prop where
  few : l.length ≤ 1000000
theorem LenOk.of {l : List D} (n : Nat) (h : l.length = n) (h2 : n ≤ 1000000) : LenOk l := ⟨by rw [h]; exact h2⟩
def dLc (it : DI) (g : DG) (tt : DT) (te : DE) (own : List Nat) : DE := fun τ R => it τ fun l => LenOk l ∧ dLcGo g tt te (wipeD τ own) l [] fun acc => R (.lst acc)
section
variable {X : Cx} {p : Qt} {pos : Pos}
theorem Rel.wrote {K : PySem.W.Frag} {g : Gd} {F : List Addr} {σ : L2.St} {H : Hp} {τ : Sl} {D0 : Addr} {ws xs : List V} (rel : Rel K p g F σ H τ) (hF : D0 ∈ F) (hD : H D0 = some (.lst ws)) (hg : D0 ∈ g.B ∨ ∀ o, NoT o → g.H0 D0 ≠ some o) (ho : ∀ (i : Nat) (l : List D), τ[i]? = some (some (D.own l)) → σ[i]? ≠ some (some (V.ref D0))) : Rel K p g F σ (upd H D0 (.lst xs)) τ ∧ ∀ w y, Is K p F H w y → Is K p F (upd H D0 (.lst xs)) w y := by
  have nP : D0 ≠ p.pot := (rel.al D0 hF).1
  have nT : ∀ t ∈ p.tabs, D0 ≠ t := fun t ht z => by
    obtain ⟨ps, q, _⟩ := rel.pk.tb t ht
    rw [← z, hD] at q
    cases q
  have tupk : ∀ {a : Addr} {vs : List V}, SqT K H a vs → SqT K (upd H D0 (.lst xs)) a vs := by
    intro a vs h
    rcases h with (h | ⟨o, h⟩) | h
    · exact .inl (.inl (by rw [upd_ne (ne_of h hD (by intro z; cases z))]; exact h))
    · exact .inl (.inr ⟨o, by rw [upd_ne (ne_of h hD (by intro z; cases z))]; exact h⟩)
    · exact .inr h
  have lstk : ∀ {a : Addr} {vs : List V}, a ∉ F → Rd H a (.lst vs) → Rd (upd H D0 (.lst xs)) a (.lst vs) := by
    intro a vs n h
    have ne : a ≠ D0 := fun z => n (z ▸ hF)
    rcases h with h | ⟨o, h⟩
    · exact .inl (by rw [upd_ne ne]; exact h)
    · exact .inr ⟨o, by rw [upd_ne ne]; exact h⟩
  have isk : ∀ {v : V} {d : D}, Is K p F H v d → Is K p F (upd H D0 (.lst xs)) v d := by
    intro v d h
    exact Is.rec (motive_1 := fun v d _ => Is K p F (upd H D0 (.lst xs)) v d) (motive_2 := fun vs l _ => IsL K p F (upd H D0 (.lst xs)) vs l) .non .bl .int .str .ty .fn
      (fun h n _ ih => .tup (tupk h) n ih) (fun h n _ ih => .lst (lstk n.2 h) n ih) .pot .nil (fun _ _ i1 i2 => .cons i1 i2) h
  have islk : ∀ {vs : List V} {l : List D}, IsL K p F H vs l → IsL K p F (upd H D0 (.lst xs)) vs l := fun {vs l} h => h.all fun w y z => isk z
  refine ⟨⟨⟨?_, fun t ht => TabG.upd (rel.pk.tb t ht) (nT t ht), Tabs.put rel.pk.lt hD, rel.pk.lp⟩, fun b o n nb t q => ?_, rel.sub, fun b hb => ?_, rel.fo, fun i d h n => ?_, fun i l h => ?_, rel.un, rel.len⟩, fun w y => isk⟩
  · obtain ⟨x, y, g1, g2, g3, g4⟩ := rel.pk.at_
    exact ⟨x, y, g1, g2, g3, by rw [upd_ne nP.symm]; exact g4⟩
  · have ne : b ≠ D0 := fun z => by
      subst z
      rcases hg with z | z
      · exact nb z
      · exact z o t q
    rw [upd_ne ne]
    exact rel.kp b o n nb t q
  · obtain ⟨h1, o, h2, h3⟩ := rel.al b hb
    by_cases ne : b = D0
    · subst ne
      exact ⟨h1, _, upd_same, trivial⟩
    · exact ⟨h1, o, by rw [upd_ne ne]; exact h2, h3⟩
  · obtain ⟨v, h1, h2⟩ := rel.sl i d h n
    exact ⟨v, h1, isk h2⟩
  · obtain ⟨a, vs, h1, h2, h3, h4, h6⟩ := rel.ow i l h
    have ne : a ≠ D0 := fun z => ho i l h (by rw [h1, z])
    exact ⟨a, vs, h1, by rw [upd_ne ne]; exact h2, h3, h4, islk h6⟩
end
def dGenGo (c : Bool) (g : DG) (te : DE) (τ : Sl) : List D → (Bool → Prop) → Prop
  | [], R => R c
  | x :: r, R => g x τ fun τ2 => te τ2 fun y => match y with
    | .bl b => if b = c then dGenGo c g te τ r R else R (!c)
    | _ => False
def dGen (c : Bool) (it : DI) (g : DG) (te : DE) (own : List Nat) : DE := fun τ R => it τ fun l => dGenGo c g te (wipeD τ own) l fun b => R (.bl b)
section
variable {X : Cx} {p : Qt}
theorem Room.gx {k : Nat} {A : Around} {ge : Env} (r : Room (k + 1) A) : Room k (A.in1.in1.deeper ge) :=
  ⟨r.hd, by have := r.dp; show A.depth + 1 + 3 * k + 5 < _; omega, by have := r.un; show A.units + 1 + 1 + 3 + 16 * k + 200 < _; omega⟩
end
structure PCh (X : Cx) (p : Qt) (ops : List CmpOp) (es : List Expr) (d : D → DE) : Prop where
  run : ∀ (pos : Pos) (pins : List (Addr × Obj)) (s : Shared) (g0 : Gd) (F : List Addr) (σ : L2.St) (H : Hp) (τ : Sl) (v : V) (u : Value) (x : D) (Q : VK) (R : D → Prop), Inv X pins σ H s → Rel X.K p g0 F σ H τ → RelV v u → Is X.K p F H v x → d x τ R → (∀ z v' H', Ex p H H' → Is X.K p F H' v' z → R z → Q v' H') →
    wpAny (model X.prog X.w) X.A (compareChain pos u ops (evalEach es X.env)) (EP X pins σ Q) X.xe s
structure PCt (X : Cx) (p : Qt) (ops : List CmpOp) (es : List Expr) (d : D → DT) : Prop where
  run : ∀ (pos : Pos) (pins : List (Addr × Obj)) (s : Shared) (g0 : Gd) (F : List Addr) (σ : L2.St) (H : Hp) (τ : Sl) (v : V) (u : Value) (x : D) (Q : Bool → Hp → Prop) (R : Bool → Prop), Inv X pins σ H s → Rel X.K p g0 F σ H τ → RelV v u → Is X.K p F H v x → d x τ R → (∀ b H', Ex p H H' → R b → Q b H') →
    wpAny (model X.prog X.w) X.A (testChain pos u ops (evalEach es X.env)) (TP X pins σ Q) X.xe s
def cLast (g : D → D → (D → Prop) → Prop) (dc : DE) : D → DE := fun x τ R => dc τ fun w => g x w R
def cLink (g : D → D → (D → Prop) → Prop) (db : DE) (d : D → DE) : D → DE := fun x τ R => db τ fun y => g x y fun z => match z with
  | .bl k => if k = true then d y τ R else R (.bl false)
  | _ => False
def tLast (g : D → D → (D → Prop) → Prop) (dc : DE) : D → DT := fun x τ R => dc τ fun w => g x w fun z => match z with
  | .bl k => R k
  | _ => False
def tLink (g : D → D → (D → Prop) → Prop) (db : DE) (d : D → DT) : D → DT := fun x τ R => db τ fun y => g x y fun z => match z with
  | .bl k => if k = true then d y τ R else R false
  | _ => False
def dCh (da : DE) (d : D → DE) : DE := fun τ R => da τ fun x => d x τ R
def dCt (da : DE) (d : D → DT) : DT := fun τ R => da τ fun x => d x τ R
section
variable {X : Cx} {p : Qt} {a b : Expr} {da db : DE} {op op' : CmpOp} {ops : List CmpOp} {es : List Expr} {e' : Expr} {g : D → D → (D → Prop) → Prop} {pos : Pos}
end
end DL
namespace DL
open PySem PySem.Spec L2
open PyProof.Rows hiding St
section
variable {X : Cx} {p : Qt}
def gIs : D → D → (D → Prop) → Prop := fun x y R => match y with
  | .non => R (.bl (isNon x))
  | .bl b => match x with
    | .bl a => R (.bl (decide (a = b)))
    | _ => False
  | _ => False
def gIsNot : D → D → (D → Prop) → Prop := fun x y R => match y with
  | .non => R (.bl (!isNon x))
  | .bl b => match x with
    | .bl a => R (.bl (!decide (a = b)))
    | _ => False
  | _ => False
theorem opd_isnot : OpD X p (compareOp .IsNot) gIsNot := by
  refine ⟨_, op_notN.or op_notBl, fun F H x y v u Q R pk ix iy hh q => ?_⟩
  cases iy with
  | non =>
    refine .inl ⟨rfl, ?_⟩
    have e : decide (v = V.non) = isNon x := by cases ix <;> rfl
    rw [e]
    exact q _ _ H (.refl pk.pk) (.bl _) hh
  | bl b =>
    cases ix with
    | bl a => exact .inr ⟨a, b, rfl, rfl, q _ _ H (.refl pk.pk) (.bl _) hh⟩
    | _ => exact hh.elim
  | _ => exact hh.elim
def gIn : D → D → (D → Prop) → Prop := fun x y R => match y with
  | .lst l => (shp 60 x = true ∧ shp 60 (.lst l) = true) ∧ R (.bl (l.any fun z => PyData.eqv (toP z) (toP x)))
  | _ => False
def gNotIn : D → D → (D → Prop) → Prop := fun x y R => match y with
  | .lst l => (shp 60 x = true ∧ shp 60 (.lst l) = true) ∧ R (.bl (!l.any fun z => PyData.eqv (toP z) (toP x)))
  | _ => False
def cTuple : List D → (D → Prop) → Prop := fun xs R => match xs with
  | [.lst l] => R (.tup l)
  | [.tup l] => R (.tup l)
  | _ => False
def cList : List D → (D → Prop) → Prop := fun xs R => match xs with
  | [.lst l] => R (.lst l)
  | [.tup l] => R (.lst l)
  | _ => False
def cutD (l : List D) (lo hi : Option Int) : List D := (l.drop (HT.sIx l.length 0 lo)).take (HT.sIx l.length l.length hi - HT.sIx l.length 0 lo)
abbrev DO := Sl → (Option Int → Prop) → Prop
structure PDO (X : Cx) (p : Qt) (e : Option Expr) (d : DO) : Prop where
  run : ∃ t, PO X e t ∧ ∀ (g0 : Gd) (F : List Addr) (σ : L2.St) (H : Hp) (τ : Sl) (Q : Option Int → Hp → Prop) (R : Option Int → Prop), Rel X.K p g0 F σ H τ → d τ R → (∀ x H', Ex p H H' → R x → Q x H') → t σ H Q
def oNone : DO := fun _ R => R none
def oSome (d : DE) : DO := fun τ R => d τ fun x => match x with
  | .int i => R (some i)
  | _ => False
theorem pdo_none : PDO X p none oNone := ⟨_, po_none, fun g0 F σ H τ Q R rel h q => q _ H (.refl rel.pk) h⟩
theorem pdo_some {e : Expr} {d : DE} (he : PD X p e d) : PDO X p (some e) (oSome d) := by
  obtain ⟨t, h1, h2⟩ := he.run
  refine ⟨_, po_some h1, fun g0 F σ H τ Q R rel h q => ?_⟩
  refine h2 g0 F σ H τ _ _ rel h fun x v H' e i r => ?_
  cases i with
  | int i => exact ⟨i, rfl, q _ H' e r⟩
  | _ => exact r.elim
theorem IsL.cut {K : PySem.W.Frag} {F : List Addr} {H : Hp} {vs : List V} {l : List D} (h : IsL K p F H vs l) (lo hi : Option Int) : IsL K p F H (cutV vs lo hi) (cutD l lo hi) := by
  unfold cutV cutD
  rw [h.len]
  exact (h.drop _).take _
def gSl (d : DE) (lo hi : DO) : DE := fun τ R => d τ fun x => lo τ fun a => hi τ fun b => match x with
  | .tup l => R (.tup (cutD l a b))
  | .lst l => R (.lst (cutD l a b))
  | _ => False
def gMt (g : List D → List D → (D → Prop) → Prop) (d : DE) (ds : DA) : DE := fun τ R => d τ fun x => match x with
  | .lst l => ds τ fun xs => g l xs R
  | _ => False
def firstI (n : Int) : List Int → Nat
  | [] => 0
  | m :: l => if m = n then 0 else firstI n l + 1
def gIndex : List D → List D → (D → Prop) → Prop := fun l xs R => match xs with
  | [.int n] => match intsOf l with
    | some ns => n ∈ ns ∧ R (.int (firstI n ns))
    | none => False
  | _ => False
end
end DL
namespace DL
open PySem PySem.Spec L2
open PyProof.Rows hiding St
def onlyAt (a : Addr) (vs : List Value) (ns : List Int) (ts : List Addr) (sc : Bool) : Hp := fun b => if b ∈ ts then some (.tbl #[]) else if sc = true ∧ b = a then some (.frz { cls := .type "list", data := .seq vs.toArray } (.lst (ns.map V.int))) else none
theorem callTop {P : Program} {w : World} {K : PySem.W.Frag} {mg mb : Str → Option Value} {k : Nat} {fa a : Addr} {fd : FuncData} {x : Str} {sp : Sp} {s : Shared} {vs : List Value} {ns : List Int} {cs : List (Addr × Addr)}
    (inK : K.In s.heap) (gl : s.heap.Ns mainGlobals mg) (bl : s.heap.Ns builtinsNs mb) (ble : ∀ x : Str, x ≠ "__name__" → mb x = bootBuiltins x) (lim : s.heap.NoLimit) (gens : s.gens = #[])
    (tabs : ∀ q ∈ cs, s.heap.get? q.2 = some { cls := .none, data := .fields #[] } ∧ K.lookup q.2 = none ∧ PySem.W.CodeHd s.heap q.1 q.2)
    (bmain : ∃ (bm : Addr) (ob : Obj), mg "__builtins__" = some (.ref bm) ∧ bm ≠ builtinsNs ∧ s.heap.get? bm = some ob ∧ ob.cls = .type "module" ∧ ob.dict = some builtinsNs ∧ ob.data = .plain)
    (obj : s.heap.get? a = some { cls := .type "list", data := .seq vs.toArray }) (isI : IntsAre vs ns) (len : ns.length ≤ sizeLine) (room : Room k callerA)
    (F : ∀ base : Heap, K.In base → base.Ns mainGlobals mg → (∀ q ∈ cs, GxR.TabB base mg q.1 q.2) → FnG P w K mg base CX0 k fa fd [x] sp) (bind : ∀ (s : Shared) (u : Value), BindsTo s fd ⟨[u], []⟩ [(x, u)])
    (prom : ∀ H : Hp, (∀ q ∈ cs, H q.2 = some (.tbl #[])) → SqL K H a (ns.map V.int) → sp [.ref a] H (fun v _ => v = .bl true) fun _ _ _ => False) :
    codeAny (model P w) callerA (.call (.ref fa) ⟨[.ref a], []⟩) (fun r s' => r = .ok (.ret (.bool true)) ∧ OldK s.heap s'.heap ∧ s'.os = s.os ∧ AllBare s'.gens) s := by
  have vals := vals_ints isI
  -- where the tables stand
  generalize hts : cs.map (·.2) = ts
  have inT : ∀ q ∈ cs, q.2 ∈ ts := fun q hq => by rw [← hts]; exact List.mem_map.mpr ⟨q, hq, rfl⟩
  have ofT : ∀ b ∈ ts, s.heap.get? b = some { cls := .none, data := .fields #[] } ∧ K.lookup b = none := fun b hb => by
    rw [← hts] at hb
    obtain ⟨q, hq, e⟩ := List.mem_map.mp hb
    rw [← e]
    exact ⟨(tabs q hq).1, (tabs q hq).2.1⟩
  have nT : a ∉ ts := fun z => by
    have := (ofT a z).1
    rw [obj] at this
    have z' := congrArg Obj.data (Option.some.inj this)
    exact nomatch (show Data.seq vs.toArray _ = Data.fields #[] from z')
  suffices main : ∀ sc : Bool, SqL K (onlyAt a vs ns ts sc) a (ns.map V.int) → (sc = true → K.lookup a = none) →
      codeAny (model P w) callerA (.call (.ref fa) ⟨[.ref a], []⟩) (fun r s' => r = .ok (.ret (.bool true)) ∧ OldK s.heap s'.heap ∧ s'.os = s.os ∧ AllBare s'.gens) s by
    by_cases hk : K.lookup a = none
    · refine main true (.inl (.inr ⟨{ cls := .type "list", data := .seq vs.toArray }, ?_⟩)) fun _ => hk
      unfold onlyAt
      rw [if_neg nT, if_pos ⟨rfl, rfl⟩]
    · obtain ⟨o, ho⟩ := Option.ne_none_iff_exists'.mp hk
      have same := inK a o ho
      rw [obj] at same
      cases same
      have lv := isI.length
      refine main false (.inr ⟨_, vs.toArray, _, ho, rfl, rfl, rfl, ?_, ?_⟩) fun z => nomatch z
      · rw [List.size_toArray, lv]
        exact len
      · simpa using vals
  intro sc hS hsc
  generalize hH : onlyAt a vs ns ts sc = H at hS
  have look : ∀ b u, H b = some u → (b ∈ ts ∧ u = .tbl #[]) ∨ (b = a ∧ sc = true ∧ u = .frz { cls := .type "list", data := .seq vs.toArray } (.lst (ns.map V.int))) := fun b u e => by
    rw [← hH] at e
    unfold onlyAt at e
    split at e
    · cases e
      exact .inl ⟨by assumption, rfl⟩
    · split at e
      · rename_i q
        cases e
        exact .inr ⟨q.2, q.1, rfl⟩
      · cases e
  have tabH : ∀ b ∈ ts, H b = some (.tbl #[]) := fun b hb => by
    rw [← hH]
    unfold onlyAt
    rw [if_pos hb]
  have ok : HOk P w H s.heap := fun b u e => by
    rcases look b u e with ⟨h1, rfl⟩ | ⟨rfl, _, rfl⟩
    · exact (ofT b h1).1
    · exact ⟨obj, by rw [List.length_map]; exact len, vs, _, vals, obj⟩
  -- an object of another form is not tracked
  have free : ∀ {b : Addr} {o : Obj}, s.heap.get? b = some o → o.data ≠ .fields #[] → (∀ n, o.data ≠ .seq vs.toArray n) → H b = none := fun {b o} e h1 h2 => by
    cases z : H b with
    | none => rfl
    | some u =>
      rcases look b u z with ⟨h, _⟩ | ⟨rfl, _⟩
      · rw [(ofT b h).1] at e
        cases e
        exact absurd rfl h1
      · rw [obj] at e
        cases e
        exact absurd rfl (h2 _)
  have dict : ∀ {b : Addr} {m : Str → Option Value}, s.heap.Ns b m → (hidT s.heap H).Ns b m := by
    rintro b m ⟨o, es, ep, e, d, r⟩
    exact ⟨o, es, ep, hidT_get e (free e (by rw [d]; exact fun z => nomatch z) (by intro n; rw [d]; exact fun z => nomatch z)), d, r⟩
  have kin : K.In (hidT s.heap H) := fun b o e => hidT_get (inK b o e) (by
    cases z : H b with
    | none => rfl
    | some u =>
      rcases look b u z with ⟨h, _⟩ | ⟨rfl, h, _⟩
      · rw [(ofT b h).2] at e
        cases e
      · rw [hsc h] at e
        cases e)
  have mod : Mod K mg (hidT s.heap H) := ⟨kin, dict gl, ⟨mb, dict bl, ble⟩, by
    obtain ⟨mc, h1, h2⟩ := lim
    exact ⟨mc, dict h1, h2⟩⟩
  have e0 : Env0 P w K mg (hidT s.heap H) callerA [] s H := ⟨rfl, mod, fun b o e => of_hidT e, Nat.le_of_eq (hidT_size _ _), trivial, fun b z => absurd (show b ∈ ([] : List Addr) from z) List.not_mem_nil, ok, .of_eq gens⟩
  have TB : ∀ q ∈ cs, GxR.TabB (hidT s.heap H) mg q.1 q.2 := fun q hq => by
    obtain ⟨hP, _, C⟩ := tabs q hq
    obtain ⟨og, es, ep, eg, dg, _⟩ := id gl
    refine ⟨?_, ?_, fun z => ?_⟩
    · obtain ⟨o, us, file, tf, flags, tg, inF, text, tt, e1, r1, r2, r3, rest⟩ := C
      refine ⟨o, us, file, tf, flags, tg, inF, text, tt, hidT_get e1 (free e1 (fun z => ?_) fun n z => ?_), r1, r2, r3, rest⟩
      · rw [r2] at z
        cases z
        simp at r3
      · rw [r2] at z
        cases z
    · obtain ⟨bm, ob, b1, b2, b3, b4, b5, b6⟩ := bmain
      refine ⟨bm, ob, b1, b2, fun z => ?_, fun z => ?_, hidT_get b3 (free b3 (fun z => ?_) fun n z => ?_), b4, b5, b6⟩
      · rw [z, eg] at b3
        cases b3
        rw [dg] at b6
        cases b6
      · rw [z, hP] at b3
        cases b3
        cases b6
      · rw [b6] at z
        cases z
      · rw [b6] at z
        cases z
    · rw [z, hP] at eg
      cases eg
      cases dg
  refine codeAny_mono ((F _ kin (dict gl) TB).go callerA [] s H ⟨[.ref a], []⟩ [.ref a] [.ref a] _ _ rfl room e0 (bind s (.ref a)) (.cons rfl .nil) (prom H (fun q hq => tabH _ (inT q hq)) hS)) ?_
  rintro r s' out
  match r, out with
  | .error _, o => exact False.elim o
  | .ok .next, o => exact False.elim o
  | .ok .brk, o => exact False.elim o
  | .ok .cont, o => exact False.elim o
  | .ok (.ret u), o =>
    obtain ⟨v, H', os, bare, un, ok', rv, ev⟩ := o
    have ev : v = .bl true := ev
    subst ev
    cases rv
    have key : ∀ b o, b ∉ ts → s.heap.get? b = some o → s'.heap.get? b = some o := fun b o nb e => by
      cases z : H b with
      | none => exact un.keep b o e z (fun m => absurd (show b ∈ ([] : List Addr) from m) List.not_mem_nil) (fun m => absurd (show b ∈ ([] : List Addr) from m) List.not_mem_nil)
      | some u =>
        rcases look b u z with ⟨h, _⟩ | ⟨rfl, _, rfl⟩
        · exact absurd h nb
        · obtain ⟨e2, _⟩ := ok' b _ (un.frzs b _ _ z)
          rw [obj] at e
          cases e
          exact e2
    have grown : ∀ b ∈ ts, ∃ more : Array Value, s'.heap.get? b = some { cls := .none, data := .fields more } := fun b hb => by
      obtain ⟨more, z⟩ := un.tbls b #[] (tabH b hb)
      exact ⟨_, ok' b _ z⟩
    refine ⟨rfl, ⟨fun b o e => ?_, fun b o e => ?_⟩, os, bare⟩
    · by_cases hb : b ∈ ts
      · obtain ⟨more, hm⟩ := grown b hb
        have h1 := (ofT b hb).1
        rw [h1] at e
        cases e
        rw [← hts] at hb
        obtain ⟨q, hq, eq⟩ := List.mem_map.mp hb
        obtain ⟨hP, _, C⟩ := tabs q hq
        rw [← eq] at hm ⊢
        exact .inr (.inl ⟨(C.tab hP).isCodeTable, rfl, #[], more, rfl, by rw [Array.empty_append]; exact hm⟩)
      · exact .inl (key b o hb e)
    · by_cases hb : b ∈ ts
      · obtain ⟨more, hm⟩ := grown b hb
        exact ⟨_, hm⟩
      · exact ⟨o, key b o hb e⟩
def OwnTab (K : PySem.W.Frag) (mg : Str → Option Value) (h : Heap) (nm : Str) : Prop := ∀ (f c P : Addr) (o : Obj) (fd : FuncData) (e : Value) (dd : Option Addr) (vs : Array Value) (sl : Array (Option Value)), mg nm = some (.ref f) → K.lookup f = some o → o.data = .func fd → fd.code = .ref c →
  K.lookup c = some ⟨e, dd, .fields vs, sl⟩ → vs[11]? = some (.ref P) → h.get? P = some { cls := .none, data := .fields #[] } ∧ PySem.W.CodeHd h c P
end DL
namespace DL
open PySem PySem.Spec L2
open PyProof.Rows hiding St
theorem _root_.L2.Room.u65 {k : Nat} {A : Around} (r : Room k A) : A.units + 65 < cLine := by have := r.un; omega
theorem Cal.cal {P : Program} {w : World} {K : PySem.W.Frag} {mg : Str → Option Value} {base : Heap} {tabs : Tf} {x : Str} {k n : Nat} {ps : List Str} {kb : List (List Str × Nat × List Nat)} {sp : SpD} {p : Qt} (C : Cal P w K mg base tabs x k n ps kb sp) (h : p.tf = tabs) : Cal P w K mg base p.tf x k n ps kb sp := by
  rw [h]
  exact C
section
variable {X : Cx} {p : Qt} {pos : Pos}
end
def ivD (q : Int × Int) : D := .tup [.int q.1, .int q.2]
theorem forInv {g : DG} {body : DS} {E : DEn} (I : Nat → Sl → Prop) (l : List D) (τ : Sl) (h0 : I 0 τ)
    (step : ∀ (k : Sl → Prop) (i : Nat) (x : D) (τ : Sl), l[i]? = some x → (∀ τ', I (i + 1) τ' → k τ') → I i τ → g x τ fun τ2 => body { nx := k, rt := E.rt, bk := E.nx, ct := k } τ2)
    (fin : ∀ τ, I l.length τ → E.nx τ) : dForGo g body E l τ := by
  have key : ∀ (r : List D) (i : Nat) (τ : Sl), l.drop i = r → i ≤ l.length → I i τ → dForGo g body E r τ := by
    intro r
    induction r with
    | nil =>
      intro i τ e hi h
      have : l.length ≤ i := by
        have := congrArg List.length e
        rw [List.length_drop, List.length_nil] at this
        omega
      have e2 : i = l.length := by omega
      subst e2
      exact fin τ h
    | cons x r ih =>
      intro i τ e hi h
      have hlt : i < l.length := by
        have := congrArg List.length e
        rw [List.length_drop, List.length_cons] at this
        omega
      rw [List.drop_eq_getElem_cons hlt] at e
      injection e with e1 e2
      exact step _ i x τ (by rw [List.getElem?_eq_getElem hlt, e1]) (fun τ' h' => ih (i + 1) τ' e2 hlt h') h
  exact key l 0 τ rfl (Nat.zero_le _) h0
theorem whileI {c : DT} {body : DS} {E : DEn} (W : Nat → Sl → Prop) (m : Nat) (τ : Sl) (h0 : W m τ)
    (step : ∀ (m : Nat) (τ : Sl) (k : Sl → Prop), (∀ τ' m', m' < m → W m' τ' → k τ') → W m τ → c τ fun b => if b = true then body { nx := k, rt := E.rt, bk := E.nx, ct := k } τ else E.nx τ) : dWhile c body E τ :=
  ⟨W, ⟨m, h0⟩, fun m τ h => step m τ _ (fun τ' m' h1 h2 => ⟨m', h1, h2⟩) h⟩
theorem ifN {c A : Prop} [Decidable c] (h : ¬ c) (k : A) : if c then False else A := by rw [if_neg h]; exact k
theorem ite2P {c : Prop} [Decidable c] {A B : Prop} (h1 : c → A) (h2 : ¬ c → B) : if c then A else B := by
  by_cases h : c
  · rw [if_pos h]; exact h1 h
  · rw [if_neg h]; exact h2 h
theorem zipD_map {α β : Type} (c : α → D) (c' : β → D) : ∀ (l : List α) (m : List β), zipD (l.map c) (m.map c') = (l.zip m).map fun q => .tup [c q.1, c' q.2]
  | [], _ => by simp [zipD]
  | _ :: _, [] => by simp [zipD]
  | x :: l, y :: m => by
    simp only [List.map_cons, zipD, List.zip_cons_cons]
    rw [zipD_map c c' l m]
theorem eqv_self {d : D} (h : shp 60 d = true) : PyData.eqv (toP d) (toP d) = true := PySem.SeqAt.eqv_refl _ ((shp_all 60).1 d h).2.1
theorem em0 {a n : Int} (h : 0 < n) : 0 ≤ a % n := Int.emod_nonneg a (by omega)
theorem em1 {a n : Int} (h : 0 < n) : a % n < n := Int.emod_lt_of_pos a h
theorem ed0 {a n : Int} (h : 0 ≤ a) (h1 : 0 < n) : 0 ≤ a / n := Int.ediv_nonneg h (by omega)
theorem pot_lo {a n : Int} (h : 0 < n) : 0 ≤ a % n + 1 := by have := em0 (a := a) h; omega
theorem pot_hi {a n : Int} (h : 0 < n) (h2 : n < 4294967295) : a % n + 1 < 4294967296 := by have := em1 (a := a) h; omega
theorem small_log {i : Int} (h0 : -1606938044258990275541962092341162602522202993782792835301376 < i) (h1 : i < 1606938044258990275541962092341162602522202993782792835301376) : i.natAbs.log2 < 1920 := by
  have e : (2 : Nat) ^ 200 = 1606938044258990275541962092341162602522202993782792835301376 := by decide +kernel
  exact Nat.lt_of_lt_of_le (PySem.Flt.log2_lt_of (k := 200) (by decide) (by rw [e]; omega)) (by decide)
end DL
namespace DL
open PySem PySem.Spec L2
open PyProof.Rows hiding St
section
variable {K : PySem.W.Frag} {p : Qt} {g : Gd} {F : List Addr} {H H' : Hp} {σ : L2.St} {τ : Sl} {i : Nat} {a : Addr} {vs : List V} {l : List D}
theorem Rel.junk (r : Rel K p g F σ H τ) {v : Option V} : Rel K p g F (σ.set i v) H (τ.set i none) := by
  have oth : ∀ (j : Nat) (d : D), (τ.set i none)[j]? = some (some d) → i ≠ j ∧ τ[j]? = some (some d) := fun j l q => by
    rcases set_get q with ⟨rfl, e2, hl⟩ | q
    · cases e2
    · exact q
  refine ⟨r.pk, r.kp, r.sub, r.al, r.fo, fun j e q n => ?_, fun j l q => ?_, fun a b l l' c q1 q2 s1 s2 => ?_, by simp [r.len]⟩
  · obtain ⟨hj, q⟩ := oth j e q
    obtain ⟨u, h1, h2⟩ := r.sl j e q n
    exact ⟨u, by rw [List.getElem?_set_ne hj]; exact h1, h2⟩
  · obtain ⟨hj, q⟩ := oth j _ q
    obtain ⟨a, vs, h1, h2⟩ := r.ow j l q
    exact ⟨a, vs, by rw [List.getElem?_set_ne hj]; exact h1, h2⟩
  · obtain ⟨n1, q1⟩ := oth a _ q1
    obtain ⟨n2, q2⟩ := oth b _ q2
    rw [List.getElem?_set_ne n1] at s1
    rw [List.getElem?_set_ne n2] at s2
    exact r.un a b l l' c q1 q2 s1 s2
theorem set_same {α : Type} : ∀ {σ : List α} {i : Nat} {v : α}, σ[i]? = some v → σ.set i v = σ
  | _ :: _, 0, _, h => by cases h; rfl
  | x :: s, i + 1, v, h => by
    show x :: s.set i v = x :: s
    rw [set_same (by simpa using h)]
theorem Rel.forget (r : Rel K p g F σ H τ) : Rel K p g F σ H (τ.set i none) := by
  by_cases hi : i < σ.length
  · have := r.junk (i := i) (v := σ[i])
    rwa [set_same (List.getElem?_eq_getElem hi)] at this
  · have e : τ.set i none = τ := List.set_eq_of_length_le (by rw [r.len]; omega)
    rw [e]
    exact r
theorem Rel.addOwn (r : Rel K p g F σ H (τ.set i none)) (h1 : σ[i]? = some (some (.ref a))) (h2 : H a = some (.lst vs)) (h3 : a ∈ F) (h4 : a ∉ g.F0) (h5 : IsL K p F H vs l)
    (h6 : ∀ (j : Nat) (m : List D), j ≠ i → τ[j]? = some (some (.own m)) → σ[j]? ≠ some (some (.ref a))) : Rel K p g F σ H (τ.set i (some (.own l))) := by
  have oth : ∀ (j : Nat) (d : D), i ≠ j → τ[j]? = some (some d) → (τ.set i none)[j]? = some (some d) := fun j d n q => by rw [List.getElem?_set_ne n]; exact q
  refine ⟨r.pk, r.kp, r.sub, r.al, r.fo, fun j e q n => ?_, fun j m q => ?_, fun b c m m' x q1 q2 s1 s2 => ?_, by simpa using r.len⟩
  · rcases set_get q with ⟨rfl, e2, _⟩ | ⟨hj, q⟩
    · cases e2
      cases n
    · exact r.sl j e (oth j e hj q) n
  · rcases set_get q with ⟨rfl, e2, _⟩ | ⟨hj, q⟩
    · cases e2
      exact ⟨a, vs, h1, h2, h3, h4, h5⟩
    · exact r.ow j m (oth j _ hj q)
  · rcases set_get q1 with ⟨rfl, e1, _⟩ | ⟨n1, q1⟩
    · rcases set_get q2 with ⟨rfl, _, _⟩ | ⟨n2, q2⟩
      · rfl
      · rw [h1] at s1
        cases s1
        exact absurd s2 (h6 c m' (fun z => n2 z.symm) q2)
    · rcases set_get q2 with ⟨rfl, _, _⟩ | ⟨n2, q2⟩
      · rw [h1] at s2
        cases s2
        exact absurd s1 (h6 b m (fun z => n1 z.symm) q1)
      · exact r.un b c m m' x (oth b _ n1 q1) (oth c _ n2 q2) s1 s2
theorem Rel.shut2 (r : Rel K p g F σ H τ) (e : Ex p H H') (nP : a ≠ p.pot) (hn : ∀ o, NoT o → H a ≠ some o) (hD : H' a = some (.lst vs)) : Rel K p g (a :: F) σ H' τ := by
  have r' := r.st e
  have mo : ∀ b ∈ a :: F, b ∈ F ∨ ∀ o, NoT o → H b ≠ some o := fun b hb => by
    rcases List.mem_cons.mp hb with z | z
    · exact .inr (by rw [z]; exact hn)
    · exact .inl z
  refine ⟨r'.pk, r'.kp, fun b hb => List.mem_cons_of_mem _ (r.sub b hb), fun b hb => ?_, fun b hb => ?_, fun j d h n => ?_, fun j m h => ?_, r.un, r.len⟩
  · rcases List.mem_cons.mp hb with z | z
    · subst z
      exact ⟨nP, _, hD, trivial⟩
    · exact r'.al b z
  · rcases List.mem_cons.mp hb with z | z
    · subst z
      by_cases hB : b ∈ g.B
      · exact .inr (.inl hB)
      · exact .inr (.inr fun o t q => hn o t (r.kp b o nP hB t q))
    · exact r.fo b z
  · obtain ⟨v, h1, h2⟩ := r.sl j d h n
    exact ⟨v, h1, (h2.more mo).mono e.kp⟩
  · obtain ⟨b, ws, h1, h2, h3, h4, h6⟩ := r.ow j m h
    exact ⟨b, ws, h1, e.kp _ _ (r.al b h3).1 (fun _ z => nomatch z) h2, List.mem_cons_of_mem _ h3, h4, (h6.more mo).mono e.kp⟩
theorem Rel.takes (r : Rel K p g F σ H τ) (e : Ex p H H') (nP : a ≠ p.pot) (hn : ∀ o, NoT o → H a ≠ some o) (hD : H' a = some (.lst vs)) (il : IsL K p (a :: F) H' vs l) (hi : i < σ.length) : Rel K p g (a :: F) (σ.set i (some (.ref a))) H' (τ.set i (some (.own l))) := by
  have r1 := r.shut2 e nP hn hD
  have nF : a ∉ F := fun z => by
    obtain ⟨_, o, h1, h2⟩ := r.al a z
    exact hn o h2.noT h1
  have r2 : Rel K p g (a :: F) (σ.set i (some (.ref a))) H' (τ.set i none) := r1.junk
  refine r2.addOwn (by rw [List.getElem?_set_self hi]) hD List.mem_cons_self (fun z => nF (r.sub a z)) il fun j m hj hm z => ?_
  rw [List.getElem?_set_ne (fun y => hj y.symm)] at z
  obtain ⟨b, ws, h1, _, h3, _⟩ := r.ow j m hm
  rw [z] at h1
  cases h1
  exact nF h3
theorem Rel.puts {ws : List V} {l' : List D} (r : Rel K p g F σ H τ) (hτ : τ[i]? = some (some (.own l))) (h1 : σ[i]? = some (some (.ref a))) (il : IsL K p F H ws l') : Rel K p g F σ (upd H a (.lst ws)) (τ.set i (some (.own l'))) ∧ ∀ w y, Is K p F H w y → Is K p F (upd H a (.lst ws)) w y := by
  obtain ⟨b, us, k1, k2, k3, k4, k5⟩ := r.ow i l hτ
  rw [h1] at k1
  cases k1
  have ho : ∀ (j : Nat) (m : List D), j ≠ i → τ[j]? = some (some (.own m)) → σ[j]? ≠ some (some (.ref a)) := fun j m hj hm z => hj (r.un j i m l a hm hτ z h1)
  have hg : a ∈ g.B ∨ ∀ o, NoT o → g.H0 a ≠ some o := (r.fo a k3).elim (fun z => absurd z k4) id
  obtain ⟨r2, isk⟩ := (r.forget (i := i)).wrote (xs := ws) k3 k2 hg fun j m q z => by
    rcases set_get q with ⟨rfl, e2, _⟩ | ⟨hj, q⟩
    · cases e2
    · exact ho j m (fun y => hj y.symm) q z
  exact ⟨r2.addOwn h1 upd_same k3 k4 (il.all isk) ho, isk⟩
theorem Rel.frees (r : Rel K p g F σ H τ) (hτ : τ[i]? = some (some (.own l))) (h1 : σ[i]? = some (some (.ref a))) : Rel K p g (F.filter fun b => decide (b ≠ a)) σ H (τ.set i (some (.lst l))) := by
  obtain ⟨b, us, k1, k2, k3, k4, k5⟩ := r.ow i l hτ
  rw [h1] at k1
  cases k1
  have inF : ∀ b, b ∈ F.filter (fun b => decide (b ≠ a)) ↔ b ∈ F ∧ b ≠ a := fun b => by rw [List.mem_filter, decide_eq_true_iff]
  have sub : ∀ b ∈ F.filter (fun b => decide (b ≠ a)), b ∈ F := fun b hb => ((inF b).mp hb).1
  have hi : i < τ.length := (List.getElem?_eq_some_iff.mp hτ).1
  refine ⟨r.pk, r.kp, fun b hb => (inF b).mpr ⟨r.sub b hb, fun z => k4 (z ▸ hb)⟩, fun b hb => r.al b (sub b hb), fun b hb => r.fo b (sub b hb), fun j d q n => ?_, fun j m q => ?_, fun b c m m' x q1 q2 s1 s2 => ?_, by simpa using r.len⟩
  · rcases set_get q with ⟨rfl, e2, _⟩ | ⟨hj, q⟩
    · cases e2
      exact ⟨.ref a, h1, .lst (Rd.of k2) ⟨(r.al a k3).1, fun z => ((inF a).mp z).2 rfl⟩ (k5.less sub)⟩
    · obtain ⟨v, g1, g2⟩ := r.sl j d q n
      exact ⟨v, g1, g2.less sub⟩
  · rcases set_get q with ⟨rfl, e2, _⟩ | ⟨hj, q⟩
    · cases e2
    · obtain ⟨b, ws, g1, g2, g3, g4, g5⟩ := r.ow j m q
      exact ⟨b, ws, g1, g2, (inF b).mpr ⟨g3, fun z => hj (r.un i j l m a hτ q h1 (by rw [g1, z]))⟩, g4, g5.less sub⟩
  · rcases set_get q1 with ⟨rfl, e1, _⟩ | ⟨n1, q1⟩
    · cases e1
    · rcases set_get q2 with ⟨rfl, e2, _⟩ | ⟨n2, q2⟩
      · cases e2
      · exact r.un b c m m' x q1 q2 s1 s2
end
structure PDF (X : Cx) (p : Qt) (e : Expr) (d : DA) : Prop where
  run : ∃ t, PE X e t ∧ ∀ (g0 : Gd) (F : List Addr) (σ : L2.St) (H : Hp) (τ : Sl) (Q : VK) (R : List D → Prop), Rel X.K p g0 F σ H τ → d τ R →
    (∀ l a vs H', Ex p H H' → a ≠ p.pot → (∀ o, NoT o → H a ≠ some o) → H' a = some (.lst vs) → IsL X.K p (a :: F) H' vs l → R l → Q (.ref a) H') → t σ H Q
section
variable {X : Cx} {p : Qt} {pos : Pos}
theorem IsL.fresh {K : PySem.W.Frag} {F : List Addr} {H : Hp} {a : Addr} {o : HO} {vs : List V} {l : List D} (pk : Pk p H) (hn : H a = none) (h : IsL K p F H vs l) : IsL K p (a :: F) (upd H a o) vs l := by
  refine (h.more fun b hb => ?_).mono (Ex.new (o := o) pk hn).kp
  rcases List.mem_cons.mp hb with z | z
  · exact .inr fun o _ q => by rw [z, hn] at q; cases q
  · exact .inl z
theorem Ex.nothere {H H1 : Hp} {a : Addr} (e : Ex p H H1) (hn : H1 a = none) : a ≠ p.pot ∧ ∀ o, NoT o → H a ≠ some o := by
  have nP := e.pk.ne hn
  exact ⟨nP, fun o t q => by
    have := e.kp a o nP t q
    rw [hn] at this
    cases this⟩
theorem pdf_lst {es : List Expr} {ds : DA} (ha : PDA X p es ds) (hl : es.length ≤ sizeLine := by decide) : PDF X p (.List es pos) ds := by
  obtain ⟨t, h1, h2⟩ := ha.run
  refine ⟨_, pe_lst h1, fun g0 F σ H τ Q R rel h q => ?_⟩
  refine h2 g0 F σ H τ _ _ rel h fun xs vs H1 e1 i1 l1 h1 => ⟨by rw [l1]; exact hl, fun a hn => ?_⟩
  obtain ⟨nP, nh⟩ := e1.nothere hn
  exact q xs a vs _ (e1.trans (.new e1.pk hn)) nP nh upd_same (i1.fresh e1.pk hn) h1
def dLcF (it : DI) (g : DG) (tt : DT) (te : DE) (own : List Nat) : DA := fun τ R => it τ fun l => LenOk l ∧ dLcGo g tt te (wipeD τ own) l [] R
def dOwn (d : DA) (i : Nat) : DS := fun E τ => d τ fun l => E.nx (τ.set i (some (.own l)))
theorem pds_own {i : Nat} {x : Str} {pos' : Pos} {e : Expr} {d : DA} (hN : X.N.Nodup) (hi : X.N[i]? = some x) (hx : Loc X.env.scope x) (he : PDF X p e d) (hs : swapsWith e (some (.Name x pos')) pos.line X.env = pure false := by rfl) (hf : X.fn x = true ∨ X.env.scope.names.lookup x = some .local := by first | exact .inl rfl | exact .inr rfl | assumption) :
    PDS X p (.Assign [.Name x pos'] e pos) (dOwn d i) := by
  obtain ⟨a, a1, a2⟩ := he.run
  refine ⟨_, ps_set hN hi hx a1 hs hf, fun g F σ H τ E E' rel h ag => ?_⟩
  refine a2 g F σ H τ _ _ rel h fun l a vs H' e nP hn hD il r => ?_
  by_cases hl : i < σ.length
  · exact ag.nx _ _ H' _ (rel.takes e nP hn hD il hl) r
  · have e1 : τ.set i (some (.own l)) = τ := List.set_eq_of_length_le (by rw [rel.len]; omega)
    have e2 : σ.set i (some (V.ref a)) = σ := List.set_eq_of_length_le (by omega)
    rw [e1] at r
    show E.nx (σ.set i (some (V.ref a))) H'
    rw [e2]
    exact ag.nx _ _ H' _ (rel.st e) r
def dApp (i : Nat) (d : DE) : DS := fun E τ => match τ[i]? with
  | some (some (.own l)) => d τ fun x => l.length ≤ 1000000 ∧ E.nx (τ.set i (some (.own (l ++ [x]))))
  | _ => False
theorem pds_app {i : Nat} {x : Str} {px apos cpos : Pos} {e : Expr} {d : DE} (he : PD X p e d) (hN : X.N[i]? = some x := by rfl) (hv : Vis X.env.scope x := by first | exact Or.inl rfl | exact Or.inr (Or.inl rfl) | exact Or.inr (Or.inr rfl)) (hd : (x == ("__debug__" : Str)) = false := by decide)
    (hcd : (x == ("__classdict__" : Str)) = false := by decide) (hs : swapsWith (.Call (.Attribute (.Name x px) "append" apos) [e] [] cpos) none pos.line X.env = pure false := by rfl)
    (hbase : attributeBase (.Name x px) "append" X.env (eval (.Name x px) X.env) = eval (.Name x px) X.env := by rfl)
    (hfew : ((backTo cpos (starEach [e] X.env)).all (fun x => !x.1) && (backToKw cpos (keywordEach [] X.env)).all (fun x => x.1.isSome)
      && decide (([e] : List Expr).length + ([] : List Keyword).length + (if ([] : List Keyword).isEmpty then 0 else 1) < 30)) = true := by rfl)
    (hline : (apos.endLine == cpos.line) = true := by rfl) (hst : starEach [e] X.env = (false, eval e X.env) :: starEach [] X.env := by rfl) (hplain : (backTo cpos (starEach [] X.env)).any (·.1) = false := by rfl) :
    PDS X p (.Expr (.Call (.Attribute (.Name x px) "append" apos) [e] [] cpos) pos) (dApp i d) := by
  obtain ⟨t, h1, h2⟩ := (pda_cons he pda_nil hst).run
  refine ⟨_, ps_expr (pe_bm PySem.F.plainAttrs_list PySem.F.slot_list_append PySem.F.type_list_append mt_append (pe_var hN hv hd hcd) h1 hbase hfew hline hst hplain) hs, fun g0 F σ H τ E E' rel h ag => ?_⟩
  unfold dApp at h
  split at h
  · rename_i l ht
    obtain ⟨a, vs, s1, s2, s3, s4, s5⟩ := rel.ow i l ht
    refine ⟨.ref a, s1, .inl ⟨rfl, vs, .inl (.inl s2)⟩, ?_⟩
    refine h2 g0 F σ H τ _ (fun xs => match xs with | [x] => l.length ≤ 1000000 ∧ E'.nx (τ.set i (some (.own (l ++ [x])))) | _ => False) rel h fun xs ws H1 e1 i1 l1 h1 => ?_
    cases i1 with
    | nil => exact h1.elim
    | cons i1 i2 =>
      cases i2 with
      | cons _ _ => exact h1.elim
      | nil =>
        have s2' := e1.kp a (.lst vs) (rel.al a s3).1 (fun _ z => nomatch z) s2
        have len := s5.len
        refine ⟨a, vs, _, rfl, rfl, s2', by have : sizeLine = 16777216 := sizeLine_eq; omega, ?_⟩
        exact ag.nx F σ _ _ ((rel.st e1).puts ht s1 ((s5.mono e1.kp).app (.cons i1 .nil))).1 h1.2
  · exact h.elim
def dExt (i : Nat) (d : DA) : DS := fun E τ => match τ[i]? with
  | some (some (.own l)) => d τ fun m => l.length + m.length ≤ 1000000 ∧ E.nx (τ.set i (some (.own (l ++ m))))
  | _ => False
def dFree (i : Nat) (d : DS) : DS := fun E τ => match τ[i]? with
  | some (some (.own l)) => d E (τ.set i (some (.lst l)))
  | _ => d E τ
theorem pds_free {st : Stmt} {d : DS} (i : Nat) (h : PDS X p st d) : PDS X p st (dFree i d) := by
  obtain ⟨t, h1, h2⟩ := h.run
  refine ⟨t, h1, fun g F σ H τ E E' rel hh ag => ?_⟩
  unfold dFree at hh
  split at hh
  · rename_i l ht
    obtain ⟨a, vs, s1, _⟩ := rel.ow i l ht
    exact h2 g _ σ H _ E E' (rel.frees ht s1) hh ag
  · exact h2 g F σ H τ E E' rel hh ag
def gPutO (i : Nat) (d : DE) : DG := fun x τ R => match τ[i]? with
  | some (some (.own l)) => d τ fun k => match k with
    | .int k => (0 ≤ k ∧ k.toNat < l.length) ∧ R (τ.set i (some (.own (l.set k.toNat x))))
    | _ => False
  | _ => False
theorem IsL.set {K : PySem.W.Frag} {F : List Addr} {H : Hp} {v : V} {d : D} (hv : Is K p F H v d) : ∀ {vs : List V} {l : List D} (j : Nat), IsL K p F H vs l → IsL K p F H (vs.set j v) (l.set j d)
  | _, _, _, .nil => .nil
  | _, _, 0, .cons _ t => .cons hv t
  | _, _, j + 1, .cons h t => .cons h (IsL.set hv j t)
def dIxO (i : Nat) (d : DE) : DE := fun τ R => match τ[i]? with
  | some (some (.own l)) => d τ fun k => match k with
    | .int k => match atD l k with
      | some x => R x
      | none => False
    | _ => False
  | _ => False
def dLend (i : Nat) (d : DE) : DE := fun τ R => match τ[i]? with
  | some (some (.own l)) => d (τ.set i (some (.lst l))) fun x => noL x = true ∧ R x
  | _ => d τ R
def dLendT (i : Nat) (d : DT) : DT := fun τ R => match τ[i]? with
  | some (some (.own l)) => d (τ.set i (some (.lst l))) R
  | _ => d τ R
end
end DL
namespace DL
open PySem PySem.Spec L2
open PyProof.Rows hiding St
open PySem.W (HoldAll Holds maxOf minOf max_tuple_datum min_tuple_datum DatumOrd)
section
variable {X : Cx} {p : Qt}
theorem vals_hold {ns : List Int} : ∀ {us : List Value} (h : Heap), Vals (ns.map V.int) us → HoldAll h us ns := by
  induction ns with
  | nil =>
    intro us h r
    cases r
    exact ⟨[], .nil⟩
  | cons n ns ih =>
    intro us h r
    cases r with
    | cons r1 r2 =>
      obtain ⟨t, rfl⟩ := r1
      obtain ⟨as, q⟩ := ih h r2
      exact ⟨[] ++ as, .cons (.int n t) q⟩
theorem minOf_eq (n : Int) (ns : List Int) : minOf n ns = minL n ns := by
  unfold minOf
  induction ns generalizing n with
  | nil => rfl
  | cons m ns ih =>
    show List.foldl _ (if DatumOrd.lt m n = true then m else n) ns = minL (min n m) ns
    have e : (if DatumOrd.lt m n = true then m else n) = min n m := by
      show (if decide (m < n) = true then m else n) = min n m
      by_cases c : m < n
      · rw [if_pos (decide_eq_true c), Int.min_eq_right (by omega)]
      · rw [if_neg (by simpa using c), Int.min_eq_left (by omega)]
    rw [e]
    exact ih _
theorem cr_minT (hc : X.calm = true) (hu : X.A.units + 65 < cLine) : CallR X (.builtin "min") (fun xs H Q => ∃ (a : Addr) (n : Int) (ns : List Int), xs = [V.ref a] ∧ SqT X.K H a ((n :: ns).map V.int) ∧ Q (.int (minL n ns)) H) := by
  intro pins s σ H vs us Q I r h
  obtain ⟨a, n, ns, rfl, hs, q⟩ := h
  obtain ⟨its, rv, hl, _⟩ := I.tuple hs
  rw [Vals.ref1 r]
  refine min_tuple_datum (α := Int) (I.ok.hd hc) hl (vals_hold s.heap rv) (by show X.A.units + 1 + 0 < cLine; omega) fun i v h' tk _ hv hk => ?_
  obtain ⟨as, hv⟩ := hv
  cases hv
  exact ⟨.int _, H, I.kept hk, ⟨_, rfl⟩, by rw [minOf_eq]; exact q⟩
def cMaxT : List D → (D → Prop) → Prop := fun xs R => match xs with
  | [.int i, .int j] => R (.int (max i j))
  | [.lst l] => match intsOf l with
    | some (n :: ns) => R (.int (maxL n ns))
    | _ => False
  | [.tup l] => match intsOf l with
    | some (n :: ns) => R (.int (maxL n ns))
    | _ => False
  | _ => False
def cMinT : List D → (D → Prop) → Prop := fun xs R => match xs with
  | [.int i, .int j] => R (.int (min i j))
  | [.lst l] => match intsOf l with
    | some (n :: ns) => R (.int (minL n ns))
    | _ => False
  | [.tup l] => match intsOf l with
    | some (n :: ns) => R (.int (minL n ns))
    | _ => False
  | _ => False
theorem cd_minT (hc : X.calm = true) (hu : X.A.units + 65 < cLine) : CallD X p (.builtin "min") cMinT := by
  obtain ⟨r, h1, h2⟩ := cd_min (X := X) (p := p) hc
  refine ⟨_, h1.or (cr_minT hc hu), fun F H xs vs Q R pk ix hh q => ?_⟩
  unfold cMinT at hh
  split at hh
  · exact .inl (h2 F H _ vs Q R pk ix hh q)
  · exact .inl (h2 F H _ vs Q R pk ix hh q)
  · split at hh
    · rename_i l n ns e
      cases ix with
      | cons i1 i2 =>
        cases i2
        cases i1 with
        | tup hs hn hl =>
          rw [intsOf_eq e] at hl
          rw [hl.ints] at hs
          exact .inr ⟨_, n, ns, rfl, hs, q _ _ H (.refl pk.pk) (.int _) hh⟩
    · exact hh.elim
  · exact hh.elim
abbrev gModN := gIIc (fun _ j => j ≠ 0) fun i j => .int (i.fmod j)
theorem opd_modN : OpD X p (binaryOp .Mod) gModN := opd_I op_modN (fun _ _ h => h) fun _ _ _ _ _ => .int _
def dAug (i : Nat) (f : Int → Int → Int) (d : DE) : DS := fun E τ => match τ[i]? with
  | some (some (.int a)) => d τ fun y => match y with
    | .int b => E.nx (τ.set i (some (.int (f a b))))
    | _ => False
  | _ => False
theorem pds_aug {i : Nat} {x : Str} {e : Expr} {d : DE} {op : Operator} {f : Int → Int → Int} {pos pos' : Pos} (hN : X.N.Nodup) (hi : X.N[i]? = some x) (hx : Loc X.env.scope x) (ho : PIp X op (ipI f)) (he : PD X p e d) (hf : X.fn x = true ∨ X.env.scope.names.lookup x = some .local := by first | exact .inl rfl | exact .inr rfl | assumption) :
    PDS X p (.AugAssign (.Name x pos') op e pos) (dAug i f d) := by
  obtain ⟨t, h1, h2⟩ := he.run
  refine ⟨_, ps_aug hN hi hx h1 ho hf, fun g F σ H τ E E' rel h ag => ?_⟩
  unfold dAug at h
  split at h
  · rename_i a ht
    obtain ⟨v, s1, s2⟩ := rel.sl i _ ht rfl
    cases s2
    refine ⟨_, s1, h2 g F σ H τ _ _ rel h fun y w H1 e1 i1 h1 => ?_⟩
    cases i1 with
    | int b => exact ⟨_, _, rfl, rfl, ag.nx F _ H1 _ ((rel.st e1).set (.int _)) h1⟩
    | _ => exact (show False from h1).elim
  · exact h.elim
end
end DL
namespace DL
open PySem PySem.Spec L2
open PyProof.Rows hiding St
section
variable {prog : Program} {w : World} {A : Around} {E : Value → Shared → Prop} {s : Shared} {f g : Addr} {of og : Obj}
end
def gEqF (L : List Str) : D → D → (D → Prop) → Prop := fun x y R => match x, y with
  | .fn x, .fn y => (x ∈ L ∧ y ∈ L) ∧ R (.bl (decide (x = y)))
  | x, y => gEq x y R
section
variable {X : Cx} {p : Qt}
inductive CalT (P : Program) (w : World) (K : PySem.W.Frag) (mg : Str → Option Value) (base : Heap) (tf : Tf) (k n : Nat) : List (Str × SpD) → Prop
  | nil : CalT P w K mg base tf k n []
  | cons {x : Str} {j : Nat} {ps : List Str} {kb : List (List Str × Nat × List Nat)} {sp : SpD} {l : List (Str × SpD)} (C : Cal P w K mg base tf x j n ps kb sp) (hj : j ≤ k) (r : CalT P w K mg base tf k n l) : CalT P w K mg base tf k n ((x, sp) :: l)
def spOf (S : List (Str × SpD)) (x : Str) : SpD := fun ds R => match S with
  | [] => False
  | (y, sp) :: l => if x = y then sp ds R else spOf l x ds R
def dCallV (i : Nat) (S : List (Str × SpD)) (t : DA) : DE := fun τ R => match τ[i]? with
  | some (some (.fn x)) => x ∈ S.map (·.1) ∧ t τ fun xs => spOf S x xs R
  | _ => False
theorem CalT.run {S : List (Str × SpD)} {k n : Nat} (C : CalT X.prog X.w X.K X.mg X.base p.tf k n S) (hf : p.tf.fns = X.mg) (hgu : X.A.guards = some []) (hr : Room k X.A) {x : Str} {f : Addr} (ht : p.tf.fns x = some (.ref f)) {pins : List (Addr × Obj)} {σ : L2.St} {H : Hp} {s : Shared} {Q : VK} {us : List Value} {vs : List V}
    (I : Inv X pins σ H s) (r : Vals vs us) (h : toSp X.K p.tf n (spOf S x) vs H Q fun _ _ _ => False) : PySem.W.keepIn X.K (.ref f) = true ∧ wpAny (model X.prog X.w) X.A (call (.ref f) us []) (EP X pins σ Q) X.xe s := by
  induction C with
  | nil =>
    obtain ⟨_, _, _, _, _, _, _, z, _⟩ := h
    exact z.elim
  | @cons y j ps kb sp l C hj _ ih =>
    by_cases e : x = y
    · subst e
      obtain ⟨g, fd, F, hm, hk, hb, _⟩ := C.ex
      rw [hf, hm] at ht
      cases ht
      have h' : toSp X.K p.tf n sp vs H Q fun _ _ _ => False := by
        obtain ⟨hl, pot, Fb, ds, R, pk, is, z, q⟩ := h
        refine ⟨hl, pot, Fb, ds, R, pk, is, ?_, q⟩
        unfold spOf at z
        rw [if_pos rfl] at z
        exact z
      refine ⟨hk, ?_⟩
      have hl : (us ++ []).length = ps.length := by rw [List.append_nil, ← r.length]; exact F.len _ _ _ _ h'
      have b := hb s us I.kIn hl
      rw [List.append_nil] at b
      exact goG (args := ⟨us, []⟩) (F.weak hj) hgu hr pass0 I b r h'
    · refine ih ?_
      obtain ⟨hl, pot, Fb, ds, R, pk, is, z, q⟩ := h
      refine ⟨hl, pot, Fb, ds, R, pk, is, ?_, q⟩
      unfold spOf at z
      rw [if_neg e] at z
      exact z
def rngC (lo c : Int) (n : Nat) : List D := (List.range n).map fun (k : Nat) => D.int (lo + (k : Int) * c)
def dRgN (d : DA) : DI := fun τ R => d τ fun xs => match xs with
  | [.int i, .int j, .int (-1)] => (-(2 ^ 62) ≤ i ∧ i < 2 ^ 62 ∧ -(2 ^ 62) ≤ j ∧ j < 2 ^ 62) ∧ R (rngC i (-1) (i - j).toNat)
  | _ => False
end
end DL
namespace DL
open PySem PySem.Spec L2
open PyProof.Rows hiding St
structure Big (a : Nat) (i : Int) : Prop where
  lt : i.natAbs < 2 ^ a
section
variable {a b : Nat} {i j : Int}
theorem Big.mono (h : Big a i) (l : a ≤ b) : Big b i := ⟨Nat.lt_of_lt_of_le h.lt (Nat.pow_le_pow_right (by decide) l)⟩
theorem Big.neg (h : Big a i) : Big a (-i) := ⟨by rw [Int.natAbs_neg]; exact h.lt⟩
theorem Big.abs (h : Big a i) : Big a (i.natAbs : Int) := ⟨by rw [Int.natAbs_natCast]; exact h.lt⟩
theorem Big.mul (h : Big a i) (k : Big b j) : Big (a + b) (i * j) := ⟨by
  rw [Int.natAbs_mul, Nat.pow_add]
  exact Nat.mul_lt_mul'' h.lt k.lt⟩
theorem Big.add (h : Big a i) (k : Big b j) : Big (max a b + 1) (i + j) := ⟨by
  have h1 := (h.mono (Nat.le_max_left a b)).lt
  have h2 := (k.mono (Nat.le_max_right a b)).lt
  have h3 := Int.natAbs_add_le i j
  rw [Nat.pow_succ]
  omega⟩
theorem Big.sub (h : Big a i) (k : Big b j) : Big (max a b + 1) (i - j) := by
  rw [Int.sub_eq_add_neg]
  exact h.add k.neg
theorem Big.div (h : Big a i) : Big a (i / j) := ⟨Nat.lt_of_le_of_lt (Int.natAbs_ediv_le_natAbs i j) h.lt⟩
theorem Big.one : Big 1 1 := ⟨by decide⟩
theorem Big.zero : Big a 0 := ⟨Nat.two_pow_pos a⟩
theorem Big.of (h : i.natAbs < 2 ^ a) : Big a i := ⟨h⟩
theorem MulC.big (h : Big a i) (k : Big b j) (l : a + b ≤ 900000) : MulC i j := by
  refine ⟨CMulW.ok (wide_mul (h.mono (Nat.le_succ a)).lt (k.mono (Nat.le_succ b)).lt (by omega) (by omega) (by omega))⟩
theorem BD.big (h0 : 0 < j) (h : Big a j) (l : a ≤ 8980) : BD j := ⟨h0, Nat.lt_of_lt_of_le (PySem.Flt.log2_lt_of (by omega) (h.mono (Nat.le_succ a)).lt) (by omega)⟩
end
def rd (x : Rat) : D := .tup [.int x.num, .int (x.den : Int)]
structure Sz (a : Nat) (x : Rat) : Prop where
  n : Big a x.num
  d : Big a (x.den : Int)
theorem den_pos (x : Rat) : 0 < (x.den : Int) := by have := x.den_pos; omega
theorem val_eq (x : Rat) : x = (x.num : Rat) / ((x.den : Int) : Rat) := by
  rw [← Rat.divInt_eq_div]
  exact (Rat.num_divInt_den x).symm
theorem frac_num {n u : Int} (h : 0 < u) : ((n : Rat) / (u : Rat)).num = n / (Nat.gcd n.natAbs u.natAbs : Int) := by
  rw [← Rat.divInt_eq_div, Rat.num_divInt, Int.sign_eq_one_of_pos h, Int.one_mul, Int.gcd_comm]
  rfl
theorem frac_den {n u : Int} (h : 0 < u) : (((n : Rat) / (u : Rat)).den : Int) = u / (Nat.gcd n.natAbs u.natAbs : Int) := by
  rw [← Rat.divInt_eq_div, Rat.den_divInt, if_neg (by omega), Int.gcd_comm]
  show ((u.natAbs / Nat.gcd n.natAbs u.natAbs : Nat) : Int) = _
  rw [Int.natCast_ediv]
  congr 1
  omega
section
variable {a b : Nat} {x y : Rat}
theorem Sz.mono (h : Sz a x) (l : a ≤ b) : Sz b x := ⟨h.n.mono l, h.d.mono l⟩
theorem Sz.of_frac {n u : Int} (h : 0 < u) (hn : Big a n) (hu : Big a u) : Sz a ((n : Rat) / (u : Rat)) := ⟨by rw [frac_num h]; exact hn.div, by rw [frac_den h]; exact hu.div⟩
theorem add_frac (x y : Rat) : x + y = ((x.num * y.den + y.num * x.den : Int) : Rat) / ((x.den * y.den : Int) : Rat) := by
  have h1 : ((x.den : Int) : Rat) ≠ 0 := by have := den_pos x; exact_mod_cast (show (x.den : Int) ≠ 0 by omega)
  have h2 : ((y.den : Int) : Rat) ≠ 0 := by have := den_pos y; exact_mod_cast (show (y.den : Int) ≠ 0 by omega)
  have e1 := val_eq x
  have e2 := val_eq y
  rw [Rat.intCast_add, Rat.intCast_mul, Rat.intCast_mul, Rat.intCast_mul]
  grind
theorem mul_frac (x y : Rat) : x * y = ((x.num * y.num : Int) : Rat) / ((x.den * y.den : Int) : Rat) := by
  have h1 : ((x.den : Int) : Rat) ≠ 0 := by have := den_pos x; exact_mod_cast (show (x.den : Int) ≠ 0 by omega)
  have h2 : ((y.den : Int) : Rat) ≠ 0 := by have := den_pos y; exact_mod_cast (show (y.den : Int) ≠ 0 by omega)
  have e1 := val_eq x
  have e2 := val_eq y
  rw [Rat.intCast_mul, Rat.intCast_mul]
  grind
theorem Sz.add (h : Sz a x) (k : Sz b y) : Sz (a + b + 1) (x + y) := by
  rw [add_frac]
  refine Sz.of_frac (Int.mul_pos (den_pos x) (den_pos y)) ?_ ((h.d.mul k.d).mono (by omega))
  exact ((h.n.mul k.d).add (k.n.mul h.d)).mono (by omega)
theorem Sz.neg (h : Sz a x) : Sz a (-x) := ⟨by rw [Rat.neg_num]; exact h.n.neg, by rw [Rat.neg_den]; exact h.d⟩
theorem Sz.sub (h : Sz a x) (k : Sz b y) : Sz (a + b + 1) (x - y) := by
  rw [Rat.sub_eq_add_neg]
  exact h.add k.neg
theorem Sz.mul (h : Sz a x) (k : Sz b y) : Sz (a + b) (x * y) := by
  rw [mul_frac]
  exact Sz.of_frac (Int.mul_pos (den_pos x) (den_pos y)) (h.n.mul k.n) (h.d.mul k.d)
theorem Sz.zero : Sz 1 0 := ⟨Big.zero, Big.one⟩
theorem Sz.one : Sz 1 1 := ⟨Big.one, Big.one⟩
end
def vl (q : Int × Int) : Rat := (q.1 : Rat) / (q.2 : Rat)
section
variable {p q : Int × Int}
end
end DL
namespace DL
open PySem PySem.Spec L2
section
variable {X : Cx} {p : Qt}
def enumD (l : List D) : List D := zipD (rng 0 l.length) l
def dEnum (d : DA) : DI := fun τ R => d τ fun xs => match xs with
  | [.tup l] => R (enumD l)
  | _ => False
section
open PyProof.Rows hiding St
end
def gMulT : D → D → (D → Prop) → Prop := fun x y R => match x, y with
  | .tup l, .int k => (1 ≤ l.length ∧ 1 ≤ k ∧ k ≤ 1000 ∧ l.length ≤ 1000) ∧ R (.tup (List.replicate k.toNat l).flatten)
  | .int i, .int j => MulC i j ∧ R (.int (i * j))
  | _, _ => False
structure CN (j : Int) : Prop where
  ne : j ≠ 0
  few : j.natAbs < 1073741824
abbrev gDivN := gIIc (fun _ j => CN j) fun i j => .int (i.fdiv j)
end
section
variable {X : Cx} {p : Qt} {pos : Pos} {s0 : Shared} {H0 : Hp} {sc0 : Scope} {cl0 : List (Str × Addr)} {C0 : Addr} {fp0 : List Addr}
end
theorem gEq_nn {R : D → Prop} : gEq D.non D.non R = ((shp 60 D.non = true ∧ shp 60 D.non = true) ∧ R (.bl (PyData.eqv (toP D.non) (toP D.non)))) := rfl
theorem gEq_nb {b : Bool} {R : D → Prop} : gEq D.non (.bl b) R = ((shp 60 D.non = true ∧ shp 60 (.bl b) = true) ∧ R (.bl (PyData.eqv (toP D.non) (toP (.bl b))))) := rfl
theorem gEq_ni {b : Int} {R : D → Prop} : gEq D.non (.int b) R = ((shp 60 D.non = true ∧ shp 60 (.int b) = true) ∧ R (.bl (PyData.eqv (toP D.non) (toP (.int b))))) := rfl
theorem gEq_ns {b : Str} {R : D → Prop} : gEq D.non (.str b) R = ((shp 60 D.non = true ∧ shp 60 (.str b) = true) ∧ R (.bl (PyData.eqv (toP D.non) (toP (.str b))))) := rfl
theorem gEq_nt {b : List D} {R : D → Prop} : gEq D.non (.tup b) R = ((shp 60 D.non = true ∧ shp 60 (.tup b) = true) ∧ R (.bl (PyData.eqv (toP D.non) (toP (.tup b))))) := rfl
theorem gEq_nl {b : List D} {R : D → Prop} : gEq D.non (.lst b) R = ((shp 60 D.non = true ∧ shp 60 (.lst b) = true) ∧ R (.bl (PyData.eqv (toP D.non) (toP (.lst b))))) := rfl
theorem gEq_bn {a : Bool} {R : D → Prop} : gEq (.bl a) D.non R = ((shp 60 (.bl a) = true ∧ shp 60 D.non = true) ∧ R (.bl (PyData.eqv (toP (.bl a)) (toP D.non)))) := rfl
theorem gEq_bb {a : Bool} {b : Bool} {R : D → Prop} : gEq (.bl a) (.bl b) R = R (.bl (decide (a = b))) := rfl
theorem gEq_bi {a : Bool} {b : Int} {R : D → Prop} : gEq (.bl a) (.int b) R = ((shp 60 (.bl a) = true ∧ shp 60 (.int b) = true) ∧ R (.bl (PyData.eqv (toP (.bl a)) (toP (.int b))))) := rfl
theorem gEq_bs {a : Bool} {b : Str} {R : D → Prop} : gEq (.bl a) (.str b) R = ((shp 60 (.bl a) = true ∧ shp 60 (.str b) = true) ∧ R (.bl (PyData.eqv (toP (.bl a)) (toP (.str b))))) := rfl
theorem gEq_bt {a : Bool} {b : List D} {R : D → Prop} : gEq (.bl a) (.tup b) R = ((shp 60 (.bl a) = true ∧ shp 60 (.tup b) = true) ∧ R (.bl (PyData.eqv (toP (.bl a)) (toP (.tup b))))) := rfl
theorem gEq_bl {a : Bool} {b : List D} {R : D → Prop} : gEq (.bl a) (.lst b) R = ((shp 60 (.bl a) = true ∧ shp 60 (.lst b) = true) ∧ R (.bl (PyData.eqv (toP (.bl a)) (toP (.lst b))))) := rfl
theorem gEq_in {a : Int} {R : D → Prop} : gEq (.int a) D.non R = ((shp 60 (.int a) = true ∧ shp 60 D.non = true) ∧ R (.bl (PyData.eqv (toP (.int a)) (toP D.non)))) := rfl
theorem gEq_ib {a : Int} {b : Bool} {R : D → Prop} : gEq (.int a) (.bl b) R = ((shp 60 (.int a) = true ∧ shp 60 (.bl b) = true) ∧ R (.bl (PyData.eqv (toP (.int a)) (toP (.bl b))))) := rfl
theorem gEq_ii {a : Int} {b : Int} {R : D → Prop} : gEq (.int a) (.int b) R = R (.bl (decide (a = b))) := rfl
theorem gEq_is {a : Int} {b : Str} {R : D → Prop} : gEq (.int a) (.str b) R = ((shp 60 (.int a) = true ∧ shp 60 (.str b) = true) ∧ R (.bl (PyData.eqv (toP (.int a)) (toP (.str b))))) := rfl
theorem gEq_it {a : Int} {b : List D} {R : D → Prop} : gEq (.int a) (.tup b) R = ((shp 60 (.int a) = true ∧ shp 60 (.tup b) = true) ∧ R (.bl (PyData.eqv (toP (.int a)) (toP (.tup b))))) := rfl
theorem gEq_il {a : Int} {b : List D} {R : D → Prop} : gEq (.int a) (.lst b) R = ((shp 60 (.int a) = true ∧ shp 60 (.lst b) = true) ∧ R (.bl (PyData.eqv (toP (.int a)) (toP (.lst b))))) := rfl
theorem gEq_sn {a : Str} {R : D → Prop} : gEq (.str a) D.non R = ((shp 60 (.str a) = true ∧ shp 60 D.non = true) ∧ R (.bl (PyData.eqv (toP (.str a)) (toP D.non)))) := rfl
theorem gEq_sb {a : Str} {b : Bool} {R : D → Prop} : gEq (.str a) (.bl b) R = ((shp 60 (.str a) = true ∧ shp 60 (.bl b) = true) ∧ R (.bl (PyData.eqv (toP (.str a)) (toP (.bl b))))) := rfl
theorem gEq_si {a : Str} {b : Int} {R : D → Prop} : gEq (.str a) (.int b) R = ((shp 60 (.str a) = true ∧ shp 60 (.int b) = true) ∧ R (.bl (PyData.eqv (toP (.str a)) (toP (.int b))))) := rfl
theorem gEq_ss {a : Str} {b : Str} {R : D → Prop} : gEq (.str a) (.str b) R = R (.bl (decide (a = b))) := rfl
theorem gEq_st {a : Str} {b : List D} {R : D → Prop} : gEq (.str a) (.tup b) R = ((shp 60 (.str a) = true ∧ shp 60 (.tup b) = true) ∧ R (.bl (PyData.eqv (toP (.str a)) (toP (.tup b))))) := rfl
theorem gEq_sl {a : Str} {b : List D} {R : D → Prop} : gEq (.str a) (.lst b) R = ((shp 60 (.str a) = true ∧ shp 60 (.lst b) = true) ∧ R (.bl (PyData.eqv (toP (.str a)) (toP (.lst b))))) := rfl
theorem gEq_tn {a : List D} {R : D → Prop} : gEq (.tup a) D.non R = ((shp 60 (.tup a) = true ∧ shp 60 D.non = true) ∧ R (.bl (PyData.eqv (toP (.tup a)) (toP D.non)))) := rfl
theorem gEq_tb {a : List D} {b : Bool} {R : D → Prop} : gEq (.tup a) (.bl b) R = ((shp 60 (.tup a) = true ∧ shp 60 (.bl b) = true) ∧ R (.bl (PyData.eqv (toP (.tup a)) (toP (.bl b))))) := rfl
theorem gEq_ti {a : List D} {b : Int} {R : D → Prop} : gEq (.tup a) (.int b) R = ((shp 60 (.tup a) = true ∧ shp 60 (.int b) = true) ∧ R (.bl (PyData.eqv (toP (.tup a)) (toP (.int b))))) := rfl
theorem gEq_ts {a : List D} {b : Str} {R : D → Prop} : gEq (.tup a) (.str b) R = ((shp 60 (.tup a) = true ∧ shp 60 (.str b) = true) ∧ R (.bl (PyData.eqv (toP (.tup a)) (toP (.str b))))) := rfl
theorem gEq_tt {a : List D} {b : List D} {R : D → Prop} : gEq (.tup a) (.tup b) R = ((shp 60 (.tup a) = true ∧ shp 60 (.tup b) = true) ∧ R (.bl (PyData.eqv (toP (.tup a)) (toP (.tup b))))) := rfl
theorem gEq_tl {a : List D} {b : List D} {R : D → Prop} : gEq (.tup a) (.lst b) R = ((shp 60 (.tup a) = true ∧ shp 60 (.lst b) = true) ∧ R (.bl (PyData.eqv (toP (.tup a)) (toP (.lst b))))) := rfl
theorem gEq_ln {a : List D} {R : D → Prop} : gEq (.lst a) D.non R = ((shp 60 (.lst a) = true ∧ shp 60 D.non = true) ∧ R (.bl (PyData.eqv (toP (.lst a)) (toP D.non)))) := rfl
theorem gEq_lb {a : List D} {b : Bool} {R : D → Prop} : gEq (.lst a) (.bl b) R = ((shp 60 (.lst a) = true ∧ shp 60 (.bl b) = true) ∧ R (.bl (PyData.eqv (toP (.lst a)) (toP (.bl b))))) := rfl
theorem gEq_li {a : List D} {b : Int} {R : D → Prop} : gEq (.lst a) (.int b) R = ((shp 60 (.lst a) = true ∧ shp 60 (.int b) = true) ∧ R (.bl (PyData.eqv (toP (.lst a)) (toP (.int b))))) := rfl
theorem gEq_ls {a : List D} {b : Str} {R : D → Prop} : gEq (.lst a) (.str b) R = ((shp 60 (.lst a) = true ∧ shp 60 (.str b) = true) ∧ R (.bl (PyData.eqv (toP (.lst a)) (toP (.str b))))) := rfl
theorem gEq_lt {a : List D} {b : List D} {R : D → Prop} : gEq (.lst a) (.tup b) R = ((shp 60 (.lst a) = true ∧ shp 60 (.tup b) = true) ∧ R (.bl (PyData.eqv (toP (.lst a)) (toP (.tup b))))) := rfl
theorem gEq_ll {a : List D} {b : List D} {R : D → Prop} : gEq (.lst a) (.lst b) R = ((shp 60 (.lst a) = true ∧ shp 60 (.lst b) = true) ∧ R (.bl (PyData.eqv (toP (.lst a)) (toP (.lst b))))) := rfl
theorem gNe_nn {R : D → Prop} : gNe D.non D.non R = ((shp 60 D.non = true ∧ shp 60 D.non = true) ∧ R (.bl (!PyData.eqv (toP D.non) (toP D.non)))) := rfl
theorem gNe_nb {b : Bool} {R : D → Prop} : gNe D.non (.bl b) R = ((shp 60 D.non = true ∧ shp 60 (.bl b) = true) ∧ R (.bl (!PyData.eqv (toP D.non) (toP (.bl b))))) := rfl
theorem gNe_ni {b : Int} {R : D → Prop} : gNe D.non (.int b) R = ((shp 60 D.non = true ∧ shp 60 (.int b) = true) ∧ R (.bl (!PyData.eqv (toP D.non) (toP (.int b))))) := rfl
theorem gNe_ns {b : Str} {R : D → Prop} : gNe D.non (.str b) R = ((shp 60 D.non = true ∧ shp 60 (.str b) = true) ∧ R (.bl (!PyData.eqv (toP D.non) (toP (.str b))))) := rfl
theorem gNe_nt {b : List D} {R : D → Prop} : gNe D.non (.tup b) R = ((shp 60 D.non = true ∧ shp 60 (.tup b) = true) ∧ R (.bl (!PyData.eqv (toP D.non) (toP (.tup b))))) := rfl
theorem gNe_nl {b : List D} {R : D → Prop} : gNe D.non (.lst b) R = ((shp 60 D.non = true ∧ shp 60 (.lst b) = true) ∧ R (.bl (!PyData.eqv (toP D.non) (toP (.lst b))))) := rfl
theorem gNe_bn {a : Bool} {R : D → Prop} : gNe (.bl a) D.non R = ((shp 60 (.bl a) = true ∧ shp 60 D.non = true) ∧ R (.bl (!PyData.eqv (toP (.bl a)) (toP D.non)))) := rfl
theorem gNe_bb {a : Bool} {b : Bool} {R : D → Prop} : gNe (.bl a) (.bl b) R = R (.bl (!decide (a = b))) := rfl
theorem gNe_bi {a : Bool} {b : Int} {R : D → Prop} : gNe (.bl a) (.int b) R = ((shp 60 (.bl a) = true ∧ shp 60 (.int b) = true) ∧ R (.bl (!PyData.eqv (toP (.bl a)) (toP (.int b))))) := rfl
theorem gNe_bs {a : Bool} {b : Str} {R : D → Prop} : gNe (.bl a) (.str b) R = ((shp 60 (.bl a) = true ∧ shp 60 (.str b) = true) ∧ R (.bl (!PyData.eqv (toP (.bl a)) (toP (.str b))))) := rfl
theorem gNe_bt {a : Bool} {b : List D} {R : D → Prop} : gNe (.bl a) (.tup b) R = ((shp 60 (.bl a) = true ∧ shp 60 (.tup b) = true) ∧ R (.bl (!PyData.eqv (toP (.bl a)) (toP (.tup b))))) := rfl
theorem gNe_bl {a : Bool} {b : List D} {R : D → Prop} : gNe (.bl a) (.lst b) R = ((shp 60 (.bl a) = true ∧ shp 60 (.lst b) = true) ∧ R (.bl (!PyData.eqv (toP (.bl a)) (toP (.lst b))))) := rfl
theorem gNe_in {a : Int} {R : D → Prop} : gNe (.int a) D.non R = ((shp 60 (.int a) = true ∧ shp 60 D.non = true) ∧ R (.bl (!PyData.eqv (toP (.int a)) (toP D.non)))) := rfl
theorem gNe_ib {a : Int} {b : Bool} {R : D → Prop} : gNe (.int a) (.bl b) R = ((shp 60 (.int a) = true ∧ shp 60 (.bl b) = true) ∧ R (.bl (!PyData.eqv (toP (.int a)) (toP (.bl b))))) := rfl
theorem gNe_ii {a : Int} {b : Int} {R : D → Prop} : gNe (.int a) (.int b) R = R (.bl (!decide (a = b))) := rfl
theorem gNe_is {a : Int} {b : Str} {R : D → Prop} : gNe (.int a) (.str b) R = ((shp 60 (.int a) = true ∧ shp 60 (.str b) = true) ∧ R (.bl (!PyData.eqv (toP (.int a)) (toP (.str b))))) := rfl
theorem gNe_it {a : Int} {b : List D} {R : D → Prop} : gNe (.int a) (.tup b) R = ((shp 60 (.int a) = true ∧ shp 60 (.tup b) = true) ∧ R (.bl (!PyData.eqv (toP (.int a)) (toP (.tup b))))) := rfl
theorem gNe_il {a : Int} {b : List D} {R : D → Prop} : gNe (.int a) (.lst b) R = ((shp 60 (.int a) = true ∧ shp 60 (.lst b) = true) ∧ R (.bl (!PyData.eqv (toP (.int a)) (toP (.lst b))))) := rfl
theorem gNe_sn {a : Str} {R : D → Prop} : gNe (.str a) D.non R = ((shp 60 (.str a) = true ∧ shp 60 D.non = true) ∧ R (.bl (!PyData.eqv (toP (.str a)) (toP D.non)))) := rfl
theorem gNe_sb {a : Str} {b : Bool} {R : D → Prop} : gNe (.str a) (.bl b) R = ((shp 60 (.str a) = true ∧ shp 60 (.bl b) = true) ∧ R (.bl (!PyData.eqv (toP (.str a)) (toP (.bl b))))) := rfl
theorem gNe_si {a : Str} {b : Int} {R : D → Prop} : gNe (.str a) (.int b) R = ((shp 60 (.str a) = true ∧ shp 60 (.int b) = true) ∧ R (.bl (!PyData.eqv (toP (.str a)) (toP (.int b))))) := rfl
theorem gNe_ss {a : Str} {b : Str} {R : D → Prop} : gNe (.str a) (.str b) R = R (.bl (!decide (a = b))) := rfl
theorem gNe_st {a : Str} {b : List D} {R : D → Prop} : gNe (.str a) (.tup b) R = ((shp 60 (.str a) = true ∧ shp 60 (.tup b) = true) ∧ R (.bl (!PyData.eqv (toP (.str a)) (toP (.tup b))))) := rfl
theorem gNe_sl {a : Str} {b : List D} {R : D → Prop} : gNe (.str a) (.lst b) R = ((shp 60 (.str a) = true ∧ shp 60 (.lst b) = true) ∧ R (.bl (!PyData.eqv (toP (.str a)) (toP (.lst b))))) := rfl
theorem gNe_tn {a : List D} {R : D → Prop} : gNe (.tup a) D.non R = ((shp 60 (.tup a) = true ∧ shp 60 D.non = true) ∧ R (.bl (!PyData.eqv (toP (.tup a)) (toP D.non)))) := rfl
theorem gNe_tb {a : List D} {b : Bool} {R : D → Prop} : gNe (.tup a) (.bl b) R = ((shp 60 (.tup a) = true ∧ shp 60 (.bl b) = true) ∧ R (.bl (!PyData.eqv (toP (.tup a)) (toP (.bl b))))) := rfl
theorem gNe_ti {a : List D} {b : Int} {R : D → Prop} : gNe (.tup a) (.int b) R = ((shp 60 (.tup a) = true ∧ shp 60 (.int b) = true) ∧ R (.bl (!PyData.eqv (toP (.tup a)) (toP (.int b))))) := rfl
theorem gNe_ts {a : List D} {b : Str} {R : D → Prop} : gNe (.tup a) (.str b) R = ((shp 60 (.tup a) = true ∧ shp 60 (.str b) = true) ∧ R (.bl (!PyData.eqv (toP (.tup a)) (toP (.str b))))) := rfl
theorem gNe_tt {a : List D} {b : List D} {R : D → Prop} : gNe (.tup a) (.tup b) R = ((shp 60 (.tup a) = true ∧ shp 60 (.tup b) = true) ∧ R (.bl (!PyData.eqv (toP (.tup a)) (toP (.tup b))))) := rfl
theorem gNe_tl {a : List D} {b : List D} {R : D → Prop} : gNe (.tup a) (.lst b) R = ((shp 60 (.tup a) = true ∧ shp 60 (.lst b) = true) ∧ R (.bl (!PyData.eqv (toP (.tup a)) (toP (.lst b))))) := rfl
theorem gNe_ln {a : List D} {R : D → Prop} : gNe (.lst a) D.non R = ((shp 60 (.lst a) = true ∧ shp 60 D.non = true) ∧ R (.bl (!PyData.eqv (toP (.lst a)) (toP D.non)))) := rfl
theorem gNe_lb {a : List D} {b : Bool} {R : D → Prop} : gNe (.lst a) (.bl b) R = ((shp 60 (.lst a) = true ∧ shp 60 (.bl b) = true) ∧ R (.bl (!PyData.eqv (toP (.lst a)) (toP (.bl b))))) := rfl
theorem gNe_li {a : List D} {b : Int} {R : D → Prop} : gNe (.lst a) (.int b) R = ((shp 60 (.lst a) = true ∧ shp 60 (.int b) = true) ∧ R (.bl (!PyData.eqv (toP (.lst a)) (toP (.int b))))) := rfl
theorem gNe_ls {a : List D} {b : Str} {R : D → Prop} : gNe (.lst a) (.str b) R = ((shp 60 (.lst a) = true ∧ shp 60 (.str b) = true) ∧ R (.bl (!PyData.eqv (toP (.lst a)) (toP (.str b))))) := rfl
theorem gNe_lt {a : List D} {b : List D} {R : D → Prop} : gNe (.lst a) (.tup b) R = ((shp 60 (.lst a) = true ∧ shp 60 (.tup b) = true) ∧ R (.bl (!PyData.eqv (toP (.lst a)) (toP (.tup b))))) := rfl
theorem gNe_ll {a : List D} {b : List D} {R : D → Prop} : gNe (.lst a) (.lst b) R = ((shp 60 (.lst a) = true ∧ shp 60 (.lst b) = true) ∧ R (.bl (!PyData.eqv (toP (.lst a)) (toP (.lst b))))) := rfl
theorem seqIf {c : DT} {t u w : DS} {E : DEn} {τ : Sl} (b : Bool) (hc : ∀ Q : Bool → Prop, Q b → c τ Q) (h : if b = true then t { E with nx := w E } τ else u { E with nx := w E } τ) : dSeq (dIfS c t u) w E τ :=
  hc _ h
theorem ofNext {u : DS} {E : DEn} {τ : Sl} {rt : D → Prop} {bk ct : Sl → Prop} {ro : List D → Prop} (h : u E τ) : dNext { nx := u E, rt := rt, bk := bk, ct := ct, ro := ro } τ := h
theorem seqAsg {i : Nat} {d : DE} {w : DS} {E : DEn} {τ : Sl} (x : D) (hd : ∀ Q : D → Prop, Q x → d τ Q) (h : w E (τ.set i (some x))) : dSeq (dAsg d (gN i)) w E τ := hd _ h
theorem seqFor {it : DI} {g : DG} {body w : DS} {E : DEn} {τ : Sl} (l : List D) (hd : ∀ Q : List D → Prop, Q l → it τ Q) (h : dForGo g body { E with nx := w E } l τ) : dSeq (dFor it g body) w E τ := hd (fun l => dForGo g body { E with nx := w E } l τ) h
theorem seqAsgP {i : Nat} {d : DE} {w : DS} {E : DEn} {τ : Sl} (I : D → Prop) (hd : ∀ Q : D → Prop, (∀ x, I x → Q x) → d τ Q) (h : ∀ x, I x → w E (τ.set i (some x))) : dSeq (dAsg d (gN i)) w E τ := hd _ h
def dTru (d : DE) : DT := fun τ R => d τ fun x => match x with
  | .tup l => R (!l.isEmpty)
  | .lst l => R (!l.isEmpty)
  | _ => False
theorem seqParP {i j : Nat} {d : DA} {w : DS} {E : DEn} {τ : Sl} (I : D → D → Prop) (hd : ∀ Q : List D → Prop, (∀ x y, I x y → Q [x, y]) → d τ Q) (h : ∀ x y, I x y → w E ((τ.set i (some x)).set j (some y))) : dSeq (dPar i j d) w E τ := by
  unfold dSeq dPar
  exact hd _ h
end DL
namespace DL
open PySem PySem.Spec L2
open PyProof.Rows hiding St
open HT in
open HT in
section
variable {X : Cx} {p : Qt}
end
section
variable {X : Cx} {p : Qt} {pos : Pos}
theorem isl_rev {K : PySem.W.Frag} {F : List Addr} {H : Hp} : ∀ {vs : List V} {l : List D}, IsL K p F H vs l → IsL K p F H vs.reverse l.reverse
  | [], _, h => by cases h; exact .nil
  | v :: vs, _, h => by
    cases h with
    | cons h1 h2 =>
      rw [List.reverse_cons, List.reverse_cons]
      exact (isl_rev h2).app (.cons h1 .nil)
def dRev (d : DE) : DE := fun τ R => d τ fun x => match x with
  | .tup l => R (.tup l.reverse)
  | _ => False
def dFr (d : DA) : DE := fun τ R => d τ fun l => R (.lst l)
def dRepL (d : DA) (dn : DE) : DA := fun τ R => d τ fun l => dn τ fun k => match k with
  | .int k => (0 ≤ k ∧ k ≤ 1000 ∧ l.length ≤ 1000) ∧ R (List.replicate k.toNat l).flatten
  | _ => False
def dCatL (d d' : DA) : DA := fun τ R => d τ fun l => d' τ fun m => l.length + m.length ≤ 1000000 ∧ R (l ++ m)
def cSorted : List D → (D → Prop) → Prop := fun xs R => match xs with
  | [.lst l] => match intsOf l with
    | some ns => ns.length < 64 ∧ ∀ ns' : List Int, ns'.Perm ns → ns'.Pairwise (· ≤ ·) → R (.lst (ns'.map D.int))
    | none => False
  | _ => False
end
abbrev SpO := List D → (List D → Prop) → Prop
def toSpO (K : PySem.W.Frag) (tabs : Tf) (n : Nat) (sp : SpO) : Sp := fun vs H Q _ => vs.length = n ∧ ∃ (pot : Addr) (F : List Addr) (ds : List D) (R : List D → Prop), PkF ⟨pot, tabs⟩ F H ∧ IsL K ⟨pot, tabs⟩ F H vs ds ∧ sp ds R ∧
  ∀ l a ws H', Ex ⟨pot, tabs⟩ H H' → a ≠ pot → (∀ o, NoT o → H a ≠ some o) → H' a = some (.lst ws) → IsL K ⟨pot, tabs⟩ (a :: F) H' ws l → R l → Q (.ref a) H'
def SpO.sp (s : SpO) : SpD := fun ds R => s ds fun l => R (.lst l)
theorem toSpO_le {K : PySem.W.Frag} {tabs : Tf} {n : Nat} {s : SpO} {vs : List V} {H : Hp} {Q : VK} {E : XK} (h : toSp K tabs n s.sp vs H Q E) : toSpO K tabs n s vs H Q E := by
  obtain ⟨hl, pot, F, ds, R, pk, is, h, q⟩ := h
  refine ⟨hl, pot, F, ds, fun l => R (.lst l), pk, is, h, fun l a ws H' e nP hn hD il r => ?_⟩
  have nF : a ∉ F := fun z => by
    obtain ⟨_, o, k1, k2⟩ := pk.al a z
    exact hn o k2.noT k1
  exact q (.lst l) (.ref a) H' e (.lst (Rd.of hD) ⟨nP, nF⟩ (il.less fun b hb => List.mem_cons_of_mem _ hb)) r
section
variable {P : Program} {w : World} {K : PySem.W.Frag} {mg : Str → Option Value} {base : Heap} {tabs : Tf} {k : Nat} {f : Addr} {fd : FuncData} {ps : List Str} {sp : SpO}
end
structure CalO (P : Program) (w : World) (K : PySem.W.Frag) (mg : Str → Option Value) (base : Heap) (tabs : Tf) (x : Str) (k n : Nat) (ps : List Str) (kb : List (List Str × Nat × List Nat)) (sp : SpO) : Prop where
  ex : ∃ (f : Addr) (fd : FuncData), FnG P w K mg base CX0 k f fd ps (toSpO K tabs n sp) ∧ mg x = some (.ref f) ∧ PySem.W.keepIn K (.ref f) = true ∧ Binds K fd ps [] ∧ ∀ q ∈ kb, BindK K fd ps q.1 q.2.1 q.2.2
section
variable {P : Program} {w : World} {K : PySem.W.Frag} {mg : Str → Option Value} {base : Heap} {k n : Nat} {ps : List Str} {sp : SpO} {kb : List (List Str × Nat × List Nat)} {tabs : Tf} {x : Str}
theorem CalO.cal (C : CalO P w K mg base tabs x k n ps kb sp) : Cal P w K mg base tabs x k n ps kb sp.sp := by
  obtain ⟨f, fd, F, r⟩ := C.ex
  exact ⟨f, fd, ⟨fun vs H Q E h => F.len vs H Q E (toSpO_le h), fun A outer s H args us vs Q E g r ev b v h => F.go A outer s H args us vs Q E g r ev b v (toSpO_le h)⟩, r⟩
end
section
variable {X : Cx} {p : Qt} {pos q : Pos} {e : Expr} {es : List Expr} {ds : DA} {k j n : Nat} {ps : List Str} {sp : SpO} {x : Str} {kb : List (List Str × Nat × List Nat)}
def dBO (g : List D → (List D → Prop) → Prop) (t : DA) : DA := fun τ R => t τ fun xs => g xs R
def dRetF (d : DA) : DS := fun E τ => d τ E.ro
def dRetO (i : Nat) : DS := fun E τ => match τ[i]? with
  | some (some (.own l)) => E.ro l
  | _ => False
end
end DL
namespace DL
open PySem PySem.Spec L2
end DL
namespace DL
open PySem PySem.Spec L2
open PyProof.Rows hiding St
structure CNB (j : Int) : Prop where
  ne : j ≠ 0
  few : j.natAbs.log2 < 8990
theorem CNB.big {a : Nat} {j : Int} (h : j ≠ 0) (k : Big a j) (c : a ≤ 8980) : CNB j := by
  refine ⟨h, ?_⟩
  have h0 : j.natAbs ≠ 0 := by omega
  have := (Nat.log2_lt h0).mpr k.lt
  omega
section
variable {X : Cx} {p : Qt}
abbrev gDivNB := gIIc (fun _ j => CNB j) fun i j => .int (i.fdiv j)
end
end DL
namespace DL
theorem lastIf {c : DT} {t u : DS} {E : DEn} {τ : Sl} (b : Bool) (hc : ∀ Q : Bool → Prop, Q b → c τ Q) (h : if b = true then t E τ else u E τ) : dIfS c t u E τ := hc _ h
theorem lastNext {E : DEn} {τ : Sl} (h : E.nx τ) : dNext E τ := h
end DL
namespace DL
theorem finNext {u : DS} {E : DEn} {τ : Sl} {rt : D → Prop} {bk ct : Sl → Prop} {ro : List D → Prop} (h : u E τ) : ({ nx := u E, rt := rt, bk := bk, ct := ct, ro := ro } : DEn).nx τ := h
end DL
namespace DL
open PySem PySem.Spec L2
open PyProof.Rows hiding St
section
variable {X : Cx} {p : Qt} {pos : Pos}
def dParO (i j : Nat) (da : DE) (db : DA) : DS := fun E τ => da τ fun x => db τ fun l => E.nx ((τ.set i (some x)).set j (some (.own l)))
end
end DL
namespace DL
end DL
namespace DL
theorem seqTo' {t u : DS} {E : DEn} {τ : Sl} (I : Sl → Prop) (h1 : ∀ k : Sl → Prop, (∀ τ', I τ' → k τ') → t { nx := k, rt := E.rt, bk := E.bk, ct := E.ct, ro := E.ro } τ) (h2 : ∀ τ', I τ' → u E τ') : dSeq t u E τ := h1 _ h2
end DL
namespace DL
open PySem PySem.Spec L2
open PyProof.Rows hiding St
section
variable {X : Cx} {p : Qt}
def dZipM (d : DA) : DI := fun τ R => d τ fun xs => match xs with
  | [.tup l, .lst m] => R (zipD l m)
  | _ => False
end
end DL
namespace DL
open PySem PySem.Spec L2
open PyProof.Rows hiding St
section
variable {X : Cx} {p : Qt} {pos : Pos}
def dSlO (i : Nat) (lo hi : DO) : DA := fun τ R => match τ[i]? with
  | some (some (.own l)) => lo τ fun a => hi τ fun b => R (cutD l a b)
  | _ => False
def dCatO (i : Nat) (d : DA) : DA := fun τ R => match τ[i]? with
  | some (some (.own m)) => d τ fun l => l.length + m.length ≤ 1000000 ∧ R (l ++ m)
  | _ => False
def dRevL (d : DE) : DE := fun τ R => d τ fun x => match x with
  | .lst l => R (.lst l.reverse)
  | _ => False
theorem pd_revL {e : Expr} {d : DE} {k : Nat} {p1 p2 p3 : Pos} (he : PD X p e d) : PD X p (.Subscript e (.Slice none none (some (.UnaryOp .USub (.Constant (.int 1) k p1) p2)) p3) pos) (dRevL d) := by
  obtain ⟨t, h1, h2⟩ := he.run
  refine ⟨_, pe_revL h1, fun g0 F σ H τ Q R rel h q => ?_⟩
  refine h2 g0 F σ H τ _ _ rel h fun x v H1 e1 i1 h1 => ?_
  cases i1 with
  | @lst a vs l hs hn hl =>
    have pk := (rel.st e1).pkf
    refine ⟨a, vs, rfl, Rdl.sq hs, fun c hc => ?_⟩
    have e2 := Ex.new (o := .lst vs.reverse) pk.pk hc
    exact q _ _ _ (e1.trans e2) (.lst (Rd.of upd_same) (pk.nF hc) (isl_rev (hl.mono e2.kp))) h1
  | _ => exact (show False from h1).elim
end
end DL
namespace DL
open PySem PySem.Spec L2
open PyProof.Rows hiding St
def zipD3 : List D → List D → List D → List D
  | x :: xs, y :: ys, z :: zs => .tup [x, y, z] :: zipD3 xs ys zs
  | _, _, _ => []
theorem zipD3_map {α β γ : Type} (f : α → D) (g : β → D) (k : γ → D) : ∀ (l : List α) (m : List β) (n : List γ), zipD3 (l.map f) (m.map g) (n.map k) = (l.zip (m.zip n)).map fun q => .tup [f q.1, g q.2.1, k q.2.2]
  | [], _, _ => by simp [zipD3]
  | _ :: _, [], _ => by simp [zipD3]
  | _ :: _, _ :: _, [] => by simp [zipD3]
  | x :: l, y :: m, z :: n => by
    simp only [List.map_cons, zipD3, List.zip_cons_cons]
    rw [zipD3_map f g k l m n]
section
variable {X : Cx} {p : Qt}
def dZip3 (d : DA) : DI := fun τ R => d τ fun xs => match xs with
  | [.tup l, .tup m, .tup n] => R (zipD3 l m n)
  | _ => False
structure ShlC (i j : Int) : Prop where
  a : 0 ≤ j
  b : j ≤ 1000000
  c : i.natAbs < 2 ^ 64
abbrev gShl := gIIc ShlC fun i j => .int (i * 2 ^ j.toNat)
end
section
variable {X : Cx} {p : Qt} {pos : Pos}
def dParOO (i j : Nat) (da db : DA) : DS := fun E τ => da τ fun l => db τ fun m => m = [] ∧ E.nx ((τ.set i (some (.own l))).set j (some (.own [])))
end
end DL
namespace DL
open PySem PySem.Spec L2 PySem.W PySem.Calls Builtin Builtin.ObjectAttr
open PyProof.Rows hiding St
structure OxG (K : PySem.W.Frag) (C : Addr) (B newId initId : String) (bmB : List Value) : Prop where
  fb : ExcBaseFacts B newId initId bmB
  sf : StoreFacts B bmB "object.__setattr__" "object"
  ini : excInitIn K C bmB newId = true
  ovr : excOver K C bmB = true
  dic : hasDictIn K C = true
  sa : findIn K (.ref C) "__setattr__" = some (some (.builtin "object.__setattr__"))
  sub : subIn K (.ref C) (.type "BaseException") = some true
  ty : typeIn K (.ref C) = some (.type "type")
  kp : keepIn K (.ref C) = true
section
variable {prog : Program} {w : World} {A : Around} {R : Result → Shared → Prop} {hp : Heap} {g : Array GenState} {d : Drawn} {t : Nat} {os : OsState} {K : PySem.W.Frag} {C x t1 : Addr} {B newId initId : String} {bmB : List Value} {name : Str} {tk : Tok} {v : Value}
theorem taker0 (h : findIn K (.ref C) name = some none) : takerIn K C name = some none := by
  unfold takerIn
  rw [h]
  rfl
theorem store1 (T : OxG K C B newId initId bmB) (X : K.In hp) (hx : hp.get? x = some (excObj C t1 none .none)) (ha : findIn K (.ref C) name = some none)
    (hq : ∀ h' tk' dx, (∀ b o, b ≠ x → hp.get? b = some o → h'.get? b = some o) → hp.objs.size ≤ dx → dx ≠ x → h'.get? x = some (excObj C t1 (some dx) .none) → h'.Ns1 dx (fun y => if y = name then some v else none) → R (.ok (.ret .none)) ⟨h', g, d, tk', os⟩) :
    codeAny (model prog w) A (.call (.builtin "object.__setattr__") ⟨[.ref x, .str name tk, v], []⟩) R ⟨hp, g, d, t, os⟩ := by
  refine osa_openX (s := ⟨hp, g, d, t, os⟩) (od := none) T.sf X ⟨hx, rfl, rfl, trivial⟩ T.ovr (taker0 ha) fun b => ?_
  obtain ⟨cd, hc, hd⟩ := any_some T.dic
  have lt : x < hp.objs.size := Heap.lt_size hx
  have ne : hp.objs.size ≠ x := Nat.ne_of_gt lt
  refine wpAny_bind (wpAny_pure (wpAny_bind (instanceDict_exc hx (looks_clsIn X hc) hd ?_)))
  show wpAny _ _ (storeInDict hp.objs.size (.str name tk) name v) _ _ _
  refine HandSPX.store_in_new ?_ fun h' tk' hn hs => ?_
  · refine ⟨_, #[], _, (Heap.get?_update_ne _ _ _ _ ne).trans (Heap.get?_push_at rfl rfl), rfl, fun e he => absurd he (by simp), fun _ => rfl⟩
  have up : (hp.push { cls := .type "dict", data := .dict #[] }).get? x = some (excObj C t1 none .none) := Heap.get?_push_of_some _ hx
  refine hq h' tk' hp.objs.size (fun b o nb ho => ?_) (Nat.le_refl _) ne ((hs.2 x ne.symm).trans (Heap.get?_update_self _ up rfl)) hn
  have b1 := Nat.ne_of_lt (Heap.lt_size ho)
  exact (hs.2 b b1).trans ((Heap.get?_update_ne _ _ _ _ nb).trans (Heap.get?_push_of_some _ ho))
theorem store2 {dx : Addr} {m0 : Str → Option Value} {nl : List Str} (T : OxG K C B newId initId bmB) (X : K.In hp) (hx : hp.get? x = some (excObj C t1 (some dx) .none)) (hns : hp.Ns1 dx m0) (hw : Within m0 nl) (hz : nl.length ≤ 1000) (ha : findIn K (.ref C) name = some none)
    (hq : ∀ h' tk', (∀ b o, b ≠ dx → hp.get? b = some o → h'.get? b = some o) → h'.Ns1 dx (fun y => if y = name then some v else m0 y) → R (.ok (.ret .none)) ⟨h', g, d, tk', os⟩) :
    codeAny (model prog w) A (.call (.builtin "object.__setattr__") ⟨[.ref x, .str name tk, v], []⟩) R ⟨hp, g, d, t, os⟩ := by
  obtain ⟨oD, _, _, hoD, _, _⟩ := hns.count hw
  refine osa_openX (s := ⟨hp, g, d, t, os⟩) (od := some oD) T.sf X ⟨hx, rfl, rfl, hoD⟩ T.ovr (taker0 ha) fun b => ?_
  obtain ⟨cd, hc, hd⟩ := any_some T.dic
  refine wpAny_bind (wpAny_pure (wpAny_bind (wpAny_bind (wpAny_loadPart hx (wpAny_bind ((looks_clsIn X hc).here ?_))))))
  rw [hd]
  refine wpAny_pure (a := some dx) ?_
  exact OEX.store_in_old hns hw hz fun h' tk' hn hs => hq h' tk' (fun b o nb ho => (hs.2 b nb).trans ho) hn
end
section
variable {X : Cx} {pins : List (Addr × Obj)} {σ : L2.St} {H : Hp} {s : Shared} {a C dx : Addr} {f : Str} {y : V} {u : Value} {fs : List (Str × V)} {Q : Unit → Shared → Prop} {E : Value → Shared → Prop} {A : Around} {B newId initId : String} {bmB : List Value}
theorem putF1 (T : OxG X.K C B newId initId bmB) (I : Inv X pins σ H s) (e : H a = some (exo a C none)) (hno : findIn X.K (.ref C) f = some none) (ry : RelV y u)
    (h : ∀ dx s', H dx = none → dx ≠ a → Inv X pins σ (upd (upd H a (exo a C (some dx))) dx (exd dx [(f, y)])) s' → Q () s') : wpAny (model X.prog X.w) A (setAttr (.ref a) f u) Q E s := by
  obtain ⟨t1, ho⟩ := exo_at I.hok e
  obtain ⟨hp, g, d, t, os⟩ := s
  refine set_plain I.kIn (ox := excObj C t1 none .none) (od := none) ⟨ho, rfl, rfl, trivial⟩ T.sa ?_
  refine store1 T I.kIn ho hno fun h' tk' dx k dn dne hx hn => ?_
  have ea : (hp.update a fun o => { o with dict := some dx }).get? a = some (excObj C t1 (some dx) .none) := Heap.get?_update_self _ ho rfl
  have J : Inv X pins σ (upd H a (exo a C (some dx))) ⟨hp.update a (fun o => { o with dict := some dx }), g, d, t, os⟩ :=
    I.write (t' := t) (x := a) (e := a) (o := exo a C (some dx)) (by rw [e]; exact True.intro) (.inl rfl) (fun b o nb q => (Heap.get?_update_ne _ _ _ _ nb).trans q) ⟨_, ea⟩ (exo_ok ea)
  have sz : (hp.update a fun o => { o with dict := some dx }).objs.size ≤ dx := by
    first
      | (rw [Heap.size_update]; exact dn)
      | (simp [Heap.update]; exact dn)
      | exact dn
  refine h dx _ (I.hok.fresh dn) dne (J.laid (t' := tk') (a := dx) (o := exd dx [(f, y)]) (fun b o q => ?_) sz (exd_ok hn (relO_put (fs := []) ry fun g => True.intro)))
  by_cases hb : b = a
  · subst hb
    rw [ea] at q
    cases q
    exact hx
  · exact k b o hb ((Heap.get?_update_ne _ _ _ _ hb).symm.trans q)
theorem putF2 (T : OxG X.K C B newId initId bmB) (I : Inv X pins σ H s) (e : H a = some (exo a C (some dx))) (ed : H dx = some (exd dx fs)) (hl : fs.length ≤ 900) (hno : findIn X.K (.ref C) f = some none) (ry : RelV y u)
    (h : ∀ s', Inv X pins σ (upd H dx (exd dx ((f, y) :: fs))) s' → Q () s') : wpAny (model X.prog X.w) A (setAttr (.ref a) f u) Q E s := by
  obtain ⟨t1, ho⟩ := exo_at I.hok e
  obtain ⟨mA, hns, rel⟩ := exd_at I.hok ed
  have hw := within_of rel
  obtain ⟨hp, g, d, t, os⟩ := s
  obtain ⟨oD, _, _, hoD, _, _⟩ := hns.count hw
  refine set_plain I.kIn (ox := excObj C t1 (some dx) .none) (od := some oD) ⟨ho, rfl, rfl, hoD⟩ T.sa ?_
  refine store2 T I.kIn ho hns hw (by rw [List.length_map]; omega) hno fun h' tk' k hn => ?_
  obtain ⟨o2, _, _, e2, _⟩ := id hn
  exact h _ (I.write (t' := tk') (x := dx) (e := dx) (o := exd dx ((f, y) :: fs)) (by rw [ed]; exact True.intro) (.inl rfl) k ⟨o2, e2⟩ (exd_ok hn (relO_put ry rel)))
def tPut (K : PySem.W.Frag) (B newId initId : String) (bmB : List Value) (f : Str) (to te : TE) : TS := fun D σ H => te σ H fun y H1 => to σ H1 fun x H2 => ∃ a C : Addr, x = .ref a ∧ OxG K C B newId initId bmB ∧ findIn K (.ref C) f = some none ∧
  ((H2 a = some (exo a C none) ∧ ∀ dx, H2 dx = none → dx ≠ a → D.nx σ (upd (upd H2 a (exo a C (some dx))) dx (exd dx [(f, y)]))) ∨
    ∃ (dx : Addr) (fs : List (Str × V)), H2 a = some (exo a C (some dx)) ∧ H2 dx = some (exd dx fs) ∧ fs.length ≤ 900 ∧ D.nx σ (upd H2 dx (exd dx ((f, y) :: fs))))
theorem ps_put {o e : Expr} {to te : TE} {p' pos : Pos} (ho : PE X o to) (he : PE X e te) (hs : swapsWith e (some (.Attribute o f p')) pos.line X.env = pure false := by rfl) : PS X (.Assign [.Attribute o f p'] e pos) (tPut X.K B newId initId bmB f to te) := by
  refine ⟨fun pins s σ H D I h => ?_⟩
  refine plainObj_wpAny_Assign_Attribute (thn (he.run pins s σ H _ I h) fun v s1 x1 => ?_) hs
  obtain ⟨y, H1, I1, r1, q1⟩ := x1
  refine thn (ho.run pins s1 σ H1 _ I1 q1) fun u s2 x2 => ?_
  obtain ⟨x, H2, I2, r2, a, C, ex, T, hno, q⟩ := x2
  subst ex
  obtain rfl : u = Value.ref a := r2
  rcases q with ⟨ea, q⟩ | ⟨dx, fs, ea, ed, hl, q⟩
  · exact putF1 T I2 ea hno r1 fun dx s' n ne J => ⟨σ, _, J, q dx n ne⟩
  · exact putF2 T I2 ea ed hl hno r1 fun s' J => ⟨σ, _, J, q⟩
def tMk (C : Addr) (sp : Sp) (ta : TA) : L2.St → Hp → XK → Prop := fun σ H Q => ta σ H fun vs H1 => vs.length ≤ 1000 ∧ ∀ a, H1 a = none → sp (.ref a :: vs) (upd H1 a (exo a C none))
  (fun v H2 => v = .non ∧ ((∃ (d : Addr) (fs : List (Str × V)), H2 a = some (exo a C (some d)) ∧ H2 d = some (exd d fs) ∧ H1 d = none ∧ Q (.ref C) (some d) (upd (del H2 a) d (.xd fs)))
    ∨ (H2 = upd H1 a (exo a C none) ∧ Q (.ref C) none H1))) (fun _ _ _ => False)
end
section
variable {X : Cx} {pins : List (Addr × Obj)} {σ : L2.St} {H1 H2 : Hp} {Q : XK} {B newId initId : String} {bmB : List Value} {C fI a : Addr}
theorem mk_bare {hp hp2 h2 : Heap} {g1 g2 : Array GenState} {d1 d2 : Drawn} {n1 n2 : Nat} {os1 os2 : OsState} (T : Raises X (.ref C)) (I1 : Inv X pins σ H1 ⟨hp, g1, d1, n1, os1⟩) (ha : hp.objs.size ≤ a) (k : ∀ b o, hp.get? b = some o → hp2.get? b = some o)
    (un : Un (frs X.stack) [] (upd H1 a (exo a C none)) (upd H1 a (exo a C none)) hp2 h2) (hok : HOk X.prog X.w (upd H1 a (exo a C none)) h2) (ho : os2 = os1) (hb : AllBare g2) (q : Q (.ref C) none H1) : MkP X pins σ Q (.ref a) ⟨h2, g2, d2, n2, os2⟩ := by
  obtain ⟨t0, hoe⟩ := exo_at hok upd_same
  have hn : H1 a = none := I1.hok.fresh ha
  obtain ⟨G, ge1, ge2⟩ := restrict h2 fun b => decide (b ≠ a)
  have gk : ∀ b, b ≠ a → G.get? b = h2.get? b := fun b nb => ge1 b (decide_eq_true nb)
  have ge : G.get? a = none := ge2 a (by simp)
  have nb : ∀ {b : Addr} {o : Obj}, hp.get? b = some o → b ≠ a := fun {b o} z => Nat.ne_of_lt (Nat.lt_of_lt_of_le (Heap.lt_size z) ha)
  have na : ∀ {b : Addr} {o : HO}, H1 b = some o → b ≠ a := fun {b o} z e => by rw [e, hn] at z; cases z
  have un0 : ∀ {b : Addr} {o : Obj}, hp.get? b = some o → H1 b = none → upd H1 a (exo a C none) b = none := fun {b o} z n => by rw [upd_ne (nb z)]; exact n
  have U : Un (frs X.stack) [] H1 H1 hp G :=
    { keep := fun b o z n f x => (gk b (nb z)).trans (un.keep b o (k b o z) (un0 z n) f x)
      slot := fun b o z n f x => by rw [gk b (nb z)]; exact un.slot b o (k b o z) (un0 z n) f x
      free := fun b o z n x => n
      there := fun b o z x => by rw [gk b (nb z)]; exact un.there b o (k b o z) x
      tups := fun b xs z => z
      frzs := fun b o v z => z
      tbls := fun b ps z => ⟨#[], by rw [z]; simp⟩ }
  have hk3 : HOk X.prog X.w H1 G := fun b o z => by
    have zb := na z
    have zo : ∀ {c : Addr}, upd H1 a (exo a C none) c = some (.own b) → c ≠ a := fun {c} hc e => by
      rw [e, upd_same] at hc
      exact exo_own (Option.some.inj hc)
    refine (hok b o (by rw [upd_ne zb]; exact z)).stay (fun c v hc y => ?_) (fun c hc => ?_) fun c xs hc => ?_
    · have ca : c ≠ a := by
        rcases hc with rfl | hc
        · exact zb
        · exact zo hc
      rw [gk c ca]
      exact y
    · rw [upd_ne (zo hc)] at hc
      exact hc
    · have ca : c ≠ a := fun e => by
        rw [e, upd_same] at hc
        exact exo_tup (Option.some.inj hc)
      rw [upd_ne ca] at hc
      exact hc
  have J : Inv X pins σ H1 ⟨G, g2, d2, n2, os2⟩ := I1.call' (ch := []) ho U hk3 hb fun b z => absurd z (by simp)
  refine ⟨a, _, _, ⟨G, g2, d2, n2, os2⟩, H1, .ref C, none, rfl, J, fun b o z => ?_, ge, hoe, ⟨rfl, rfl⟩, rfl, rfl, hn, rfl, hb, T, q⟩
  by_cases e : b = a
  · rw [e, ge] at z
    cases z
  · exact (gk b e).symm.trans z
theorem make_core {CX : CXT} {k : Nat} {fd : FuncData} {ps : List Str} {sp : Sp} {us : List Value} {vs : List V} {s1 : Shared} (T : OxG X.K C B newId initId bmB) (iC : findIn X.K (.ref C) "__init__" = some (some (.ref fI))) (tI : typeIn X.K (.ref fI) = some (.type "function"))
    (F1 : FnOk X.prog X.w X.K X.mg X.base CX k fI fd ps sp) (hr : Room (k + 1) X.A) (hb : L2.Binds X.K fd ps []) (hx : Passes CX X (fun _ _ _ => False)) (I1 : Inv X pins σ H1 s1) (r1 : Vals vs us) (hl : vs.length ≤ 1000)
    (q1 : ∀ a, H1 a = none → sp (.ref a :: vs) (upd H1 a (exo a C none)) (fun v H2 => v = .non ∧ ((∃ (d : Addr) (fs : List (Str × V)), H2 a = some (exo a C (some d)) ∧ H2 d = some (exd d fs) ∧ H1 d = none ∧ Q (.ref C) (some d) (upd (del H2 a) d (.xd fs))) ∨ (H2 = upd H1 a (exo a C none) ∧ Q (.ref C) none H1))) (fun _ _ _ => False)) :
    wpAny (model X.prog X.w) X.A (call (.ref C) us) (MkP X pins σ Q) X.xe s1 := by
  obtain ⟨nm, N, qn, bs, bm, hdct, sn, sub, ab, col, dd, k0, k1, k2, k3, k5, hC, hT⟩ := excInit_of I1.kIn T.ini
  obtain ⟨hp, g, dr, tk, os⟩ := s1
  have sz : hp.objs.size ≤ hp.objs.size + 1 := Nat.le_succ _
  have hq := q1 (hp.objs.size + 1) (I1.hok.fresh sz)
  have kk : ∀ b o, hp.get? b = some o → ((hp.push (kdv_tup us)).push (HandSPX.excO C hp.objs.size)).get? b = some o := fun b o e => Heap.get?_push_of_some _ (Heap.get?_push_of_some _ e)
  have hget : ((hp.push (kdv_tup us)).push (HandSPX.excO C hp.objs.size)).get? (hp.objs.size + 1) = some (HandSPX.excO C hp.objs.size) := by heap_get
  have I2 : Inv X pins σ (upd H1 (hp.objs.size + 1) (exo (hp.objs.size + 1) C none)) ⟨(hp.push (kdv_tup us)).push (HandSPX.excO C hp.objs.size), g, dr, tk, os⟩ := I1.laid (t' := tk) kk sz (exo_ok hget)
  have lu := Paired.length r1
  have r2 : Vals (V.ref (hp.objs.size + 1) :: vs) (Value.ref (hp.objs.size + 1) :: us) := .cons rfl r1
  have lp : (Value.ref (hp.objs.size + 1) :: us).length = ps.length := (Paired.length r2).symm.trans (F1.len _ _ _ _ hq)
  have hus : us.length ≤ sizeLine := by
    rw [← lu, sizeLine_eq]
    omega
  refine wpAny_call (HandSPX.call_own T.fb hT hC (looks_findIn I1.kIn iC) (fun self => bind_fn I1.kIn self tI) hus ?_)
  have hbd := hb _ (Value.ref (hp.objs.size + 1) :: us) I2.kIn (by simpa using lp)
  rw [List.append_nil] at hbd
  refine codeAny_mono (F1.run _ X.stack _ _ ⟨Value.ref (hp.objs.size + 1) :: us, []⟩ (Value.ref (hp.objs.size + 1) :: us) _ _ (fun _ _ _ => False) (hr.make C us []) (I2.env0.make C us []) hbd r2 hq) fun r s' z => ?_
  match r, z with
  | .error er, z => exact hx pins σ _ _ er s' I2 z
  | .ok .next, z => exact False.elim z
  | .ok .brk, z => exact False.elim z
  | .ok .cont, z => exact False.elim z
  | .ok (.ret u), z =>
    obtain ⟨v, H2, os2, bare2, un2, hok2, rv, ev, fin⟩ := z
    subst ev
    obtain ⟨h2, g2, d2, t2, os'⟩ := s'
    rcases fin with ⟨d, fs, ea, ed, hd1, q2⟩ | ⟨rfl, q2⟩
    · exact ⟨rv, mk_end (raises_own T.sub T.ty) I1 sz kk un2 hok2 os2 bare2 ea ed hd1 q2⟩
    · exact ⟨rv, mk_bare (raises_own T.sub T.ty) I1 sz kk un2 hok2 os2 bare2 q2⟩
section
variable {CX : CXT} {x : Str} {k : Nat} {fd : FuncData} {ps : List Str} {sp : Sp} {e : Expr} {es : List Expr} {ta : TA} {p pos : Pos}
theorem pmk_gen (T : OxG X.K C B newId initId bmB) (iC : findIn X.K (.ref C) "__init__" = some (some (.ref fI))) (tI : typeIn X.K (.ref fI) = some (.type "function")) (F1 : FnOk X.prog X.w X.K X.mg X.base CX k fI fd ps sp) (hr : Room (k + 1) X.A) (hb : L2.Binds X.K fd ps [])
    (hx : Passes CX X (fun _ _ _ => False)) (hg : Gl X x) (hm : X.mg x = some (.ref C)) (ha : PA X (e :: es) ta) (hdb : (x == ("__debug__" : Str)) = false := by decide)
    (he : starEach (e :: es) X.env = (false, eval e X.env) :: starEach es X.env := by rfl) (hpl : (backTo pos (starEach es X.env)).any (·.1) = false := by rfl) : PMk X (.Call (.Name x p) (e :: es) [] pos) (tMk C sp ta) := by
  intro pins s σ H Q I h
  refine wpAny_Call_Name_kw (ld_glob I hg hm ?_ hdb)
  refine callWith_K (h₀ := X.base) I.ok.mod.kin T.kp (thn (ha.run pos pins s σ H _ I h) fun us s1 y => ?_) he hpl
  obtain ⟨vs, H1, I1, r1, hl, q1⟩ := y
  exact ⟨I1.kIn, make_core T iC tI F1 hr hb hx I1 r1 hl q1⟩
end
end
end DL
namespace DL
open PySem PySem.Spec L2
open PyProof.Rows hiding St
structure XD where
  c : Str
  fs : List (Str × D)
structure IsXD (K : PySem.W.Frag) (p : Qt) (F : List Addr) (H : Hp) (cls : Value) (d : Option Addr) (x : XD) : Prop where
  cl : ∃ C : Addr, p.tf.fns x.c = some (.ref C) ∧ cls = .ref C
  fl : ∀ q ∈ x.fs, ∃ (dx : Addr) (fs : List (Str × V)) (v : V), d = some dx ∧ H dx = some (.xd fs) ∧ fs.lookup q.1 = some v ∧ Is K p F H v q.2
abbrev SpX := List D → (D → Prop) → (XD → Prop) → Prop
def toSpX (K : PySem.W.Frag) (tabs : Tf) (n : Nat) (sp : SpX) : Sp := fun vs H Q E => vs.length = n ∧ ∃ (pot : Addr) (F : List Addr) (ds : List D) (R : D → Prop) (Rx : XD → Prop), PkF ⟨pot, tabs⟩ F H ∧ IsL K ⟨pot, tabs⟩ F H vs ds ∧ sp ds R Rx ∧
  (∀ x v H', Ex ⟨pot, tabs⟩ H H' → Is K ⟨pot, tabs⟩ F H' v x → R x → Q v H') ∧ ∀ x cls d H', Ex ⟨pot, tabs⟩ H H' → IsXD K ⟨pot, tabs⟩ F H' cls d x → Rx x → E cls d H'
theorem IsXD.less {K : PySem.W.Frag} {p : Qt} {F G : List Addr} {H : Hp} {cls : Value} {d : Option Addr} {x : XD} (h : IsXD K p F H cls d x) (e : ∀ b ∈ G, b ∈ F) : IsXD K p G H cls d x :=
  ⟨h.cl, fun q hq => by
    obtain ⟨dx, fs, v, h1, h2, h3, h4⟩ := h.fl q hq
    exact ⟨dx, fs, v, h1, h2, h3, h4.less e⟩⟩
section
variable {X : Cx} {CX : CXT} {k n : Nat} {f : Addr} {fd : FuncData} {ps ks : List Str} {sp : Sp} {E : L2.St → XK} {x : Str} {q pos : Pos} {e : Expr} {es : List Expr} {kws : List Keyword} {t tk : TA}
theorem goGS {pins : List (Addr × Obj)} {σ : L2.St} {H : Hp} {s : Shared} {Q : VK} {args : Args} {us : List Value} {vs : List V} {E : XK} (F : FnG X.prog X.w X.K X.mg X.base CX k f fd ps sp) (hg : X.A.guards = some []) (hr : Room k X.A) (hx : PassesAt CX X σ E)
    (I : Inv X pins σ H s) (hb : BindsTo s fd args (ps.zip us)) (r : Vals vs us) (h : sp vs H Q E) : wpAny (model X.prog X.w) X.A (call (.ref f) args.pos args.kw) (EP X pins σ Q) X.xe s := by
  refine wpAny_call (codeAny_mono (F.go X.A X.stack s H args us vs Q E hg hr I.env0 hb r h) ?_)
  intro res s' out
  match res, out with
  | .error v, o => exact hx pins H s v s' I o
  | .ok (.ret u), o => exact I.after o
  | .ok .next, o => exact False.elim o
  | .ok .brk, o => exact False.elim o
  | .ok .cont, o => exact False.elim o
theorem pe_callGS (F : FnG X.prog X.w X.K X.mg X.base CX k f fd ps sp) (hgu : X.A.guards = some []) (hr : Room k X.A) (hx : ∀ σ, PassesAt CX X σ (E σ)) (hg : Gl X x) (hm : X.mg x = some (.ref f)) (hk : PySem.W.keepIn X.K (.ref f) = true) (hb : Binds X.K fd ps [])
    (ha : PA X (e :: es) t) (hdb : (x == ("__debug__" : Str)) = false := by decide) (he : starEach (e :: es) X.env = (false, eval e X.env) :: starEach es X.env := by rfl) (hpl : (backTo pos (starEach es X.env)).any (·.1) = false := by rfl) :
    PE X (.Call (.Name x q) (e :: es) [] pos) (fun σ H Q => t σ H fun vs H1 => sp vs H1 Q (E σ)) := by
  refine ⟨fun pins s σ H Q I h => wpAny_Call_Name_kw (ld_glob I hg hm ?_ hdb)⟩
  refine PySem.W.callWith_K (h₀ := X.base) I.ok.mod.kin hk (thn (ha.run pos pins s σ H _ I h) ?_) he hpl
  rintro us s1 ⟨vs, H1, I1, r, z⟩
  have hl : (us ++ []).length = ps.length := by rw [List.append_nil, ← r.length]; exact F.len _ _ _ _ z
  have b := hb s1 us I1.kIn hl
  rw [List.append_nil] at b
  exact ⟨I1.kIn, goGS (args := ⟨us, []⟩) F hgu hr (hx σ) I1 b r z⟩
theorem pe_callGK0S (F : FnG X.prog X.w X.K X.mg X.base CX k f fd ps sp) (hgu : X.A.guards = some []) (hr : Room k X.A) (hx : ∀ σ, PassesAt CX X σ (E σ)) (hg : Gl X x) (hm : X.mg x = some (.ref f)) (hk : PySem.W.keepIn X.K (.ref f) = true) {perm : List Nat} (hb : BindK X.K fd ps ks 0 perm)
    (hkw : PK X kws tk) (hall : (backToKw pos (keywordEach kws X.env)).all (·.1.isSome) = true := by rfl) (hks : (backToKw pos (keywordEach kws X.env)).filterMap (·.1) = ks := by rfl)
    (hdb : (x == ("__debug__" : Str)) = false := by decide)
    (hpl : ((backTo pos (starEach [] X.env)).any (·.1) || (backToKw pos (keywordEach kws X.env)).any (·.1.isNone)) = false := by rfl) :
    PE X (.Call (.Name x q) [] kws pos) (fun σ H Q => tk σ H fun ws H2 => ws.length = ks.length ∧ sp (ordV perm ws) H2 Q (E σ)) := by
  refine ⟨fun pins s σ H Q I h => wpAny_Call_Name_kw (ld_glob I hg hm ?_ hdb)⟩
  refine PySem.W.callWith_KW0 (h₀ := X.base) I.ok.mod.kin hk hall (thn (hkw.run pos pins s σ H _ I h) ?_) hpl
  rintro ws s2 ⟨zs, H2, I2, r2, l2, z⟩
  rw [hks]
  obtain ⟨os, b1, b2, b3, b4⟩ := hb s2 [] ws I2.kIn rfl (by rw [← r2.length]; exact l2)
  exact ⟨I2.kIn, goGS (args := ⟨[], ks.zip ws⟩) F hgu hr (hx σ) I2 b1 (ordV_rel r2 (by rw [b3, b2]) b4) z⟩
end
abbrev DSX := DEn → (Sl → XD → Prop) → Sl → Prop
def AgX (K : PySem.W.Frag) (p : Qt) (g : Gd) (xe : Sl → XD → Prop) (E0 : L2.St → XK) : Prop := ∀ F σ H τ cls d x, Rel K p g F σ H τ → IsXD K p F H cls d x → xe τ x → E0 σ cls d H
structure PDSX (X : Cx) (p : Qt) (E0 : L2.St → XK) (st : Stmt) (d : DSX) : Prop where
  run : ∃ t, PS X st t ∧ ∀ (g : Gd) (F : List Addr) (σ : St) (H : Hp) (τ : Sl) (E : Ends) (E' : DEn) (xe : Sl → XD → Prop), Rel X.K p g F σ H τ → d E' xe τ → Agree X.K p g E' E → AgX X.K p g xe E0 → t E σ H
structure PDSXs (X : Cx) (p : Qt) (E0 : L2.St → XK) (st : List Stmt) (d : DSX) : Prop where
  run : ∃ t, PSs X st t ∧ ∀ (g : Gd) (F : List Addr) (σ : St) (H : Hp) (τ : Sl) (E : Ends) (E' : DEn) (xe : Sl → XD → Prop), Rel X.K p g F σ H τ → d E' xe τ → Agree X.K p g E' E → AgX X.K p g xe E0 → t E σ H
def xOf (d : DS) : DSX := fun E _ τ => d E τ
def xSeq (t u : DSX) : DSX := fun E xe τ => t { E with nx := u E xe } xe τ
def xIf (c : DT) (t u : DSX) : DSX := fun E xe τ => c τ fun b => if b = true then t E xe τ else u E xe τ
abbrev DEX := Sl → (D → Prop) → (XD → Prop) → Prop
def xRet (d : DEX) : DSX := fun E xe τ => d τ E.rt (xe τ)
def xRaise (d : Sl → (XD → Prop) → Prop) : DSX := fun _ xe τ => d τ (xe τ)
structure PDX (X : Cx) (p : Qt) (E0 : L2.St → XK) (e : Expr) (d : DEX) : Prop where
  run : ∃ t, PE X e t ∧ ∀ (g : Gd) (F : List Addr) (σ : St) (H : Hp) (τ : Sl) (Q : VK) (R : D → Prop) (xe : XD → Prop), Rel X.K p g F σ H τ → d τ R xe → (∀ x v H', Ex p H H' → Is X.K p F H' v x → R x → Q v H') → (∀ x cls dd H', Ex p H H' → IsXD X.K p F H' cls dd x → xe x → E0 σ cls dd H') → t σ H Q
structure PDM (X : Cx) (p : Qt) (e : Expr) (d : Sl → (XD → Prop) → Prop) : Prop where
  run : ∃ t, PMk X e t ∧ ∀ (g : Gd) (F : List Addr) (σ : St) (H : Hp) (τ : Sl) (Q : XK) (R : XD → Prop), Rel X.K p g F σ H τ → d τ R → (∀ x cls dd H', Ex p H H' → IsXD X.K p F H' cls dd x → R x → Q cls dd H') → t σ H Q
section
variable {X : Cx} {p : Qt} {E0 : L2.St → XK} {st : Stmt} {rest : List Stmt} {t u : DSX} {d : DS} {pos : Pos} {e : Expr}
theorem pdsx_of (h : PDS X p st d) : PDSX X p E0 st (xOf d) := by
  obtain ⟨a, a1, a2⟩ := h.run
  exact ⟨a, a1, fun g F σ H τ E E' xe rel hd ag _ => a2 g F σ H τ E E' rel hd ag⟩
theorem pdsxs_of {sts : List Stmt} (h : PDSs X p sts d) : PDSXs X p E0 sts (xOf d) := by
  obtain ⟨a, a1, a2⟩ := h.run
  exact ⟨a, a1, fun g F σ H τ E E' xe rel hd ag _ => a2 g F σ H τ E E' rel hd ag⟩
theorem pdsxs_one (h : PDSX X p E0 st t) : PDSXs X p E0 [st] t := by
  obtain ⟨a, a1, a2⟩ := h.run
  exact ⟨_, pss_one a1, a2⟩
theorem pdsxs_nil : PDSXs X p E0 [] (xOf dNext) := pdsxs_of pdss_nil
theorem pdsxs_cons (h1 : PDSX X p E0 st t) (h2 : PDSXs X p E0 rest u) : PDSXs X p E0 (st :: rest) (xSeq t u) := by
  obtain ⟨a, a1, a2⟩ := h1.run
  obtain ⟨b, b1, b2⟩ := h2.run
  refine ⟨_, pss_cons a1 b1, fun g F σ H τ E E' xe rel h ag ax => ?_⟩
  exact a2 g F σ H τ _ _ xe rel h (ag.seq fun F' σ' H' τ' rel' h' => b2 g F' σ' H' τ' E E' xe rel' h' ag ax) ax
theorem pdsx_if {c : Expr} {a b : List Stmt} {tc : DT} (hc : PDT X p c tc) (ha : PDSXs X p E0 a t) (hb : PDSXs X p E0 b u) : PDSX X p E0 (.If c a b pos) (xIf tc t u) := by
  obtain ⟨c0, c1, c2⟩ := hc.run
  obtain ⟨a0, a1, a2⟩ := ha.run
  obtain ⟨b0, b1, b2⟩ := hb.run
  refine ⟨_, ps_if c1 a1 b1, fun g F σ H τ E E' xe rel h ag ax => ?_⟩
  refine c2 g F σ H τ _ _ rel h fun b H1 e1 h1 => ?_
  cases b with
  | true => exact a2 g F σ H1 τ E E' xe (rel.st e1) h1 ag ax
  | false => exact b2 g F σ H1 τ E E' xe (rel.st e1) h1 ag ax
theorem pdsx_ret {dx : DEX} (he : PDX X p E0 e dx) : PDSX X p E0 (.Return (some e) pos) (xRet dx) := by
  obtain ⟨a, a1, a2⟩ := he.run
  exact ⟨_, ps_ret a1, fun g F σ H τ E E' xe rel h ag ax => a2 g F σ H τ _ _ (xe τ) rel h (fun x v H' e1 i1 r1 => ag.rt F σ H' τ v x (rel.st e1) i1 r1) fun x cls dd H' e1 i1 r1 => ax F σ H' τ cls dd x (rel.st e1) i1 r1⟩
theorem pdsx_raise {dm : Sl → (XD → Prop) → Prop} (hc : X.calm = true) (tk : Takes X fun cls d σ H => E0 σ cls d H) (hm : PDM X p e dm) : PDSX X p E0 (.Raise (some e) none pos) (xRaise dm) := by
  obtain ⟨a, a1, a2⟩ := hm.run
  exact ⟨_, ps_raise hc tk a1, fun g F σ H τ E E' xe rel h ag ax => a2 g F σ H τ _ _ rel h fun x cls dd H' e1 i1 r1 => ax F σ H' τ cls dd x (rel.st e1) i1 r1⟩
end
def xExpr (d : DEX) : DSX := fun E xe τ => d τ (fun _ => E.nx τ) (xe τ)
def xAsg (i : Nat) (d : DEX) : DSX := fun E xe τ => d τ (fun x => E.nx (τ.set i (some x))) (xe τ)
section
variable {X : Cx} {p : Qt} {E0 : L2.St → XK} {e : Expr} {pos : Pos}
theorem pd_ofX {d : DEX} (h : PDX X p (fun _ _ _ _ => False) e d) : PD X p e (fun τ R => d τ R fun _ => False) := by
  obtain ⟨t, h1, h2⟩ := h.run
  exact ⟨t, h1, fun g F σ H τ Q R rel hd q => h2 g F σ H τ Q R _ rel hd q fun _ _ _ _ _ _ z => z⟩
theorem pds_ofX {st : Stmt} {d : DSX} (h : PDSX X p (fun _ _ _ _ => False) st d) : PDS X p st (fun E τ => d E (fun _ _ => False) τ) := by
  obtain ⟨t, h1, h2⟩ := h.run
  exact ⟨t, h1, fun g F σ H τ E E' rel hd ag => h2 g F σ H τ E E' _ rel hd ag fun _ _ _ _ _ _ _ _ _ z => z⟩
theorem pdx_of {d : DE} (h : PD X p e d) : PDX X p E0 e (fun τ R _ => d τ R) := by
  obtain ⟨t, h1, h2⟩ := h.run
  exact ⟨t, h1, fun g F σ H τ Q R xe rel hd q _ => h2 g F σ H τ Q R rel hd q⟩
theorem pdsx_set {i : Nat} {x : Str} {pos' : Pos} {d : DEX} (hN : X.N.Nodup) (hi : X.N[i]? = some x) (hx : Loc X.env.scope x) (he : PDX X p E0 e d) (hs : swapsWith e (some (.Name x pos')) pos.line X.env = pure false := by rfl) (hf : X.fn x = true ∨ X.env.scope.names.lookup x = some .local := by first | exact .inl rfl | exact .inr rfl | assumption) :
    PDSX X p E0 (.Assign [.Name x pos'] e pos) (xAsg i d) := by
  obtain ⟨a, a1, a2⟩ := he.run
  refine ⟨_, ps_set hN hi hx a1 hs hf, fun g F σ H τ E E' xe rel h ag ax => ?_⟩
  exact a2 g F σ H τ _ _ (xe τ) rel h (fun x v H' e1 i1 r1 => ag.nx F _ H' _ ((rel.st e1).set i1) r1) fun x cls dd H' e1 i1 r1 => ax F σ H' τ cls dd x (rel.st e1) i1 r1
theorem pdsx_expr {d : DEX} (he : PDX X p E0 e d) (hs : swapsWith e none pos.line X.env = pure false := by rfl) : PDSX X p E0 (.Expr e pos) (xExpr d) := by
  obtain ⟨a, a1, a2⟩ := he.run
  refine ⟨_, ps_expr a1 hs, fun g F σ H τ E E' xe rel h ag ax => ?_⟩
  exact a2 g F σ H τ _ _ (xe τ) rel h (fun x v H' e1 i1 r1 => ag.nx F _ H' _ (rel.st e1) r1) fun x cls dd H' e1 i1 r1 => ax F σ H' τ cls dd x (rel.st e1) i1 r1
end
section
variable {P : Program} {w : World} {K : PySem.W.Frag} {mg : Str → Option Value} {base : Heap} {tabs : Tf} {k : Nat} {f : Addr} {fd : FuncData} {ps : List Str} {sp : SpX} {kb : List (List Str × Nat × List Nat)}
theorem funX {x qual : Str} {st : Stmt} {N : List Str} (F : Fun K x qual st f fd) (S : FnScope N ps (defScope st))
    (body : ∀ (cdv : Value) (A : Around) (outer : List Env) (s : Shared) (H : Hp) (E : XK) (p : Qt), p.tf = tabs → fd.code = cdv → A.guards = some [] → (∀ a o, K.lookup a = some o → a ≠ p.pot) → Room k (A.deeper (envOfC qual (defScope st) s.heap.objs.size f cdv)) →
      ∃ d, PDSXs (cxOf (L2.CX P w) P w K mg base N qual (defScope st) f cdv A outer s H E) p (fun _ => E) (defBody st) d ∧ ∀ (ds : List D) (R : D → Prop) (Rx : XD → Prop), ds.length = ps.length → sp ds R Rx → d { nx := fun _ => R .non, rt := R } (fun _ => Rx) (startD N ds)) :
    FnG P w K mg base (L2.CX P w) (k + 1) f fd ps (toSpX K tabs ps.length sp) := by
  refine funG F S (fun vs H Q E h => h.1) fun cdv A outer s H vs Q E hc hg hk hr h => ?_
  obtain ⟨hl, pot, Fb, ds, R, Rx, pk, is, h, q, qx⟩ := h
  obtain ⟨d, hb, hd⟩ := body cdv A outer s H E ⟨pot, tabs⟩ rfl hc hg (fun a o lo => pk.ne (hk a o lo)) hr
  obtain ⟨t, h1, h2⟩ := hb.run
  refine ⟨t, h1, ?_⟩
  have ex : ∀ {F' : List Addr} {σ' : L2.St} {H' : Hp} {τ' : Sl}, Rel K ⟨pot, tabs⟩ ⟨Fb, [], H⟩ F' σ' H' τ' → Ex ⟨pot, tabs⟩ H H' := by
    intro F' σ' H' τ' r
    exact ⟨fun b o n t e => r.kp b o n (fun z => nomatch z) t e, r.pk⟩
  exact h2 ⟨Fb, [], H⟩ Fb (L2.start N vs) H (startD N ds) _ _ (fun _ => Rx) (start_rel pk is) (hd ds R Rx (by rw [← is.len]; exact hl) h)
    ⟨fun F' σ H' τ rel r => q _ _ H' (ex rel) .non r, fun F' σ H' τ v x rel i r => q x v H' (ex rel) (i.less rel.sub) r, fun _ _ _ _ _ z => z.elim, fun _ _ _ _ _ z => z.elim, fun _ _ _ _ _ _ _ _ _ _ _ _ z => z.elim⟩
    fun F' σ H' τ cls d x rel i r => qx x cls d H' (ex rel) (i.less rel.sub) r
structure CalX (P : Program) (w : World) (K : PySem.W.Frag) (mg : Str → Option Value) (base : Heap) (tabs : Tf) (x : Str) (k n : Nat) (ps : List Str) (kb : List (List Str × Nat × List Nat)) (sp : SpX) : Prop where
  ex : ∃ (f : Addr) (fd : FuncData), FnG P w K mg base (L2.CX P w) k f fd ps (toSpX K tabs n sp) ∧ mg x = some (.ref f) ∧ PySem.W.keepIn K (.ref f) = true ∧ Binds K fd ps [] ∧ ∀ q ∈ kb, BindK K fd ps q.1 q.2.1 q.2.2
theorem calx_of {x qual : Str} {st : Stmt} {N : List Str} (D0 : Dfn K mg x qual st ps kb) (S : FnScope N ps (defScope st))
    (body : ∀ (f : Addr) (cdv : Value) (A : Around) (outer : List Env) (s : Shared) (H : Hp) (E : XK) (p : Qt), p.tf = tabs → A.guards = some [] → (∀ a o, K.lookup a = some o → a ≠ p.pot) → Room k (A.deeper (envOfC qual (defScope st) s.heap.objs.size f cdv)) →
      ∃ d, PDSXs (cxOf (L2.CX P w) P w K mg base N qual (defScope st) f cdv A outer s H E) p (fun _ => E) (defBody st) d ∧ ∀ (ds : List D) (R : D → Prop) (Rx : XD → Prop), ds.length = ps.length → sp ds R Rx → d { nx := fun _ => R .non, rt := R } (fun _ => Rx) (startD N ds)) :
    CalX P w K mg base tabs x (k + 1) ps.length ps kb sp := by
  obtain ⟨f, fd, F, hm, hb, hk⟩ := D0.ex
  exact ⟨f, fd, funX F S fun cdv A outer s H E p ht _ => body f cdv A outer s H E p ht, hm, F.kp, hb, hk⟩
end
def xB (sp : SpX) (ds : DA) : DEX := fun τ R xe => ds τ fun xs => sp xs R xe
def xBK (sp : SpX) (perm : List Nat) (da dk : DA) : DEX := fun τ R xe => da τ fun xs => dk τ fun ys => sp (ordD perm (xs ++ ys)) R xe
section
variable {X : Cx} {p : Qt} {E0 : L2.St → XK} {pos q : Pos} {e : Expr} {es : List Expr} {kws : List Keyword} {ds dk : DA} {k j n : Nat} {ps : List Str} {sp : SpX} {x : Str} {kb : List (List Str × Nat × List Nat)}
theorem pdxC (C : CalX X.prog X.w X.K X.mg X.base p.tf x j n ps kb sp) (tk : Takes X fun cls d σ H => E0 σ cls d H) (hgu : X.A.guards = some []) (hr : Room k X.A) (ha : PDA X p (e :: es) ds) (hj : j ≤ k := by decide) (hg : Gl X x := by rfl) (hn : (e :: es).length = n := by rfl) (hdb : (x == ("__debug__" : Str)) = false := by decide)
    (he : starEach (e :: es) X.env = (false, eval e X.env) :: starEach es X.env := by rfl) (hpl : (backTo pos (starEach es X.env)).any (·.1) = false := by rfl) : PDX X p E0 (.Call (.Name x q) (e :: es) [] pos) (xB sp ds) := by
  obtain ⟨f, fd, F, hm, hk, hb, _⟩ := C.ex
  obtain ⟨t, h1, h2⟩ := ha.run
  refine ⟨_, pe_callGS (E := E0) F hgu (hr.mono hj) (passAt tk) hg hm hk hb h1 hdb he hpl, fun g0 F σ H τ Q R xe rel h qv ax => ?_⟩
  refine h2 g0 F σ H τ _ _ rel h fun xs vs H1 e1 i1 l1 h1 => ?_
  exact ⟨by rw [l1]; exact hn, p.pot, F, xs, R, xe, (rel.st e1).pkf, i1, h1, fun z v' H' e i r => qv z v' H' (e1.trans e) i r, fun z cls d H' e i r => ax z cls d H' (e1.trans e) i r⟩
theorem pdxCK0 {ks : List Str} {perm : List Nat} (C : CalX X.prog X.w X.K X.mg X.base p.tf x j n ps kb sp) (tk : Takes X fun cls d σ H => E0 σ cls d H) (hgu : X.A.guards = some []) (hr : Room k X.A) (hq : (ks, 0, perm) ∈ kb) (hkw : PDK X p kws dk) (hj : j ≤ k := by decide)
    (hn : perm.length = n := by rfl) (hp : ∀ j ∈ perm, j < kws.length := by decide) (hlk : kws.length = ks.length := by rfl) (hg : Gl X x := by rfl) (hall : (backToKw pos (keywordEach kws X.env)).all (·.1.isSome) = true := by rfl) (hks : (backToKw pos (keywordEach kws X.env)).filterMap (·.1) = ks := by rfl)
    (hdb : (x == ("__debug__" : Str)) = false := by decide)
    (hpl : ((backTo pos (starEach [] X.env)).any (·.1) || (backToKw pos (keywordEach kws X.env)).any (·.1.isNone)) = false := by rfl) : PDX X p E0 (.Call (.Name x q) [] kws pos) (xBK sp perm dNil dk) := by
  obtain ⟨f, fd, F, hm, hk, _, hb⟩ := C.ex
  obtain ⟨t, h1, h2⟩ := hkw.run
  refine ⟨_, pe_callGK0S (E := E0) F hgu (hr.mono hj) (passAt tk) hg hm hk (hb _ hq) h1 hall hks hdb hpl, fun g0 F σ H τ Q R xe rel h qv ax => ?_⟩
  refine h2 g0 F σ H τ _ _ rel h fun xs vs H1 e1 i1 l1 h1 => ?_
  have i2 : IsL X.K p F H1 (ordV perm vs) (ordD perm xs) := ord_is i1 fun j hj => by rw [l1]; exact hp j hj
  exact ⟨l1.trans hlk, by simp [ordV, hn], p.pot, F, ordD perm xs, R, xe, (rel.st e1).pkf, i2, by simpa using h1, fun z v' H' e i r => qv z v' H' (e1.trans e) i r, fun z cls d H' e i r => ax z cls d H' (e1.trans e) i r⟩
end
end DL
namespace DL
open PySem PySem.Spec L2 LamX
open PyProof.Rows hiding St
def GivesX (X : Cx) (k : Nat) (Ng : List Str) (x : Str) (sg : Scope) (g : Addr) (cdg : Value) (bg : List Stmt) (a : Str) (q : Str) (TT : (XK → Hp → VK → Prop) → XK → Hp → VK → Prop) : Prop :=
  ∀ (f c' : Addr) (s : Shared) (H : Hp) (Q : VK) (E0 : XK) (tl : XK → Hp → VK → Prop), Room (k + 1) (X.A.deeper (envOfC x sg s.heap.objs.size g cdg)) →
    (∀ (W : WX) (pn : List (Addr × Obj)) (xe : Value → Shared → Prop) (E : XK) (p1 p2 : Pos), Takes ((cxOf (L2.CX X.prog X.w) X.prog X.w X.K X.mg X.base Ng x sg g cdg X.A X.stack s H E0).tr pn xe) W → (∀ cls d σ' H', E cls d H' → W cls d σ' H') →
      PE ((cxOf (L2.CX X.prog X.w) X.prog X.w X.K X.mg X.base Ng x sg g cdg X.A X.stack s H E0).tr pn xe) (.Call (.Name a p1) [] [] p2) (fun σZ HZ Q => σZ[0]? = some (some (.ref f)) ∧ HZ c' = some (CodeO c' q) ∧ tl E HZ Q)) →
    H c' = some (CodeO c' q) → TT tl E0 H Q →
    ∃ t, PSs (cxOf (L2.CX X.prog X.w) X.prog X.w X.K X.mg X.base Ng x sg g cdg X.A X.stack s H E0) bg t ∧ t { nx := fun _ H' => Q .non H', rt := Q } (L2.start Ng [.ref f]) H
section
variable {X : Cx} {pins : List (Addr × Obj)} {σ : L2.St} {H : Hp} {s : Shared}
end
section
variable {X : Cx}
end
open L2H in
structure FnQ (P : Program) (w : World) (K : PySem.W.Frag) (mg : Str → Option Value) (base : Heap) (CX : CXT) (k : Nat) (f : Addr) (fd : FuncData) (ps : List Str) (sp : Sp) : Prop where
  len : ∀ vs H Q E, sp vs H Q E → vs.length = ps.length
  go : ∀ (A : Around) (outer : List Env) (s : Shared) (H : Hp) (args : Args) (us : List Value) (vs : List V) (Q : VK) (E : XK) (p : Addr × Obj), RoomH k A → PinOk outer H s p → Env0 P w K mg base A outer s H → BindsTo s fd args (ps.zip us) → Vals vs us → sp vs H Q E →
    codeAny (model P w) A (.call (.ref f) args) (CR CX outer P w H s Q E) s
section
variable {P : Program} {w : World} {K : PySem.W.Frag} {mg : Str → Option Value} {base : Heap} {CX : CXT} {k : Nat} {f : Addr} {fd : FuncData} {ps : List Str} {sp : Sp}
open L2H
end
section
variable {X : Cx} {CX : CXT} {k : Nat} {f : Addr} {fd : FuncData} {sp : Sp} {E : XK} {x : Str} {q pos : Pos}
open L2H
end
def THeard (K : PySem.W.Frag) (tabs : Tf) (CS : Addr) (f1 f2 w0 bad : Str) (n0 : Int) : (XK → Hp → VK → Prop) → XK → Hp → VK → Prop := fun tl E0 H Q => ∃ p : Qt, p.tf = tabs ∧ ∀ Q' : VK, (∀ v H', Q v H' → Q' v H') →
  tl (fun cls d H' => (PySem.W.exmOne K cls (.ref CS) = some false ∧ E0 cls d H') ∨ (cls = .ref CS ∧ ∃ (F : List Addr) (dd : Addr) (fs : List (Str × V)) (w : Str) (n : Int), PkF p F H' ∧ d = some dd ∧ H' dd = some (.xd fs) ∧ fs.lookup f1 = some (.str w) ∧ fs.lookup f2 = some (.int n) ∧
    (shp 60 (.tup [.str w, .int n]) = true ∧ shp 60 (.tup [.str w0, .int n0]) = true) ∧
    ∀ H'', Ex p H' H'' → Q (if PyData.eqv (toP (.tup [.str w, .int n])) (toP (.tup [.str w0, .int n0])) = true then .non else .str bad) H'')) H Q'
section
variable {X : Cx}
open L2H
end
def xHeard (C : Str) (L : List Str) (f1 f2 w0 bad : Str) (n0 : Int) (d : DEX) : DEX := fun τ R xe => d τ R fun x => x.c ∈ L ∧ if x.c = C then ∃ (w : Str) (n : Int), x.fs.lookup f1 = some (.str w) ∧ x.fs.lookup f2 = some (.int n) ∧
  (shp 60 (.tup [.str w, .int n]) = true ∧ shp 60 (.tup [.str w0, .int n0]) = true) ∧ R (if PyData.eqv (toP (.tup [.str w, .int n])) (toP (.tup [.str w0, .int n0])) = true then .non else .str bad) else xe x
theorem Ex.tabs {p : Qt} {H H1 : Hp} (h : Pk p H) (ht : p.tf.tabs = []) (e : ExtN H H1) (T : Tabs p.tf.lts H1) : Ex p H H1 := by
  refine ⟨fun b o _ nt q => e b o q nt, ?_, fun t hm => ?_, T, h.lp⟩
  · obtain ⟨x, y, g1, g2, g3, g4⟩ := h.at_
    exact ⟨x, y, g1, g2, g3, e _ _ g4 fun _ z => nomatch z⟩
  · rw [show p.tabs = [] from ht] at hm
    cases hm
section
variable {X : Cx} {p : Qt}
end
def tDSX (K : PySem.W.Frag) (p : Qt) (E0 : L2.St → XK) (d : DSX) : TS := fun D σ H => ∃ (g : Gd) (F : List Addr) (τ : Sl) (E' : DEn) (xe : Sl → XD → Prop), Rel K p g F σ H τ ∧ d E' xe τ ∧ Agree K p g E' D ∧ AgX K p g xe E0
def xTry (C : Str) (L : List Str) (db : DSX) (dh : DS) : DSX := fun E xe τ => db E (fun τ' x => x.c ∈ L ∧ if x.c = C then dh E τ' else xe τ' x) τ
end DL
namespace DL
open PySem PySem.Spec L2
open PyProof.Rows hiding St
def spIni0 (C : Addr) : Sp := fun vs H Q _ => ∃ a : Addr, vs = [.ref a] ∧ Q .non H
def spIni1 (C : Addr) (f1 : Str) : Sp := fun vs H Q _ => ∃ (a : Addr) (v1 : V), vs = [.ref a, v1] ∧ H a = some (exo a C none) ∧ ∀ dx, H dx = none → dx ≠ a → Q .non (upd (upd H a (exo a C (some dx))) dx (exd dx [(f1, v1)]))
def spIni2 (C : Addr) (f1 f2 : Str) : Sp := fun vs H Q _ => ∃ (a : Addr) (v1 v2 : V), vs = [.ref a, v1, v2] ∧ H a = some (exo a C none) ∧ ∀ dx, H dx = none → dx ≠ a → Q .non (upd (upd (upd H a (exo a C (some dx))) dx (exd dx [(f1, v1)])) dx (exd dx [(f2, v2), (f1, v1)]))
section
variable {CX : CXT} {P : Program} {w : World} {K : PySem.W.Frag} {mg : Str → Option Value} {base : Heap} {k : Nat} {f C : Addr} {qual : Str} {params : Arguments} {scope : Scope} {dV kV doc pm cdv ct oc : Value} {an od : Option Addr} {osl : Array (Option Value)} {B newId initId : String} {bmB : List Value}
theorem ini1_ok {f1 n1 : Str} {p1 p2 p3 p4 : Pos} (T : OxG K C B newId initId bmB) (hn1 : PySem.W.findIn K (.ref C) f1 = some none)
    (lk : K.lookup f = some ⟨oc, od, .func (PySem.W.fnOf "__init__" qual params [.Assign [.Attribute (.Name "self" p1) f1 p2] (.Name n1 p3) p4] scope dV kV doc pm an cdv ct), osl⟩) (hcd : PySem.W.codeIn K cdv qual = true) (S : FnScope ["self", n1] ["self", n1] scope)
    (v0 : Vis scope "self") (v1 : Vis scope n1) (d1 : (n1 == ("__debug__" : Str)) = false) (c1 : (n1 == ("__classdict__" : Str)) = false) :
    FnOk P w K mg base CX (k + 1) f (PySem.W.fnOf "__init__" qual params [.Assign [.Attribute (.Name "self" p1) f1 p2] (.Name n1 p3) p4] scope dV kV doc pm an cdv ct) ["self", n1] (spIni1 C f1) := by
  refine fn_of lk hcd S (fun vs H Q E h => ?_) fun A outer s H vs Q E hr h => ?_
  · obtain ⟨a, x1, rfl, _⟩ := h
    rfl
  · obtain ⟨a, x1, rfl, e, q⟩ := h
    refine ⟨_, pss_one (ps_put (B := B) (newId := newId) (initId := initId) (bmB := bmB) (pe_var (i := 0) rfl v0) (pe_var (i := 1) rfl v1 d1 c1)), ?_⟩
    exact ⟨_, rfl, _, rfl, a, C, rfl, T, hn1, .inl ⟨e, q⟩⟩
end
theorem Ex.of_keep {p : Qt} {H H1 : Hp} (h : Pk p H) (e : ∀ b o, H b = some o → H1 b = some o) : Ex p H H1 := by
  refine ⟨fun b o _ _ q => e b o q, ?_, fun t ht => ?_, h.lt.ext e, h.lp⟩
  · obtain ⟨x, y, g1, g2, g3, g4⟩ := h.at_
    exact ⟨x, y, g1, g2, g3, e _ _ g4⟩
  · obtain ⟨ps, g1, g2⟩ := h.tb t ht
    exact ⟨ps, e _ _ g1, g2⟩
section
variable {X : Cx} {p : Qt} {C fI : Addr} {x : Str} {B newId initId : String} {bmB : List Value} {CX : CXT} {k : Nat} {fd : FuncData} {ps : List Str} {pp pos : Pos} {e : Expr} {es : List Expr} {ds : DA}
def mD0 (x : Str) : Sl → (XD → Prop) → Prop := fun _ R => R ⟨x, []⟩
def mD1 (x f1 : Str) (ds : DA) : Sl → (XD → Prop) → Prop := fun τ R => ds τ fun xs => match xs with
  | [x1] => R ⟨x, [(f1, x1)]⟩
  | _ => False
def mD2 (x f1 f2 : Str) (ds : DA) : Sl → (XD → Prop) → Prop := fun τ R => ds τ fun xs => match xs with
  | [x1, x2] => R ⟨x, [(f1, x1), (f2, x2)]⟩
  | _ => False
theorem pdm1 {f1 : Str} (hfn : p.tf.fns = X.mg) (T : OxG X.K C B newId initId bmB) (iC : PySem.W.findIn X.K (.ref C) "__init__" = some (some (.ref fI))) (tI : PySem.W.typeIn X.K (.ref fI) = some (.type "function")) (F1 : FnOk X.prog X.w X.K X.mg X.base CX0 k fI fd ps (spIni1 C f1)) (hr : Room (k + 1) X.A) (hb : L2.Binds X.K fd ps [])
    (hg : Gl X x) (hm : X.mg x = some (.ref C)) (ha : PDA X p (e :: es) ds) (hdb : (x == ("__debug__" : Str)) = false := by decide)
    (he : starEach (e :: es) X.env = (false, eval e X.env) :: starEach es X.env := by rfl) (hpl : (backTo pos (starEach es X.env)).any (·.1) = false := by rfl) : PDM X p (.Call (.Name x pp) (e :: es) [] pos) (mD1 x f1 ds) := by
  obtain ⟨t, h1, h2⟩ := ha.run
  refine ⟨_, pmk_gen T iC tI F1 hr hb (fun _ _ _ _ _ _ _ z => z.elim) hg hm h1 hdb he hpl, fun g F σ H τ Q R rel h q => ?_⟩
  refine h2 g F σ H τ _ _ rel h fun xs vs H1 e1 i1 l1 hh => ?_
  match xs, vs, i1, hh with
  | [x1], [v1], .cons i1 .nil, hh =>
  refine ⟨by simp, fun a ha => ⟨a, v1, rfl, upd_same, fun dx hd ne => ⟨rfl, .inl ⟨dx, [(f1, v1)], ?_, upd_same, ?_, ?_⟩⟩⟩⟩
  · rw [upd_ne (fun z => ne z.symm), upd_same]
  · rw [upd_ne ne] at hd
    exact hd
  · have hd1 : H1 dx = none := by
      rw [upd_ne ne] at hd
      exact hd
    have e2 : Ex p H1 (upd (del (upd (upd (upd H1 a (exo a C none)) a (exo a C (some dx))) dx (exd dx [(f1, v1)])) a) dx (.xd [(f1, v1)])) := .of_keep e1.pk fun b o z => by
      have b1 : b ≠ dx := ne_of_none z hd1
      have b2 : b ≠ a := ne_of_none z ha
      rw [upd_ne b1, del_ne b2, upd_ne b1, upd_ne b2, upd_ne b2]
      exact z
    refine q ⟨x, [(f1, x1)]⟩ _ _ _ (e1.trans e2) ⟨⟨C, by rw [hfn]; exact hm, rfl⟩, fun z hz => ?_⟩ hh
    obtain rfl := List.mem_singleton.mp hz
    exact ⟨dx, _, v1, rfl, upd_same, by simp [List.lookup], i1.mono e2.kp⟩
end
end DL
namespace DL
open PySem PySem.Spec L2 LamX L2H
open PyProof.Rows hiding St
structure Catch (K : PySem.W.Frag) (mg : Str → Option Value) (C : Str) (L : List Str) : Prop where
  ex : ∃ CS : Addr, mg C = some (.ref CS) ∧ PySem.W.exmOne K (.ref CS) (.ref CS) = some true ∧ ∀ y ∈ L, y ≠ C → ∃ a : Addr, mg y = some (.ref a) ∧ PySem.W.exmOne K (.ref a) (.ref CS) = some false
structure Mk0 (P : Program) (w : World) (K : PySem.W.Frag) (mg : Str → Option Value) (base : Heap) (x : Str) (k : Nat) : Prop where
  ex : ∃ (C fI : Addr) (B newId initId : String) (bmB : List Value) (fd : FuncData) (ps : List Str), mg x = some (.ref C) ∧ OxG K C B newId initId bmB ∧ PySem.W.findIn K (.ref C) "__init__" = some (some (.ref fI)) ∧ PySem.W.typeIn K (.ref fI) = some (.type "function") ∧ FnOk P w K mg base CX0 k fI fd ps (spIni0 C) ∧ L2.Binds K fd ps []
structure Mk1 (P : Program) (w : World) (K : PySem.W.Frag) (mg : Str → Option Value) (base : Heap) (x f1 : Str) (k : Nat) : Prop where
  ex : ∃ (C fI : Addr) (B newId initId : String) (bmB : List Value) (fd : FuncData) (ps : List Str), mg x = some (.ref C) ∧ OxG K C B newId initId bmB ∧ PySem.W.findIn K (.ref C) "__init__" = some (some (.ref fI)) ∧ PySem.W.typeIn K (.ref fI) = some (.type "function") ∧ FnOk P w K mg base CX0 k fI fd ps (spIni1 C f1) ∧ L2.Binds K fd ps []
structure Mk2 (P : Program) (w : World) (K : PySem.W.Frag) (mg : Str → Option Value) (base : Heap) (x f1 f2 : Str) (k : Nat) : Prop where
  ex : ∃ (C fI : Addr) (B newId initId : String) (bmB : List Value) (fd : FuncData) (ps : List Str), mg x = some (.ref C) ∧ OxG K C B newId initId bmB ∧ PySem.W.findIn K (.ref C) "__init__" = some (some (.ref fI)) ∧ PySem.W.typeIn K (.ref fI) = some (.type "function") ∧ FnOk P w K mg base CX0 k fI fd ps (spIni2 C f1 f2) ∧ L2.Binds K fd ps []
section
variable {X : Cx} {p : Qt} {x f1 f2 : Str} {k j : Nat} {pp pos : Pos} {e : Expr} {es : List Expr} {ds : DA}
theorem pdmC1 (M : Mk1 X.prog X.w X.K X.mg X.base x f1 j) (hfn : p.tf.fns = X.mg) (hr : Room k X.A) (ha : PDA X p (e :: es) ds) (hj : j + 1 ≤ k := by decide) (hg : Gl X x := by rfl) (hdb : (x == ("__debug__" : Str)) = false := by decide)
    (he : starEach (e :: es) X.env = (false, eval e X.env) :: starEach es X.env := by rfl) (hpl : (backTo pos (starEach es X.env)).any (·.1) = false := by rfl) : PDM X p (.Call (.Name x pp) (e :: es) [] pos) (mD1 x f1 ds) := by
  obtain ⟨C, fI, B, newId, initId, bmB, fd, ps, hm, T, iC, tI, F1, hb⟩ := M.ex
  exact pdm1 hfn T iC tI F1 (hr.mono hj) hb hg hm ha hdb he hpl
end
structure Hears (P : Program) (w : World) (K : PySem.W.Frag) (mg : Str → Option Value) (base : Heap) (tabs : Tf) (x a C f1 f2 w0 bad : Str) (n0 : Int) (L : List Str) (kT : Nat) : Prop where
  ex : ∃ (g CS : Addr) (pg : Arguments) (bg : List Stmt) (sg : Scope) (dV kV doc pm cdv ct oc : Value) (an od : Option Addr) (osl : Array (Option Value)) (Ng : List Str),
    mg C = some (.ref CS) ∧ (∀ y ∈ L, y ≠ C → ∃ a : Addr, mg y = some (.ref a) ∧ PySem.W.exmOne K (.ref a) (.ref CS) = some false) ∧ mg x = some (.ref g) ∧ PySem.W.keepIn K (.ref g) = true ∧
    K.lookup g = some ⟨oc, od, .func (PySem.W.fnOf x x pg bg sg dV kV doc pm an cdv ct), osl⟩ ∧ PySem.W.codeIn K cdv x = true ∧ L2.Binds K (PySem.W.fnOf x x pg bg sg dV kV doc pm an cdv ct) [a] [] ∧ FnScope Ng [a] sg ∧ Ng[0]? = some a ∧ Vis sg a ∧
    ∀ (X : Cx) (k : Nat) (q : Str), X.prog = P → X.w = w → X.K = K → X.mg = mg → X.base = base → kT ≤ k + 1 → GivesX X k Ng x sg g cdv bg a q (THeard K tabs CS f1 f2 w0 bad n0)
section
variable {P : Program} {w : World} {K : PySem.W.Frag} {mg : Str → Option Value} {base : Heap} {tabs : Tf} {k : Nat} {ps : List Str} {sp : SpD} {kb : List (List Str × Nat × List Nat)}
end
section
variable {X : Cx} {p : Qt}
end
end DL
namespace DL
open PySem PySem.Spec L2 LamX L2H
open PyProof.Rows hiding St
theorem CalX.cal {P : Program} {w : World} {K : PySem.W.Frag} {mg : Str → Option Value} {base : Heap} {tabs : Tf} {x : Str} {k n : Nat} {ps : List Str} {kb : List (List Str × Nat × List Nat)} {sp : SpX} {p : Qt} (C : CalX P w K mg base tabs x k n ps kb sp) (h : p.tf = tabs) : CalX P w K mg base p.tf x k n ps kb sp := by
  rw [h]
  exact C
theorem Hears.at {P : Program} {w : World} {K : PySem.W.Frag} {mg : Str → Option Value} {base : Heap} {tabs : Tf} {x a C f1 f2 w0 bad : Str} {n0 : Int} {L : List Str} {kT : Nat} {p : Qt} (HE : Hears P w K mg base tabs x a C f1 f2 w0 bad n0 L kT) (h : p.tf = tabs) : Hears P w K mg base p.tf x a C f1 f2 w0 bad n0 L kT := by
  rw [h]
  exact HE
section
variable {P : Program} {w : World} {K : PySem.W.Frag} {mg : Str → Option Value} {base : Heap}
theorem oxg_of {C : Addr} {B newId initId : String} (F : ExcBaseFacts B newId initId (bmOf B)) (S : StoreFacts B (bmOf B) "object.__setattr__" "object") (h : exgB K C (bmOf B) newId = true) : OxG K C B newId initId (bmOf B) := by
  obtain ⟨h1, h⟩ := Bool.and_eq_true_iff.mp h
  obtain ⟨h2, h⟩ := Bool.and_eq_true_iff.mp h
  obtain ⟨h3, h⟩ := Bool.and_eq_true_iff.mp h
  obtain ⟨h4, h⟩ := Bool.and_eq_true_iff.mp h
  obtain ⟨h5, h⟩ := Bool.and_eq_true_iff.mp h
  obtain ⟨h6, h7⟩ := Bool.and_eq_true_iff.mp h
  exact ⟨F, S, h1, h2, h3, He.eqO_ok h4, of_decide_eq_true h5, of_decide_eq_true h6, h7⟩
theorem mth_of {C : Addr} {m : Str} (h : mthB K C m = true) : PySem.W.findIn K (.ref C) m = some (some (.ref (He.ma K C m))) ∧ PySem.W.typeIn K (.ref (He.ma K C m)) = some (.type "function") := by
  obtain ⟨h1, h2⟩ := Bool.and_eq_true_iff.mp h
  exact ⟨He.eqO_ok h1, of_decide_eq_true h2⟩
theorem keep_fn {f : Addr} {oc : Value} {od : Option Addr} {fd : FuncData} {osl : Array (Option Value)} (l : K.lookup f = some ⟨oc, od, .func fd, osl⟩) : PySem.W.keepIn K (.ref f) = true := by
  unfold PySem.W.keepIn
  dsimp only
  rw [l]
theorem binds_of {f : Addr} {x qual : Str} {st : Stmt} {ps : List Str} {oc kV doc pm cdv ct : Value} {od an : Option Addr} {osl : Array (Option Value)} (l : K.lookup f = some ⟨oc, od, .func (PySem.W.fnOf x qual (defArgs st) (defBody st) (defScope st) .none kV doc pm an cdv ct), osl⟩) (c : PySem.W.codeIn K cdv qual = true)
    (hb : ∀ (kV doc pm : Value) (an : Option Addr) (cdv ct : Value) (us : List Value), us.length = ps.length → bindArgs (PySem.W.fnOf x qual (defArgs st) (defBody st) (defScope st) .none kV doc pm an cdv ct) ⟨us, []⟩ = pure (ps.zip us)) : L2.Binds K (PySem.W.fnOf x qual (defArgs st) (defBody st) (defScope st) .none kV doc pm an cdv ct) ps [] :=
  (fun_mk l c (keep_fn l)).binds hb
theorem mk1_of {x : Str} {C : Addr} {B newId initId : String} {qual : Str} {params : Arguments} {scope : Scope} {dV kV doc pm cdv ct oc : Value} {an od : Option Addr} {osl : Array (Option Value)} {f1 n1 : Str} {p1 p2 p3 p4 : Pos} (m : mg x = some (.ref C)) (T : OxG K C B newId initId (bmOf B)) (hm : mthB K C "__init__" = true)
    (hn1 : PySem.W.findIn K (.ref C) f1 = some none)
    (lk : K.lookup (He.ma K C "__init__") = some ⟨oc, od, .func (PySem.W.fnOf "__init__" qual params [.Assign [.Attribute (.Name "self" p1) f1 p2] (.Name n1 p3) p4] scope dV kV doc pm an cdv ct), osl⟩) (hcd : PySem.W.codeIn K cdv qual = true) (S : FnScope ["self", n1] ["self", n1] scope)
    (hb : L2.Binds K (PySem.W.fnOf "__init__" qual params [.Assign [.Attribute (.Name "self" p1) f1 p2] (.Name n1 p3) p4] scope dV kV doc pm an cdv ct) ["self", n1] [])
    (v0 : scope.names.lookup ("self" : Str) = some .local) (v1 : scope.names.lookup n1 = some .local) (d1 : (n1 == ("__debug__" : Str)) = false := by decide) (c1 : (n1 == ("__classdict__" : Str)) = false := by decide) : Mk1 P w K mg base x f1 1 :=
  ⟨C, _, B, newId, initId, _, _, _, m, T, (mth_of hm).1, (mth_of hm).2, ini1_ok T hn1 lk hcd S (.inl v0) (.inl v1) d1 c1, hb⟩
theorem exm_of {x y : Str} {b : Bool} (h : (He.Fa.exm x y b).ok K = true) : PySem.W.exmOne K (.ref (He.ga K x)) (.ref (He.ga K y)) = some b := of_decide_eq_true h
end
end DL
namespace DL
open PySem PySem.Spec L2
open PyProof.Rows hiding St
section
variable {X : Cx} {p : Qt}
def gAddS : D → D → (D → Prop) → Prop := fun x y R => match x, y with
  | .str a, .str b => a.length + b.length ≤ 16777216 ∧ R (.str (a ++ b))
  | x, y => gAdd x y R
theorem opd_addS : OpD X p (binaryOp .Add) gAddS := by
  obtain ⟨r1, a1, a2⟩ := opd_add (X := X) (p := p)
  refine ⟨_, a1.or op_add_str, fun F H x y v u Q R pk ix iy hh q => ?_⟩
  unfold gAddS at hh
  split at hh
  · cases ix
    cases iy
    exact .inr ⟨_, _, rfl, rfl, by rw [sizeLine_eq]; exact hh.1, q _ _ H (.refl pk.pk) (.str _) hh.2⟩
  · exact .inl (a2 F H _ _ _ _ Q R pk ix iy hh q)
def repS (a : Str) (n : Nat) : Str := ⟨(List.replicate n a.cps.toList).flatten.toArray⟩
theorem rep_fold (c : Array Nat) : ∀ (n : Nat) (z : Array Nat), (List.replicate n c).foldl (· ++ ·) z = z ++ (List.replicate n c.toList).flatten.toArray
  | 0, z => by simp
  | n + 1, z => by
    rw [List.replicate_succ, List.foldl_cons, rep_fold c n, List.replicate_succ, List.flatten_cons]
    apply Array.toList_inj.mp
    simp
theorem op_mul_str : OpR X (binaryOp .Mult) (fun x y H Q => ∃ (a : Str) (n : Int), x = .str a ∧ y = .int n ∧ n ≤ 1000000 ∧ -1000000 ≤ n ∧ a.length ≤ 1 ∧ Q (.str (repS a n.toNat)) H) := by
  intro pins s σ H x y v u Q I rx ry h
  obtain ⟨a, n, rfl, rfl, h1, h2, h3, q⟩ := h
  obtain ⟨t, rfl⟩ := rx
  obtain ⟨t', rfl⟩ := ry
  have e1 : decide (n < -(2 ^ 63 : Int)) = false := decide_eq_false (by omega)
  have e2 : decide (n ≥ 2 ^ 63) = false := decide_eq_false (by omega)
  have hn := sizeLine_eq
  refine P.mul_str (by rw [e1, e2]; rfl) (fun h4 _ => ?_) (fun h4 _ => ?_) ?_
  · have : (9223372036854775807 : Int) / n ≥ 9223372036854 := by
      have h5 : (1 : Int) ≤ n := by omega
      exact Int.le_ediv_of_mul_le (by omega) (by omega)
    show ¬ ((a.length : Int) > (2 ^ 63 - 1) / n)
    have e3 : ((2 : Int) ^ 63 - 1) = 9223372036854775807 := by decide
    rw [e3]
    omega
  · unfold Builtin.Str.tooLong
    refine decide_eq_false ?_
    have h6 : a.length * n.toNat ≤ 1 * 1000000 := Nat.mul_le_mul h3 (by omega)
    omega
  · by_cases c : n < 1
    · rw [if_pos c]
      have e3 : n.toNat = 0 := by omega
      rw [e3] at q
      exact ⟨by rw [hn]; decide, .str (repS a 0), H, I.tok _, ⟨_, rfl⟩, q⟩
    · rw [if_neg c]
      by_cases d : (n == 1 || a.length == 0) = true
      · rw [if_pos d]
        have e3 : repS a n.toNat = a := by
          unfold repS
          rcases Bool.or_eq_true_iff.mp d with z | z
          · rw [beq_iff_eq.mp z]
            simp
          · have z' : a.cps.toList = [] := by
              have := beq_iff_eq.mp z
              exact List.eq_nil_of_length_eq_zero (by simpa [Str.length] using this)
            have e4 : ∀ n : Nat, (List.replicate n ([] : List Nat)).flatten = [] := fun n => by simp
            rw [z', e4]
            have : a.cps = #[] := Array.toList_inj.mp z'
            cases a
            simp_all
        rw [e3] at q
        exact ⟨.str a, H, I, ⟨_, rfl⟩, q⟩
      · rw [if_neg d]
        have e3 : List.foldl (· ++ ·) #[] (List.replicate n.toNat a.cps) = (repS a n.toNat).cps := by
          rw [rep_fold]
          simp [repS]
        refine ⟨?_, .str (repS a n.toNat), H, I.tok _, ⟨s.toks, ?_⟩, q⟩
        · show (List.foldl (· ++ ·) #[] (List.replicate n.toNat a.cps)).size ≤ _
          rw [e3, hn]
          have h6 : a.cps.toList.length ≤ 1 := h3
          have h7 : (List.replicate n.toNat a.cps.toList).flatten.length = n.toNat * a.cps.toList.length := by simp
          show ((List.replicate n.toNat a.cps.toList).flatten.toArray).size ≤ _
          rw [List.size_toArray, h7]
          have := Nat.mul_le_mul_left n.toNat h6
          omega
        · show Value.str ⟨List.foldl (· ++ ·) #[] (List.replicate n.toNat a.cps)⟩ s.toks = .str (repS a n.toNat) s.toks
          rw [e3]
def gMulS : D → D → (D → Prop) → Prop := fun x y R => match x, y with
  | .str a, .int n => (n ≤ 1000000 ∧ -1000000 ≤ n ∧ a.length ≤ 1) ∧ R (.str (repS a n.toNat))
  | x, y => gMul x y R
theorem opd_mulS : OpD X p (binaryOp .Mult) gMulS := by
  obtain ⟨r1, a1, a2⟩ := opd_mul (X := X) (p := p)
  refine ⟨_, a1.or op_mul_str, fun F H x y v u Q R pk ix iy hh q => ?_⟩
  unfold gMulS at hh
  split at hh
  · cases ix
    cases iy
    exact .inr ⟨_, _, rfl, rfl, hh.1.1, hh.1.2.1, hh.1.2.2, q _ _ H (.refl pk.pk) (.str _) hh.2⟩
  · exact .inl (a2 F H _ _ _ _ Q R pk ix iy hh q)
def gSlS (d : DE) (lo hi : DO) : DE := fun τ R => d τ fun x => lo τ fun a => hi τ fun b => match x with
  | .str z => z.length ≤ 16777216 ∧ R (.str (cutS z a b))
  | _ => False
theorem pd_slS {e : Expr} {lo hi : Option Expr} {pos p2 : Pos} {d : DE} {dl dh : DO} (he : PD X p e d) (hl : PDO X p lo dl) (hh : PDO X p hi dh) : PD X p (.Subscript e (.Slice lo hi none p2) pos) (gSlS d dl dh) := by
  obtain ⟨t, h1, h2⟩ := he.run
  obtain ⟨tl, l1, l2⟩ := hl.run
  obtain ⟨th, k1, k2⟩ := hh.run
  refine ⟨_, pe_slice sl_str h1 l1 k1, fun g0 F σ H τ Q R rel h q => ?_⟩
  refine h2 g0 F σ H τ _ _ rel h fun x v H1 e1 i1 h1 => ?_
  refine l2 g0 F σ H1 τ _ _ (rel.st e1) h1 fun a H2 e2 h2 => ?_
  refine k2 g0 F σ H2 τ _ _ ((rel.st e1).st e2) h2 fun b H3 e3 h3 => ?_
  cases i1 with
  | str z => exact ⟨z, rfl, by rw [sizeLine_eq]; exact h3.1, q _ _ H3 ((e1.trans e2).trans e3) (.str _) h3.2⟩
  | _ => exact h3.elim
def gIxS : D → D → (D → Prop) → Prop := fun x y R => match x, y with
  | .str z, .int i => z.length ≤ 16777216 ∧ match L2.atI z.cps.toList i with
    | some c => R (.str ⟨#[c]⟩)
    | none => False
  | _, _ => False
theorem pd_ixS {a b : Expr} {da db : DE} {pos : Pos} (ha : PD X p a da) (hb : PD X p b db) (hs : PlainIx b := by exact fun _ _ => rfl) : PD X p (.Subscript a b pos) (dOp gIxS da db) := by
  obtain ⟨ta, a1, a2⟩ := ha.run
  obtain ⟨tb, b1, b2⟩ := hb.run
  refine ⟨_, pe_ix ix_str a1 b1 hs, op_run (fun F H x y v u Q R pk ix iy hh q => ?_) a2 b2⟩
  unfold gIxS at hh
  split at hh
  · cases ix
    cases iy
    obtain ⟨h1, hh⟩ := hh
    split at hh
    · rename_i c e
      exact ⟨_, _, c, rfl, rfl, by rw [sizeLine_eq]; exact h1, e, q _ _ H (.refl pk.pk) (.str _) hh⟩
    · exact hh.elim
  · exact hh.elim
def cLenS : List D → (D → Prop) → Prop := fun xs R => match xs with
  | [.str z] => z.length ≤ 16777216 ∧ R (.int z.length)
  | xs => cLen xs R
theorem cd_lenS : CallD X p (.builtin "len") cLenS := by
  obtain ⟨r1, a1, a2⟩ := cd_len (X := X) (p := p)
  refine ⟨_, a1.or call_len_str, fun F H xs vs Q R pk ix hh q => ?_⟩
  unfold cLenS at hh
  split at hh
  · cases ix with
    | cons i1 i2 =>
      cases i2
      cases i1
      exact .inr ⟨_, rfl, by rw [sizeLine_eq]; exact hh.1, q _ _ H (.refl pk.pk) (.int _) hh.2⟩
  · exact .inl (a2 F H _ _ Q R pk ix hh q)
def gInS : D → D → (D → Prop) → Prop := fun x y R => match x, y with
  | .str ⟨⟨[c]⟩⟩, .str z => R (.bl (decide (c ∈ z.cps.toList)))
  | _, _ => False
theorem opd_inS : OpD X p (compareOp .In) gInS := by
  refine ⟨_, op_in_sign, fun F H x y v u Q R pk ix iy hh q => ?_⟩
  unfold gInS at hh
  split at hh
  · cases ix
    cases iy
    exact ⟨_, _, rfl, rfl, q _ _ H (.refl pk.pk) (.bl _) hh⟩
  · exact hh.elim
def cStrI : List D → (D → Prop) → Prop := fun xs R => match xs with
  | [.int i] => i.natAbs.log2 < 1920 ∧ R (.str (toString i))
  | _ => False
theorem cd_strI : CallD X p (.type "str") cStrI := by
  refine ⟨_, call_str_int, fun F H xs vs Q R pk ix hh q => ?_⟩
  unfold cStrI at hh
  split at hh
  · cases ix with
    | cons i1 i2 =>
      cases i2
      cases i1
      exact ⟨_, rfl, hh.1, q _ _ H (.refl pk.pk) (.str _) hh.2⟩
  · exact hh.elim
def cIntS : List D → (D → Prop) → Prop := fun xs R => match xs with
  | [.str a] => a.length ≤ 640 ∧ match PySem.intText? a with
    | some n => R (.int n)
    | none => False
  | xs => cInt xs R
theorem cd_intS : CallD X p (.type "int") cIntS := by
  obtain ⟨r1, a1, a2⟩ := cd_int (X := X) (p := p)
  refine ⟨_, a1.or call_int_str, fun F H xs vs Q R pk ix hh q => ?_⟩
  unfold cIntS at hh
  split at hh
  · cases ix with
    | cons i1 i2 =>
      cases i2
      cases i1
      obtain ⟨h1, hh⟩ := hh
      split at hh
      · rename_i n e
        exact .inr ⟨_, n, rfl, e, h1, q _ _ H (.refl pk.pk) (.int _) hh⟩
      · exact hh.elim
  · exact .inl (a2 F H _ _ Q R pk ix hh q)
theorem pd_gstr {x z : Str} {t : Tok} {pos : Pos} (hg : Gl X x) (hm : X.mg x = some (.str z t)) (hd : (x == ("__debug__" : Str)) = false := by decide) : PD X p (.Name x pos) (dC (.str z)) :=
  ⟨_, pe_glob (v := .str z) hg hm ⟨t, rfl⟩ hd, fun g0 F σ H τ Q R rel h q => q _ _ H (.refl rel.pk) (.str z) h⟩
def strsOf : List D → Option (List Str)
  | [] => some []
  | .str a :: l => (strsOf l).map (a :: ·)
  | _ :: _ => none
theorem strs_is {K : PySem.W.Frag} {F : List Addr} {H : Hp} : ∀ {vs : List V} {l : List D} {ys : List Str}, IsL K p F H vs l → strsOf l = some ys → vs = ys.map V.str
  | _, [], ys, h, e => by
    cases h
    cases e
    rfl
  | _, d :: l, ys, h, e => by
    cases h with
    | cons i1 i2 =>
      cases d with
      | str a =>
        obtain ⟨zs, e1, e2⟩ := Option.map_eq_some_iff.mp (show (strsOf l).map (a :: ·) = some ys from e)
        subst e2
        cases i1
        rw [strs_is i2 e1]
        rfl
      | _ => cases e
def gJ (a : Str) (y : D) (R : D → Prop) : Prop := match y with
  | .lst l => (match strsOf l with
    | some ys => (ys.map (·.length)).sum + ys.length * a.length ≤ 16777216 ∧ R (.str (Txt.join a ys))
    | none => False)
  | _ => False
def dJoin (d de : DE) : DE := fun τ R => d τ fun x => match x with
  | .str a => de τ fun y => gJ a y R
  | _ => False
theorem pd_join {o e : Expr} {d de : DE} {apos pos : Pos} (ho : PD X p o d) (he : PD X p e de) (hs : starEach [e] X.env = [(false, eval e X.env)] := by rfl) (hbase : attributeBase o "join" X.env (eval o X.env) = eval o X.env := by rfl) (hline : (apos.endLine == pos.line) = true := by rfl) :
    PD X p (.Call (.Attribute o "join" apos) [e] [] pos) (dJoin d de) := by
  obtain ⟨t, h1, h2⟩ := ho.run
  obtain ⟨u, k1, k2⟩ := he.run
  refine ⟨_, pe_join h1 k1 hs hbase hline, fun g F σ H τ Q R rel h q => ?_⟩
  refine h2 g F σ H τ _ _ rel h fun x v H1 e1 i1 h1 => ?_
  cases i1 with
  | str a =>
    refine ⟨⟨a, rfl⟩, k2 g F σ H1 τ _ _ (rel.st e1) h1 fun y w H2 e2 i2 h2 => ?_⟩
    cases i2 with
    | @lst b vs l hs hn hl =>
      have h2 : (match strsOf l with
        | some ys => (ys.map (·.length)).sum + ys.length * a.length ≤ 16777216 ∧ R (.str (Txt.join a ys))
        | none => False) := h2
      split at h2
      · rename_i ys es
        rw [strs_is hl es] at hs
        exact ⟨_, b, ys, rfl, rfl, .inl (Rdl.sq hs), h2.1, q _ _ H2 (e1.trans e2) (.str _) h2.2⟩
      · exact h2.elim
    | _ => exact h2.elim
  | _ => exact h1.elim
def dZfill (d de : DE) : DE := fun τ R => d τ fun x => match x with
  | .str a => de τ fun y => match y with
    | .int i => PadOk i = true ∧ R (.str (Txt.zfill a i))
    | _ => False
  | _ => False
theorem pd_zfill {o e : Expr} {d de : DE} {apos pos : Pos} (ho : PD X p o d) (he : PD X p e de) (hs : starEach [e] X.env = [(false, eval e X.env)] := by rfl) (hbase : attributeBase o "zfill" X.env (eval o X.env) = eval o X.env := by rfl) (hline : (apos.endLine == pos.line) = true := by rfl) :
    PD X p (.Call (.Attribute o "zfill" apos) [e] [] pos) (dZfill d de) := by
  obtain ⟨t, h1, h2⟩ := ho.run
  obtain ⟨u, k1, k2⟩ := he.run
  refine ⟨_, pe_m1 F.slot_str_zfill F.type_str_zfill mt_zfill h1 k1 hs hbase hline, fun g F σ H τ Q R rel h q => ?_⟩
  refine h2 g F σ H τ _ _ rel h fun x v H1 e1 i1 h1 => ?_
  cases i1 with
  | str a =>
    refine ⟨⟨a, rfl⟩, k2 g F σ H1 τ _ _ (rel.st e1) h1 fun y w H2 e2 i2 h2 => ?_⟩
    cases i2 with
    | int i => exact ⟨_, _, rfl, rfl, h2.1, q _ _ H2 (e1.trans e2) (.str _) h2.2⟩
    | _ => exact h2.elim
  | _ => exact h1.elim
end
abbrev DAX := Sl → (List D → Prop) → (XD → Prop) → Prop
structure PDAX (X : Cx) (p : Qt) (E0 : L2.St → XK) (es : List Expr) (d : DAX) : Prop where
  run : ∃ t, PA X es t ∧ ∀ (g : Gd) (F : List Addr) (σ : L2.St) (H : Hp) (τ : Sl) (Q : List V → Hp → Prop) (R : List D → Prop) (xe : XD → Prop), Rel X.K p g F σ H τ → d τ R xe → (∀ xs vs H', Ex p H H' → IsL X.K p F H' vs xs → vs.length = es.length → R xs → Q vs H') →
    (∀ x cls dd H', Ex p H H' → IsXD X.K p F H' cls dd x → xe x → E0 σ cls dd H') → t σ H Q
section
variable {X : Cx} {p : Qt} {E0 : L2.St → XK} {e : Expr} {es : List Expr} {dx : DEX} {ds : DAX}
def xaCons (d : DEX) (ds : DAX) : DAX := fun τ R xe => d τ (fun x => ds τ (fun xs => R (x :: xs)) xe) xe
def xaNil : DAX := fun _ R _ => R []
theorem pdax_nil : PDAX X p E0 [] xaNil := ⟨_, pa_nil, fun g F σ H τ Q R xe rel h q _ => q [] [] H (.refl rel.pk) .nil rfl h⟩
theorem pdax_cons (ha : PDX X p E0 e dx) (hr : PDAX X p E0 es ds) (hs : starEach (e :: es) X.env = (false, eval e X.env) :: starEach es X.env := by rfl) : PDAX X p E0 (e :: es) (xaCons dx ds) := by
  obtain ⟨t, h1, h2⟩ := ha.run
  obtain ⟨u, k1, k2⟩ := hr.run
  refine ⟨_, pa_cons h1 k1 hs, fun g F σ H τ Q R xe rel h q qx => ?_⟩
  refine h2 g F σ H τ _ _ xe rel h (fun x v H1 e1 i1 h1 => ?_) qx
  refine k2 g F σ H1 τ _ _ xe (rel.st e1) h1 (fun xs vs H2 e2 i2 l2 h2 => ?_) fun x cls dd H' e2 i r => qx x cls dd H' (e1.trans e2) i r
  exact q _ _ H2 (e1.trans e2) (.cons (i1.mono e2.kp) i2) (by simp [l2]) h2
theorem pdxCA {x : Str} {q pos : Pos} {k j n : Nat} {ps : List Str} {sp : SpD} {kb : List (List Str × Nat × List Nat)} (C : Cal X.prog X.w X.K X.mg X.base p.tf x j n ps kb sp) (hgu : X.A.guards = some []) (hr : Room k X.A) (ha : PDAX X p E0 (e :: es) ds) (hj : j ≤ k := by decide) (hg : Gl X x := by rfl) (hn : (e :: es).length = n := by rfl) (hdb : (x == ("__debug__" : Str)) = false := by decide)
    (he : starEach (e :: es) X.env = (false, eval e X.env) :: starEach es X.env := by rfl) (hpl : (backTo pos (starEach es X.env)).any (·.1) = false := by rfl) : PDX X p E0 (.Call (.Name x q) (e :: es) [] pos) (fun τ R xe => ds τ (fun xs => sp xs R) xe) := by
  obtain ⟨f, fd, F, hm, hk, hb, _⟩ := C.ex
  obtain ⟨t, h1, h2⟩ := ha.run
  refine ⟨_, pe_callG (E := fun _ _ _ => False) F hgu (hr.mono hj) pass0 hg hm hk hb h1 hdb he hpl, fun g F σ H τ Q R xe rel h q qx => ?_⟩
  refine h2 g F σ H τ _ _ xe rel h (fun xs vs H1 e1 i1 l1 hh => ?_) qx
  exact ⟨by rw [l1]; exact hn, p.pot, F, xs, R, (rel.st e1).pkf, i1, hh, fun z v' H' e i r => q z v' H' (e1.trans e) i r⟩
theorem pdx_tup {k : Nat} {pos : Pos} (h : PDAX X p E0 es ds) (hl : es.length ≤ 1000 := by decide) : PDX X p E0 (.Tuple es k pos) (fun τ R xe => ds τ (fun xs => R (.tup xs)) xe) := by
  obtain ⟨t, h1, h2⟩ := h.run
  refine ⟨_, pe_tup h1, fun g F σ H τ Q R xe rel h q qx => ?_⟩
  refine h2 g F σ H τ _ _ xe rel h (fun xs vs H1 e1 i1 l1 h1 => ⟨by rw [l1]; exact Nat.le_of_lt (small1000 hl), fun a ha => ?_⟩) qx
  have e2 : Ex p H1 (upd H1 a (.tup vs)) := .new e1.pk ha
  exact q _ _ _ (e1.trans e2) (.tup (SqT.of upd_same) (e1.pk.ne ha) (i1.mono e2.kp)) h1
end
end DL
namespace DL
open PySem PySem.Spec L2
open PyProof.Rows hiding St
def rIsD (K : PySem.W.Frag) (D a : Addr) (d : Option Addr) : List V → Hp → VK → Prop := fun xs H Q => ∃ (c : V) (cv : Value) (b : Bool) (dd : Addr) (fs : List (Str × V)), xs = [.ref a, c] ∧ d = some dd ∧ H dd = some (.xd fs) ∧ (∀ u, RelV c u → u = cv) ∧ PySem.W.kitOne K (.ref D) cv = some b ∧ Q (.bl b) H
theorem call_isD {X : Cx} {a D : Addr} {d : Option Addr} {oe : Obj} {pn : List (Addr × Obj)} (C : ExcC X.K D) (hz : Zc (.ref D) d oe) (hf : ∃ vs, oe.data = .fields vs) : CallR (X.suite a ((a, oe) :: pn)) (.builtin "isinstance") (rIsD X.K D a d) := by
  intro pins s σ H xs us Q I r h
  obtain ⟨c, cv, b, dd, fs, rfl, ed, ea, hcv, e, q⟩ := h
  cases r with
  | cons rx rr =>
    cases rr with
    | cons rt rr =>
      cases rr
      cases rx
      have ec := hcv _ rt
      subst ec
      subst ed
      obtain ⟨hget, _⟩ := I.pin (a, oe) (List.mem_append.mpr (.inl List.mem_cons_self))
      obtain ⟨vs, hv⟩ := hf
      have hx : ObjOk X.prog X.w H s.heap dd (.xd fs) := I.hok dd _ ea
      obtain ⟨mA, hns, hr⟩ := hx
      obtain ⟨od, ho, hl⟩ := lookIn_ns hns
      have J : PySem.W.InstAt s.heap a oe D (some od) := ⟨hget, hz.1, by unfold PySem.W.notCls; rw [hv] <;> rfl, by rw [hz.2]; exact ho⟩
      have cl : (PySem.W.clsIn X.K D).isSome = true := by
        obtain ⟨cd, hc, _⟩ := PySem.W.any_some C.hd
        rw [hc]
        rfl
      exact PySem.W.kia_one (PySem.W.kitx_exc cl C.hg C.hk C.hs C.ha C.hn C.ht C.hm) I.kIn J e (fun z => nomatch z) fun tk => ⟨.bl b, H, I.kept (t' := tk) fun _ _ z => z, rfl, q⟩
def xTryIs (C : Str) (L : List Str) (f : Str) (i ih : Nat) (db : DSX) : DSX := fun E xe τ => db E (fun τ' x => x.c ∈ L ∧ if x.c = C then ∃ v, x.fs.lookup f = some v ∧ i < τ'.length ∧ ih < τ'.length ∧ E.nx ((τ'.set ih (some (.tup [.non, v]))).set i none) else xe τ' x) τ
theorem pdsx_tryIs {X : Cx} {p : Qt} {E0 : L2.St → XK} {C B n h f : Str} {L : List Str} {CS BS : Addr} {i ih : Nat} {body : List Stmt} {j1 j2 j3 : Nat} {np pos pos' q1 q2 q3 q4 q5 q6 q7 q8 q9 q11 q12 q10 : Pos} {db : DSX} (hs : X.stack = X.env :: X.outer) (hf : X.env.frame = some X.env.locals) (hN : X.N.Nodup) (hi : X.N[i]? = some n) (hln : X.env.scope.names.lookup n = some .local)
    (hih : X.N[ih]? = some h) (hlh : X.env.scope.names.lookup h = some .local) (hne : i ≠ ih) (hfn : p.tf.fns = X.mg) (hg : Gl X C) (hC : X.mg C = some (.ref CS)) (hdb : (C == ("__debug__" : Str)) = false)
    (hex : PySem.W.exmOne X.K (.ref CS) (.ref CS) = some true) (hL : ∀ y ∈ L, y ≠ C → ∃ a : Addr, X.mg y = some (.ref a) ∧ PySem.W.exmOne X.K (.ref a) (.ref CS) = some false) (tk : Takes X fun cls d σ H => E0 σ cls d H)
    (EC : ExcC X.K CS) (hxf : XfC X.K CS) (hno : PySem.W.findIn X.K (.ref CS) f = some none) (hB : X.mg B = some (.ref BS)) (gB : Gl X B) (kit : PySem.W.kitOne X.K (.ref CS) (.ref BS) = some true) (gI : Gl X "isinstance") (mI : X.mg "isinstance" = none)
    (dn : (n == ("__debug__" : Str)) = false) (cn : (n == ("__classdict__" : Str)) = false) (dB : (B == ("__debug__" : Str)) = false)
    (hb : ∀ (E1 : L2.St → XK) (pn : List (Addr × Obj)) (xe : Value → Shared → Prop), Takes (X.tr pn xe) (fun cls d σ H => E1 σ cls d H) → PDSXs (X.tr pn xe) p E1 body db) :
    PDSX X p E0 (.Try body [.ExceptHandler (some (.Name C np)) (some n) [.Assign [.Name h q1] (.IfExp (.Call (.Name "isinstance" q2) [.Name n q3, .Name B q4] [] q5) (.Tuple [.Constant .none j1 q6, .Attribute (.Name n q7) f q8] j2 q9) (.Constant .none j3 q10) q11) q12] pos'] [] [] pos) (xTryIs C L f i ih db) := by
  refine ⟨_, ps_try_as (i := i) (c := .ref CS) (Wout := fun cls d σ H => E0 σ cls d H) (tb := fun W => tDSX X.K p (fun σ cls dd H => W cls dd σ H) db)
    (ts := fun a cls d => fun Dn σ' H => cls = .ref CS ∧ σ'[i]? = some (some (.ref a)) ∧ ∃ (F : List Addr) (dd : Addr) (fs : List (Str × V)) (v : V) (dv : D), PkF p F H ∧ d = some dd ∧ H dd = some (.xd fs) ∧ fs.lookup f = some v ∧ Is X.K p F H v dv ∧ ∀ w H', Ex p H H' → Is X.K p F H' w (.tup [.non, dv]) → Dn.nx (σ'.set ih (some w)) H')
    hs hf hN hi hln ⟨hg, hdb, .inl hC⟩ tk (fun W pn xe tk' _ => ?_) (fun a oe cls d pn hz hd => ?_), fun g F σ H τ E E' xe rel hd ag ax => ?_⟩
  · obtain ⟨t, h1, h2⟩ := (hb (fun σ cls dd H => W cls dd σ H) pn xe tk').run
    exact ⟨fun pins s σ H D I ⟨g, F, τ, E', xx, rel, hd, ag, ax⟩ => h1.run pins s σ H D I (h2 g F σ H τ D E' xx rel hd ag ax)⟩
  · by_cases hc : cls = .ref CS
    · subst hc
      have v1 : PE (X.suite a ((a, oe) :: pn)) (.Name n q3) (tVar i) := pe_var hi (.inl hln) dn cn
      have v2 : PE (X.suite a ((a, oe) :: pn)) (.Name n q7) (tVar i) := pe_var hi (.inl hln) dn cn
      have vB : PE (X.suite a ((a, oe) :: pn)) (.Name B q4) (tC (.ref BS)) := pe_glob (v := .ref BS) gB hB rfl dB
      have call := pe_callB (p := q2) (pos := q5) (call_isD EC hz hd) gI mI PyProof.Rows.boot_isinstance (pa_cons v1 (pa_cons vB pa_nil))
      have fld := pe_xf (X := X) (pos := q8) hxf hno hz hd v2
      have st := pss_one (ps_set (X := X.suite a ((a, oe) :: pn)) (pos := q12) (pos' := q1) hN hih (.inl hlh) (pe_ifExp (pos := q11) (pt_val call (by intro _; rfl)) (pe_tup (x1 := j2) (pos := q9) (pa_cons (pe_non (j := j1) (pos := q6)) (pa_cons fld pa_nil))) (pe_non (j := j3) (pos := q10))) rfl (.inr hlh))
      refine ⟨fun pins s σ' H D I hh => st.run pins s σ' H D I ?_⟩
      obtain ⟨_, e1, F, dd, fs, v, dv, pk, ed, ea, lf, iv, q⟩ := hh
      refine ⟨_, e1, .ref BS, .ref BS, true, dd, fs, rfl, ed, ea, fun u r => r, kit, true, rfl, ?_⟩
      show if true = true then _ else _
      rw [if_pos rfl]
      refine ⟨_, e1, rfl, rfl, dd, fs, v, ed, ea, lf, Nat.le_of_lt (small1000 (by simp)), fun t1 m1 => ?_⟩
      exact q _ _ (.new pk.pk m1) (.tup (SqT.of upd_same) (pk.pk.ne m1) (.cons .non (.cons (iv.mono (Ex.new pk.pk m1).kp) .nil)))
    · exact ⟨fun pins s σ' H D I hh => absurd hh.1 hc⟩
  · refine ⟨g, F, τ, E', _, rel, hd, ag, fun F' σ' H' τ' cls d x rel' is hx => ?_⟩
    obtain ⟨hx1, hx2⟩ := hx
    obtain ⟨C', c1, rfl⟩ := is.cl
    by_cases hc : x.c = C
    · rw [if_pos hc] at hx2
      obtain ⟨v, lv, li, lh, nx⟩ := hx2
      rw [hfn, hc, hC] at c1
      cases c1
      obtain ⟨dd, fs, w, a1, a2, a3, a4⟩ := is.fl _ (PySem.mem_of_lookup lv)
      have len := rel'.len
      refine ⟨true, hex, fun _ a na => ⟨rfl, List.getElem?_set_self (by omega), F', dd, fs, w, v, rel'.pkf, a1, a2, a3, a4, fun u H'' e iu => ?_⟩, fun z => absurd z.symm Bool.false_ne_true⟩
      have e2 : (((σ'.set i (some (V.ref a))).set ih (some u)).set i none) = ((σ'.set ih (some u)).set i none) := by
        rw [List.set_comm _ _ (fun z => hne z.symm), List.set_set, List.set_comm _ _ hne]
      show E.nx _ _
      rw [e2]
      exact ag.nx F' _ H'' _ ((rel'.st e).set iu).out nx
    · rw [if_neg hc] at hx2
      obtain ⟨a', m1, m2⟩ := hL _ hx1 hc
      rw [hfn, m1] at c1
      cases c1
      exact ⟨false, m2, fun z => absurd z Bool.false_ne_true, fun _ => ax F' σ' H' τ' _ d x rel' is hx2⟩
structure CatchIs (K : PySem.W.Frag) (mg : Str → Option Value) (C B f : Str) (L : List Str) : Prop where
  ex : ∃ CS BS : Addr, mg C = some (.ref CS) ∧ mg B = some (.ref BS) ∧ mg "isinstance" = none ∧ PySem.W.exmOne K (.ref CS) (.ref CS) = some true ∧ (∀ y ∈ L, y ≠ C → ∃ a : Addr, mg y = some (.ref a) ∧ PySem.W.exmOne K (.ref a) (.ref CS) = some false) ∧ ExcC K CS ∧ XfC K CS ∧ PySem.W.findIn K (.ref CS) f = some none ∧ PySem.W.kitOne K (.ref CS) (.ref BS) = some true
theorem pd_tryIs {X : Cx} {p : Qt} {E0 : L2.St → XK} {C B n h f : Str} {L : List Str} {i ih : Nat} {body : List Stmt} {j1 j2 j3 : Nat} {np pos pos' q1 q2 q3 q4 q5 q6 q7 q8 q9 q11 q12 q10 : Pos} {db : DSX} (CI : CatchIs X.K X.mg C B f L) (hfn : p.tf.fns = X.mg) (tk : Takes X fun cls d σ H => E0 σ cls d H) (hN : X.N.Nodup)
    (hb : ∀ (E1 : L2.St → XK) (pn : List (Addr × Obj)) (xe : Value → Shared → Prop), Takes (X.tr pn xe) (fun cls d σ H => E1 σ cls d H) → PDSXs (X.tr pn xe) p E1 body db)
    (hi : X.N[i]? = some n := by rfl) (hih : X.N[ih]? = some h := by rfl) (hln : X.env.scope.names.lookup n = some .local := by rfl) (hlh : X.env.scope.names.lookup h = some .local := by rfl) (hne : i ≠ ih := by decide) (hg : Gl X C := by rfl) (gB : Gl X B := by rfl) (gI : Gl X "isinstance" := by rfl)
    (hdb : (C == ("__debug__" : Str)) = false := by decide) (dn : (n == ("__debug__" : Str)) = false := by decide) (cn : (n == ("__classdict__" : Str)) = false := by decide) (dB : (B == ("__debug__" : Str)) = false := by decide) (hs : X.stack = X.env :: X.outer := by rfl) (hf : X.env.frame = some X.env.locals := by rfl) :
    PDSX X p E0 (.Try body [.ExceptHandler (some (.Name C np)) (some n) [.Assign [.Name h q1] (.IfExp (.Call (.Name "isinstance" q2) [.Name n q3, .Name B q4] [] q5) (.Tuple [.Constant .none j1 q6, .Attribute (.Name n q7) f q8] j2 q9) (.Constant .none j3 q10) q11) q12] pos'] [] [] pos) (xTryIs C L f i ih db) := by
  obtain ⟨CS, BS, hC, hB, mI, hex, hL, EC, hxf, hno, kit⟩ := CI.ex
  exact pdsx_tryIs hs hf hN hi hln hih hlh hne hfn hg hC hdb hex hL tk EC hxf hno hB gB kit gI mI dn cn dB hb
theorem excC_of {K : PySem.W.Frag} {D : Addr} (h : excCB K D = true) : ExcC K D := by
  unfold excCB at h
  simp only [Bool.and_eq_true, decide_eq_true_eq] at h
  obtain ⟨h1, h2, h3, h4, h5, h6, h7, h8⟩ := h
  exact ⟨h1, h2, h3, h4, h5, h6, h7, h8⟩
theorem catchIs_of {K : PySem.W.Frag} {mg : Str → Option Value} {C B f : Str} {L : List Str} (mC : mg C = some (.ref (He.ga K C))) (mB : mg B = some (.ref (He.ga K B))) (mI : mg "isinstance" = none) (h1 : PySem.W.exmOne K (.ref (He.ga K C)) (.ref (He.ga K C)) = some true)
    (hL : ∀ y ∈ L, y ≠ C → ∃ a : Addr, mg y = some (.ref a) ∧ PySem.W.exmOne K (.ref a) (.ref (He.ga K C)) = some false) (hi : (Fx.exi C B).ok K = true) (hx : L2.xfB K (He.ga K C) = true) (hn : PySem.W.findIn K (.ref (He.ga K C)) f = some none) : CatchIs K mg C B f L := by
  obtain ⟨a, b⟩ := Bool.and_eq_true_iff.mp (show (excCB K (He.ga K C) && decide (PySem.W.kitOne K (.ref (He.ga K C)) (.ref (He.ga K B)) = some true)) = true from hi)
  exact ⟨_, _, mC, mB, mI, h1, hL, excC_of a, xfB_ok hx, hn, of_decide_eq_true b⟩
end DL
namespace DL
open PySem PySem.Spec L2
open PyProof.Rows hiding St
section
variable {X : Cx} {x y T : Str} {pos p' : Pos} {e : Expr} {es : List Expr} {t : TA} {r : List V → Hp → VK → Prop} {rest : List Stmt}
theorem pet_callTy {T : String} (hc : CallR X (.type T) r) (hg : Gl X x) (hm : X.mg x = none) (hv : bootBuiltins x = some (.type T)) (ha : PAT X (e :: es) t) (hn : x ≠ "__name__" := by decide) (hdb : (x == ("__debug__" : Str)) = false := by decide)
    (he : starEach (e :: es) X.env = (false, eval e X.env) :: starEach es X.env := by rfl) (hpl : (backTo pos (starEach es X.env)).any (·.1) = false := by rfl) : PET X (.Call (.Name x p') (e :: es) [] pos) (tCB r t) := by
  intro pins s σ H Q h0 I h
  refine wpAny_Call_Name_kw (ld_blt I hg hm hv ?_ hn hdb)
  exact PyProof.Rows.callWith_type1 (thn (ha pos pins s σ H _ h0 I h) fun us s1 ⟨vs, H1, I1, r1, q1⟩ => hc pins s1 σ H1 vs us Q I1 r1 q1) he hpl
theorem pst_par {i j : Nat} {a b : Expr} {ta : TA} {px py pt : Pos} {kt k2 pt2} (hc : X.calm = true) (hN : X.N.Nodup) (hi : X.N[i]? = some x) (hj : X.N[j]? = some y) (hij : i ≠ j)
    (hx : X.env.scope.names.lookup x = some .local) (hy : X.env.scope.names.lookup y = some .local) (ha : PAT X [a, b] ta)
    (hw : swappedStores [.Tuple [.Name x px, .Name y py] kt pt] (.Tuple [a, b] k2 pt2) X.env = pure (some [x, y]))
    (hs : swapsWithSole [.Tuple [.Name x px, .Name y py] kt pt] (.Tuple [a, b] k2 pt2) pos.line X.env = pure false := by rfl) :
    PST X (.Assign [.Tuple [.Name x px, .Name y py] kt pt] (.Tuple [a, b] k2 pt2) pos) (tPar i j ta) := by
  intro pins s σ H D h0 I h
  rw [exec_Assign_arm]
  refine wpAny_bind (wpAny_standAt ?_)
  rw [hs]
  refine wpAny_bind (wpAny_pure ?_)
  rw [if_neg (by decide)]
  refine wpAny_bind (Tuple_ (thn (ha _ pins s σ H _ h0 I h) fun us s1 ⟨vs, H1, I1, r1, q1⟩ => ?_))
  obtain ⟨v, w, e1, q1⟩ := q1
  subst e1
  obtain ⟨u1, u2, rfl, rv, rw'⟩ : ∃ u1 u2, us = [u1, u2] ∧ RelV v u1 ∧ RelV w u2 := by
    cases r1 with
    | cons p q =>
      cases q with
      | cons p' q' =>
        cases q'
        exact ⟨_, _, rfl, p, p'⟩
  refine wpAny_newObj_type ?_ (by show 2 ≤ sizeLine; decide)
  have I2 : Inv X pins σ H1 { s1 with heap := s1.heap.push { cls := .type "tuple", data := .seq [u1, u2].toArray } } := I1.kept (t' := s1.toks) fun b o e => Heap.get?_push_of_some _ e
  rw [hw]
  refine wpAny_bind (wpAny_pure ?_)
  show wpAny (model X.prog X.w) X.A (do rule "assign.swapped-stores"; let items ← unpackItems (.ref s1.heap.objs.size) 2 none; assignInOrder [fun v => bindName X.env y v, fun v => bindName X.env x v] items.reverse; pure Flow.next) _ _ _
  refine wpAny_bind (wpAny_rule (wpAny_bind (unpackItems_tuple (items := #[u1, u2]) (I.ok.hd hc) (IsTup.new s1.heap _) fun h' hx' => ?_)))
  have I3 := I2.kept (h' := h') (t' := s1.toks) fun b o e => hx' b o (Nat.ne_of_lt (Heap.lt_size e)) e
  show wpAny _ _ (assignInOrder [fun v => bindName X.env y v, fun v => bindName X.env x v] [u2, u1] >>= fun _ => pure Flow.next) _ _ _
  refine wpAny_bind (assignInOrder_cons (wpAny_bindName (store_ok I3 hN hj (.inl hy) rw' (fun s2 I4 => ?_) (.inr hy))))
  refine assignInOrder_cons (wpAny_bindName (store_ok I4 hN hi (.inl hx) rv (fun s3 I5 => assignInOrder_nil (wpAny_pure ?_)) (.inr hx)))
  rw [List.set_comm _ _ (Ne.symm hij)] at I5
  exact ⟨_, H1, I5, q1⟩
theorem pss_tok {c : Expr} {tA : TT} {u : TS} {i j1 j2 : Nat} {m n : Int} {p1 p2 pe pos' : Pos} (hN : X.N.Nodup) (hi : X.N[i]? = some x) (hx : Loc X.env.scope x) (hc : PT X c tA) (h2 : PSsT X rest u)
    (hs : swapsWith (.IfExp c (.Constant (.int m) j1 p1) (.Constant (.int n) j2 p2) pe) (some (.Name x pos')) pos.line X.env = pure false := by rfl) (hf : X.fn x = true ∨ X.env.scope.names.lookup x = some .local := by first | exact .inl rfl | exact .inr rfl | assumption) :
    PSs X (.Assign [.Name x pos'] (.IfExp c (.Constant (.int m) j1 p1) (.Constant (.int n) j2 p2) pe) pos :: rest) (tSeq (tAsg (tIf tA (tC (.int m)) (tC (.int n))) (gName i)) u) := by
  refine ⟨fun pins s σ H D I h => ?_⟩
  have fin : ∀ (k : Int) (s1 : Shared) (H1 : Hp), Inv X pins σ H1 s1 → u D (σ.set i (some (.int k))) H1 → wpAny (model X.prog X.w) X.A (storeName X.env x (.int k s1.toks)) (fun _ s2 => wpAny (model X.prog X.w) X.A (execs rest X.env) (SP X pins D) X.xe s2) X.xe { s1 with toks := s1.toks + 1 } := by
    intro k s1 H1 I1 q1
    refine wpAny_mono (PySem.wpAny_toks (store_ok (v := V.int k) (u := Value.int k s1.toks) (Q := fun _ s2 => Inv X pins (σ.set i (some (V.int k))) H1 s2) (I1.tok (s1.toks + 1)) hN hi hx ⟨s1.toks, rfl⟩ (fun _ I2 => I2) hf)) (fun _ s2 q => ?_) fun _ _ z => z.2
    have hk : s1.toks + 1 ≤ s2.toks := q.1
    exact h2 pins s2 _ H1 D (by omega) q.2 q1
  refine wpAny_execs_cons (wpAny_Assign_Name (wpAny_IfExp (thn (hc.run pins s σ H _ I h) fun d s1 ⟨H1, I1, q1⟩ => ?_)) hs)
  cases d with
  | true => exact wpAny_Constant_int (fin m s1 H1 I1 q1)
  | false => exact wpAny_Constant_int (fin n s1 H1 I1 q1)
end
structure PDET (X : Cx) (p : Qt) (e : Expr) (d : DE) : Prop where
  run : ∃ t, PET X e t ∧ ∀ (g0 : Gd) (F : List Addr) (σ : L2.St) (H : Hp) (τ : Sl) (Q : VK) (R : D → Prop), Rel X.K p g0 F σ H τ → d τ R → (∀ x v H', Ex p H H' → Is X.K p F H' v x → R x → Q v H') → t σ H Q
structure PDAT (X : Cx) (p : Qt) (es : List Expr) (d : DA) : Prop where
  run : ∃ t, PAT X es t ∧ ∀ (g0 : Gd) (F : List Addr) (σ : L2.St) (H : Hp) (τ : Sl) (Q : List V → Hp → Prop) (R : List D → Prop), Rel X.K p g0 F σ H τ → d τ R → (∀ xs vs H', Ex p H H' → IsL X.K p F H' vs xs → vs.length = es.length → R xs → Q vs H') → t σ H Q
structure PDST (X : Cx) (p : Qt) (st : Stmt) (d : DS) : Prop where
  run : ∃ t, PST X st t ∧ ∀ (g : Gd) (F : List Addr) (σ : L2.St) (H : Hp) (τ : Sl) (E : Ends) (E' : DEn), Rel X.K p g F σ H τ → d E' τ → Agree X.K p g E' E → t E σ H
structure PDSsT (X : Cx) (p : Qt) (st : List Stmt) (d : DS) : Prop where
  run : ∃ t, PSsT X st t ∧ ∀ (g : Gd) (F : List Addr) (σ : L2.St) (H : Hp) (τ : Sl) (E : Ends) (E' : DEn), Rel X.K p g F σ H τ → d E' τ → Agree X.K p g E' E → t E σ H
section
variable {X : Cx} {p : Qt} {x y : Str} {e o : Expr} {es : List Expr} {st : Stmt} {rest : List Stmt} {d dt : DE} {ds : DA} {t u : DS} {pos : Pos}
theorem pdt_of (h : PD X p e d) : PDET X p e d := let ⟨t, a, b⟩ := h.run; ⟨t, CwR.PET.of a, b⟩
theorem pdat_nil : PDAT X p [] dNil := ⟨_, pat_nil, fun g0 F σ H τ Q R rel h q => q [] [] H (.refl rel.pk) .nil rfl h⟩
theorem pdat_cons (ha : PDET X p e d) (hr : PDAT X p es ds) (hs : starEach (e :: es) X.env = (false, eval e X.env) :: starEach es X.env := by rfl) : PDAT X p (e :: es) (dCons d ds) := by
  obtain ⟨t, h1, h2⟩ := ha.run
  obtain ⟨u, k1, k2⟩ := hr.run
  refine ⟨_, pat_cons h1 k1 hs, fun g0 F σ H τ Q R rel h q => ?_⟩
  refine h2 g0 F σ H τ _ _ rel h fun x v H1 e1 i1 h1 => ?_
  refine k2 g0 F σ H1 τ _ _ (rel.st e1) h1 fun xs vs H2 e2 i2 l2 h2 => ?_
  exact q _ _ H2 (e1.trans e2) (.cons (i1.mono e2.kp) i2) (by simp [l2]) h2
def dReplC (d : DE) (y z : Str) : DE := fun τ R => d τ fun v => match v with
  | .str a => a.length + (a.length + 1) * z.length ≤ 16777216 ∧ R (.str (Txt.replace a y z))
  | _ => False
theorem pdt_replC {y z : Str} {j k : Nat} {c0 c1 apos : Pos} (ho : PD X p o d) (hyz : (y == z) = false := by decide)
    (hst : starEach [.Constant (.str y) j c0, .Constant (.str z) k c1] X.env = [(false, eval (.Constant (.str y) j c0) X.env), (false, eval (.Constant (.str z) k c1) X.env)] := by rfl)
    (hbase : attributeBase o "replace" X.env (eval o X.env) = eval o X.env := by rfl) (hline : (apos.endLine == pos.line) = true := by rfl) :
    PDET X p (.Call (.Attribute o "replace" apos) [.Constant (.str y) j c0, .Constant (.str z) k c1] [] pos) (dReplC d y z) := by
  obtain ⟨t, h1, h2⟩ := ho.run
  refine ⟨_, CwR.pet_replC h1 hyz hst hbase hline, fun g0 F σ H τ Q R rel h q => ?_⟩
  refine h2 g0 F σ H τ _ _ rel h fun x v H1 e1 i1 h1 => ?_
  cases i1 with
  | str a => exact ⟨a, rfl, h1.1, q _ _ H1 e1 (.str _) h1.2⟩
  | _ => exact h1.elim
theorem pdt_callTy {x : Str} {p' : Pos} {e : Expr} {T : String} {g} (hc : CallD X p (.type T) g) (hg : Gl X x) (hm : X.mg x = none) (hv : bootBuiltins x = some (.type T)) (ha : PDAT X p (e :: es) ds) (hn : x ≠ "__name__" := by decide) (hdb : (x == ("__debug__" : Str)) = false := by decide)
    (he : starEach (e :: es) X.env = (false, eval e X.env) :: starEach es X.env := by rfl) (hpl : (backTo pos (starEach es X.env)).any (·.1) = false := by rfl) : PDET X p (.Call (.Name x p') (e :: es) [] pos) (dB g ds) := by
  obtain ⟨r, c1, c2⟩ := hc
  obtain ⟨t, h1, h2⟩ := ha.run
  refine ⟨_, pet_callTy c1 hg hm hv h1 hn hdb he hpl, fun g0 F σ H τ Q R rel h q => ?_⟩
  refine h2 g0 F σ H τ _ _ rel h fun xs vs H1 e1 i1 l1 h1 => ?_
  exact c2 F H1 xs vs Q R (rel.st e1).pkf i1 h1 fun z v' H' e i r => q z v' H' (e1.trans e) i r
theorem pdst_of (h : PDS X p st t) : PDST X p st t := let ⟨t, a, b⟩ := h.run; ⟨t, PST.of a, b⟩
theorem pdsst_of (h : PDSs X p rest t) : PDSsT X p rest t := let ⟨t, a, b⟩ := h.run; ⟨t, PSsT.of a, b⟩
theorem pdsst_cons (h1 : PDST X p st t) (h2 : PDSsT X p rest u) : PDSsT X p (st :: rest) (dSeq t u) := by
  obtain ⟨a, a1, a2⟩ := h1.run
  obtain ⟨b, b1, b2⟩ := h2.run
  refine ⟨_, psst_cons a1 b1, fun g F σ H τ E E' rel h ag => ?_⟩
  exact a2 g F σ H τ _ _ rel h (ag.seq fun F' σ' H' τ' rel' h' => b2 g F' σ' H' τ' E E' rel' h' ag)
theorem pdst_par {i j : Nat} {a b : Expr} {ta : DA} {px py pt : Pos} {kt k2 pt2} (hc : X.calm = true) (hN : X.N.Nodup) (hi : X.N[i]? = some x) (hj : X.N[j]? = some y) (hij : i ≠ j)
    (hx : X.env.scope.names.lookup x = some .local) (hy : X.env.scope.names.lookup y = some .local) (ha : PDAT X p [a, b] ta)
    (hw : swappedStores [.Tuple [.Name x px, .Name y py] kt pt] (.Tuple [a, b] k2 pt2) X.env = pure (some [x, y]))
    (hs : swapsWithSole [.Tuple [.Name x px, .Name y py] kt pt] (.Tuple [a, b] k2 pt2) pos.line X.env = pure false := by rfl) :
    PDST X p (.Assign [.Tuple [.Name x px, .Name y py] kt pt] (.Tuple [a, b] k2 pt2) pos) (dPar i j ta) := by
  obtain ⟨a, a1, a2⟩ := ha.run
  refine ⟨_, pst_par hc hN hi hj hij hx hy a1 hw hs, fun g F σ H τ E E' rel h ag => ?_⟩
  refine a2 g F σ H τ _ _ rel h fun xs vs H1 e1 i1 l1 r1 => ?_
  cases i1 with
  | nil => exact r1.elim
  | cons i1 i2 =>
    cases i2 with
    | nil => exact r1.elim
    | cons i2 i3 =>
      cases i3 with
      | nil => exact ⟨_, _, rfl, ag.nx F _ H1 _ (((rel.st e1).set i1).set i2) r1⟩
      | cons _ _ => exact r1.elim
theorem pdss_tok {c : Expr} {tA : DT} {i j1 j2 : Nat} {m n : Int} {p1 p2 pe pos' : Pos} (hN : X.N.Nodup) (hi : X.N[i]? = some x) (hx : Loc X.env.scope x) (hc : PDT X p c tA) (h2 : PDSsT X p rest u)
    (hs : swapsWith (.IfExp c (.Constant (.int m) j1 p1) (.Constant (.int n) j2 p2) pe) (some (.Name x pos')) pos.line X.env = pure false := by rfl) (hf : X.fn x = true ∨ X.env.scope.names.lookup x = some .local := by first | exact .inl rfl | exact .inr rfl | assumption) :
    PDSs X p (.Assign [.Name x pos'] (.IfExp c (.Constant (.int m) j1 p1) (.Constant (.int n) j2 p2) pe) pos :: rest) (dSeq (dAsg (dIf tA (dC (.int m)) (dC (.int n))) (gN i)) u) := by
  obtain ⟨a, a1, a2⟩ := hc.run
  obtain ⟨b, b1, b2⟩ := h2.run
  refine ⟨_, pss_tok hN hi hx a1 b1 hs hf, fun g F σ H τ E E' rel h ag => ?_⟩
  refine a2 g F σ H τ _ _ rel h fun d H1 e1 h1 => ?_
  cases d with
  | true => exact b2 g F _ H1 _ E E' ((rel.st e1).set (.int m)) h1 ag
  | false => exact b2 g F _ H1 _ E E' ((rel.st e1).set (.int n)) h1 ag
end
end DL
namespace DL
open PySem PySem.Spec L2
open PyProof.Rows hiding St
theorem walkX {l : PySem.W.OpenLaw} {n k : Nat} {q : Program} {loose : List Str} {XP : (Str → Option Value) → Heap → Prop} {d : DefRec} {x : Str} {S : PySem.W.Frag → Prop}
    (hn : l.most = some n) (hn2 : n ≤ sizeLine) (hdf : d.params.defaults = []) (hr : Room k callerA)
    (F : ∀ (w : World) (mg : Str → Option Value) (fa : Addr) (h : Heap) (K : PySem.W.Frag), K.In h → S K → h.Ns mainGlobals mg → mg d.name = some (.ref fa) → (∀ nm : Str, ((recsOf q).any fun e => e.name == nm) = true → OwnTab K mg h nm) →
      ∃ (fd : FuncData) (cs : List (Addr × Addr)) (sp : Sp), (∀ c ∈ cs, h.get? c.2 = some { cls := .none, data := .fields #[] } ∧ K.lookup c.2 = none ∧ PySem.W.CodeHd h c.1 c.2) ∧ (∀ (s : Shared) (u : Value), BindsTo s fd ⟨[u], []⟩ [(x, u)]) ∧
        (∀ base : Heap, K.In base → base.Ns mainGlobals mg → (∀ c ∈ cs, GxR.TabB base mg c.1 c.2) → FnG l.prog w K mg base CX0 k fa fd [x] sp) ∧
        ∀ (H : Hp) (a : Addr) (ns : List Int), ns.length ≤ n → (∀ c ∈ cs, H c.2 = some (.tbl #[])) → SqL K H a (ns.map V.int) → sp [.ref a] H (fun v _ => v = .bl true) fun _ _ _ => False) :
    PySem.W.WalkO q loose XP (fun _ h => ∃ K : PySem.W.Frag, K.In h ∧ S K) l.row.toRowW d [] (fun f vs => PySem.call f vs) := by
  refine Att.attach_callB hn hdf fun w s₀ s₁ mg mb fa o pm cd doc a vs ns G Y ho hd hcd hmg obj isI hlen _ gens => ?_
  obtain ⟨K, inK, sK⟩ := Y
  have own : ∀ nm : Str, ((recsOf q).any fun e => e.name == nm) = true → OwnTab K mg s₁.heap nm := fun nm hrec f c P o1 fd1 e dd vs1 sl k0 k1 k2 k3 k4 k5 => by
    obtain ⟨dL, hm, hn1⟩ := List.any_eq_true.mp hrec
    have hn2 : dL.name = nm := beq_iff_eq.mp hn1
    obtain ⟨a', o', fd', c', P', h1, h2, h3, h4, h5, h6⟩ := G.T.tab dL hm
    have C := PySem.W.CodeHd.of h5 h6
    obtain ⟨⟨oc, vc, e1, _, e3, e4⟩, hP⟩ := h6
    rw [hn2, k0] at h1
    cases h1
    have g1 := inK _ _ k1
    rw [g1] at h2
    cases h2
    rw [k2] at h3
    cases h3
    rw [k3] at h4
    cases h4
    have g2 := inK _ _ k4
    rw [g2] at e1
    cases e1
    cases e3
    rw [k5] at e4
    cases e4
    exact ⟨hP, C⟩
  obtain ⟨fd, cs, sp, hT, hb, hF, hsp⟩ := F w mg fa _ K inK sK G.T.g hmg own
  exact callTop inK G.T.g G.T.b G.T.builtins G.T.nolimit gens hT G.T.bmain obj isI (Nat.le_trans hlen hn2) hr hF hb fun H hH hS => hsp H a ns hlen hH hS
end DL
namespace LW
open PySem PySem.Spec L2 DL
open PyProof.Rows hiding St
theorem sc_is_integer : FnScope ["value"] ["value"] (defScope s_is_integer) := ⟨rfl, rfl, rfl, by decide +kernel, rfl, by decide +kernel, by decide +kernel⟩
theorem sc_is_ratio : FnScope ["value", "number", "under"] ["value"] (defScope s_is_ratio) := ⟨rfl, rfl, rfl, by decide +kernel, rfl, by decide +kernel, by decide +kernel⟩
theorem sc__law_draw : FnScope ["pot", "room", "digit"] ["pot", "room"] (defScope s__law_draw) := ⟨rfl, rfl, rfl, by decide +kernel, rfl, by decide +kernel, by decide +kernel⟩
theorem sc__law_pick : FnScope ["pot", "some"] ["pot", "some"] (defScope s__law_pick) := ⟨rfl, rfl, rfl, by decide +kernel, rfl, by decide +kernel, by decide +kernel⟩
theorem sc__law_one : FnScope [] [] (defScope s__law_one) := ⟨rfl, rfl, rfl, by decide +kernel, rfl, by decide +kernel, by decide +kernel⟩
theorem sc__law_gcd : FnScope ["one", "other"] ["one", "other"] (defScope s__law_gcd) := ⟨rfl, rfl, rfl, by decide +kernel, rfl, by decide +kernel, by decide +kernel⟩
theorem sc__law_ratio : FnScope ["number", "under", "shared", "sign"] ["number", "under"] (defScope s__law_ratio) := ⟨rfl, rfl, rfl, by decide +kernel, rfl, by decide +kernel, by decide +kernel⟩
theorem sc__check_integer : FnScope ["number"] ["number"] (defScope s__check_integer) := ⟨rfl, rfl, rfl, by decide +kernel, rfl, by decide +kernel, by decide +kernel⟩
theorem sc_ratio_of : FnScope ["number", "under", "part"] ["number", "under"] (defScope s_ratio_of) := ⟨rfl, rfl, rfl, by decide +kernel, rfl, by decide +kernel, by decide +kernel⟩
theorem sc_ratio : FnScope ["number", "under"] ["number", "under"] (defScope s_ratio) := ⟨rfl, rfl, rfl, by decide +kernel, rfl, by decide +kernel, by decide +kernel⟩
theorem sc_check_ratio : FnScope ["ratio"] ["ratio"] (defScope s_check_ratio) := ⟨rfl, rfl, rfl, by decide +kernel, rfl, by decide +kernel, by decide +kernel⟩
theorem sc_digits_end : FnScope ["text", "begin", "at"] ["text", "begin"] (defScope s_digits_end) := ⟨rfl, rfl, rfl, by decide +kernel, rfl, by decide +kernel, by decide +kernel⟩
theorem sc__few_digits_end : FnScope ["text", "begin"] ["text", "begin"] (defScope s__few_digits_end) := ⟨rfl, rfl, rfl, by decide +kernel, rfl, by decide +kernel, by decide +kernel⟩
theorem sc__check_read : FnScope ["text", "begin", "end"] ["text", "begin", "end"] (defScope s__check_read) := ⟨rfl, rfl, rfl, by decide +kernel, rfl, by decide +kernel, by decide +kernel⟩
theorem sc__check_whole : FnScope ["text", "end"] ["text", "end"] (defScope s__check_whole) := ⟨rfl, rfl, rfl, by decide +kernel, rfl, by decide +kernel, by decide +kernel⟩
theorem sc__under_read : FnScope ["text", "begin", "end", "under"] ["text", "begin"] (defScope s__under_read) := ⟨rfl, rfl, rfl, by decide +kernel, rfl, by decide +kernel, by decide +kernel⟩
theorem sc__tenths_read : FnScope ["text", "begin", "point", "end", "number"] ["text", "begin", "point"] (defScope s__tenths_read) := ⟨rfl, rfl, rfl, by decide +kernel, rfl, by decide +kernel, by decide +kernel⟩
theorem sc_check_text : FnScope ["text"] ["text"] (defScope s_check_text) := ⟨rfl, rfl, rfl, by decide +kernel, rfl, by decide +kernel, by decide +kernel⟩
theorem sc_parse_ratio : FnScope ["text", "begin", "end", "number"] ["text"] (defScope s_parse_ratio) := ⟨rfl, rfl, rfl, by decide +kernel, rfl, by decide +kernel, by decide +kernel⟩
theorem sc_digits_of : FnScope ["number", "pieces", "piece"] ["number"] (defScope s_digits_of) := ⟨rfl, rfl, rfl, by decide +kernel, rfl, by decide +kernel, by decide +kernel⟩
theorem sc_text_of_ratio : FnScope ["ratio"] ["ratio"] (defScope s_text_of_ratio) := ⟨rfl, rfl, rfl, by decide +kernel, rfl, by decide +kernel, by decide +kernel⟩
theorem sc_ratio_text : FnScope ["ratio"] ["ratio"] (defScope s_ratio_text) := ⟨rfl, rfl, rfl, by decide +kernel, rfl, by decide +kernel, by decide +kernel⟩
theorem sc__law_text : FnScope ["told"] ["told"] (defScope s__law_text) := ⟨rfl, rfl, rfl, by decide +kernel, rfl, by decide +kernel, by decide +kernel⟩
theorem sc__law_size : FnScope ["pot", "way"] ["pot"] (defScope s__law_size) := ⟨rfl, rfl, rfl, by decide +kernel, rfl, by decide +kernel, by decide +kernel⟩
theorem sc__law_number : FnScope ["pot", "size"] ["pot"] (defScope s__law_number) := ⟨rfl, rfl, rfl, by decide +kernel, rfl, by decide +kernel, by decide +kernel⟩
theorem sc__law_figures : FnScope ["pot", "way"] ["pot"] (defScope s__law_figures) := ⟨rfl, rfl, rfl, by decide +kernel, rfl, by decide +kernel, by decide +kernel⟩
theorem sc__law_drawn_text : FnScope ["pot", "found", "way", "at"] ["pot"] (defScope s__law_drawn_text) := ⟨rfl, rfl, rfl, by decide +kernel, rfl, by decide +kernel, by decide +kernel⟩
theorem sc__law_heard : FnScope ["text", "heard", "e"] ["text"] (defScope s__law_heard) := ⟨rfl, rfl, rfl, by decide +kernel, rfl, by decide +kernel, by decide +kernel⟩
theorem sc__law_read : FnScope ["text", "at", "begin", "sign", "one", "many", "first", "below", "number", "late"] ["text"] (defScope s__law_read) := ⟨rfl, rfl, rfl, by decide +kernel, rfl, by decide +kernel, by decide +kernel⟩
theorem sc__law_right : FnScope ["pot", "turn", "number", "under", "told", "text", "heard"] ["pot"] (defScope s__law_right) := ⟨rfl, rfl, rfl, by decide +kernel, rfl, by decide +kernel, by decide +kernel⟩
theorem sc__law_pot : FnScope ["script", "k", "cell"] ["script", "k"] (defScope s__law_pot) := ⟨rfl, rfl, rfl, by decide +kernel, rfl, by decide +kernel, by decide +kernel⟩
theorem sc_law : FnScope ["script"] ["script"] (defScope s_law) := ⟨rfl, rfl, rfl, by decide +kernel, rfl, by decide +kernel, by decide +kernel⟩
theorem sci_BadText : FnScope ["self", "position"] ["self", "position"] (defScope (methS s_BadText)) := ⟨rfl, rfl, rfl, by decide +kernel, rfl, by decide +kernel, by decide +kernel⟩
structure Txt (K : PySem.W.Frag) (mg : Str → Option Value) where
  b_abs : mg "abs" = none
  b_bool : mg "bool" = none
  b_divmod : mg "divmod" = none
  b_int : mg "int" = none
  b_isinstance : mg "isinstance" = none
  b_len : mg "len" = none
  b_max : mg "max" = none
  b_min : mg "min" = none
  b_range : mg "range" = none
  b_repr : mg "repr" = none
  b_str : mg "str" = none
  b_tuple : mg "tuple" = none
  t__DIGITS : Tok
  m__DIGITS : mg "_DIGITS" = some (.str "0123456789" t__DIGITS)
  t__MOST_DIGITS : Tok
  m__MOST_DIGITS : mg "_MOST_DIGITS" = some (.int 40 t__MOST_DIGITS)
  t__PIECE : Tok
  m__PIECE : mg "_PIECE" = some (.int 1000000000000000000000000000000000000000000000000000000000000 t__PIECE)
  t__PIECE_DIGITS : Tok
  m__PIECE_DIGITS : mg "_PIECE_DIGITS" = some (.int 60 t__PIECE_DIGITS)
  t__TOO_LARGE : Tok
  m__TOO_LARGE : mg "_TOO_LARGE" = some (.int 10000000000000000000000000000000000000000 t__TOO_LARGE)
  m_gcd : mg "gcd" = some (.builtin "math.gcd")
structure Iv (q : Int × Int) : Prop where
  lo : -1180591620717411303424 ≤ q.1
  le : q.1 ≤ q.2
  hi : q.2 ≤ 1180591620717411303424
structure Rt (q : Int × Int) : Prop where
  pos : 1 ≤ q.2
  cop : Nat.gcd q.1.natAbs q.2.natAbs = 1
  few : q.2 < 1606938044258990275541962092341162602522202993782792835301376
structure Bx (b : List (Int × Int)) : Prop where
  one : 1 ≤ b.length
  few : b.length ≤ 8
  iv : ∀ q ∈ b, Iv q
structure Pt (b : List (Int × Int)) : Prop where
  one : 1 ≤ b.length
  few : b.length ≤ 8
  rt : ∀ q ∈ b, Rt q
theorem gcd_pos {a b : Int} (hb : 0 < b) : 0 < Nat.gcd a.natAbs b.natAbs := Nat.gcd_pos_of_pos_right _ (by omega)
theorem low_terms {n u : Int} (hu : 0 < u) (hw : u < 1606938044258990275541962092341162602522202993782792835301376) :
    Rt (n / ((Nat.gcd n.natAbs u.natAbs : Nat) : Int), u / ((Nat.gcd n.natAbs u.natAbs : Nat) : Int)) ∧ n / ((Nat.gcd n.natAbs u.natAbs : Nat) : Int) * u = n * (u / ((Nat.gcd n.natAbs u.natAbs : Nat) : Int)) := by
  have hg := gcd_pos (a := n) hu
  generalize hgd : Nat.gcd n.natAbs u.natAbs = g at hg
  have d1 : (g : Int) ∣ n := Int.ofNat_dvd_left.mpr (hgd ▸ Nat.gcd_dvd_left _ _)
  have d2 : (g : Int) ∣ u := Int.ofNat_dvd_left.mpr (hgd ▸ Nat.gcd_dvd_right _ _)
  obtain ⟨a, rfl⟩ := d1
  obtain ⟨b, rfl⟩ := d2
  have g0 : (g : Int) ≠ 0 := by omega
  rw [Int.mul_ediv_cancel_left _ g0, Int.mul_ediv_cancel_left _ g0]
  have hb : 0 < b := by
    by_cases c : 0 < b
    · exact c
    · have := Int.mul_nonneg (show (0 : Int) ≤ g by omega) (show 0 ≤ -b by omega)
      rw [Int.mul_neg] at this
      omega
  refine ⟨⟨by show 1 ≤ b; omega, ?_, ?_⟩, by grind⟩
  · show Nat.gcd a.natAbs b.natAbs = 1
    rw [Int.natAbs_mul, Int.natAbs_mul, Int.natAbs_natCast, Nat.gcd_mul_left] at hgd
    exact Nat.eq_of_mul_eq_mul_left hg (by omega)
  · show b < _
    have := Int.mul_le_mul_of_nonneg_right (show (1 : Int) ≤ g by omega) (show 0 ≤ b by omega)
    omega
theorem ifT {c A B : Prop} [Decidable c] (h : c) (k : A) : if c then A else B := by rw [if_pos h]; exact k
def pI (x y : Int × Int) : Int × Int := (x.1 + y.1, x.2 + y.2)
def mI (x y : Int × Int) : Int × Int := (x.1 - y.2, x.2 - y.1)
def tlo (x y : Int × Int) : Int := minL (x.1 * y.1) [x.1 * y.2, x.2 * y.1, x.2 * y.2]
def thi (x y : Int × Int) : Int := maxL (x.1 * y.1) [x.1 * y.2, x.2 * y.1, x.2 * y.2]
def tI (x y : Int × Int) : Int × Int := (tlo x y / 1099511627776, -(-thi x y / 1099511627776))
def sI (x q : Int × Int) : Int × Int := (minL (x.1 * q.1) [x.2 * q.1] / q.2, -(-maxL (x.1 * q.1) [x.2 * q.1] / q.2))
theorem bil {a b c d x y : Int} (h1 : a ≤ x) (h2 : x ≤ b) (h3 : c ≤ y) (h4 : y ≤ d) : minL (a * c) [a * d, b * c, b * d] ≤ x * y ∧ x * y ≤ maxL (a * c) [a * d, b * c, b * d] := by
  have l := minL_le [a * d, b * c, b * d] (a * c)
  have u := maxL_ge [a * d, b * c, b * d] (a * c)
  have l1 := l.2 (a * d) (by simp)
  have l2 := l.2 (b * c) (by simp)
  have l3 := l.2 (b * d) (by simp)
  have u1 := u.2 (a * d) (by simp)
  have u2 := u.2 (b * c) (by simp)
  have u3 := u.2 (b * d) (by simp)
  have l0 := l.1
  have u0 := u.1
  generalize minL (a * c) [a * d, b * c, b * d] = m at *
  generalize maxL (a * c) [a * d, b * c, b * d] = n at *
  -- at each end of x, between the products
  have key : ∀ z : Int, m ≤ z * c → m ≤ z * d → z * c ≤ n → z * d ≤ n → m ≤ z * y ∧ z * y ≤ n := fun z g1 g2 g3 g4 => by
    rcases Int.le_total 0 z with hz | hz
    · have k1 := Int.mul_le_mul_of_nonneg_left h3 hz
      have k2 := Int.mul_le_mul_of_nonneg_left h4 hz
      omega
    · have k1 := Int.mul_le_mul_of_nonpos_left hz h3
      have k2 := Int.mul_le_mul_of_nonpos_left hz h4
      omega
  have ka := key a l0 l1 u0 u1
  have kb := key b l2 l3 u2 u3
  rcases Int.le_total 0 y with hy | hy
  · have k1 := Int.mul_le_mul_of_nonneg_right h1 hy
    have k2 := Int.mul_le_mul_of_nonneg_right h2 hy
    omega
  · have k1 := Int.mul_le_mul_of_nonpos_right h1 hy
    have k2 := Int.mul_le_mul_of_nonpos_right h2 hy
    omega
theorem mul_abs {a b x y : Int} (h1 : -a ≤ x) (h2 : x ≤ a) (h3 : -b ≤ y) (h4 : y ≤ b) : -(a * b) ≤ x * y ∧ x * y ≤ a * b := by
  have h := bil h1 h2 h3 h4
  have e1 : -a * -b = a * b := Int.neg_mul_neg _ _
  have e2 : -a * b = -(a * b) := Int.neg_mul _ _
  have e3 : a * -b = -(a * b) := Int.mul_neg _ _
  rw [e1, e2, e3] at h
  have m := minL_mem [-(a * b), -(a * b), a * b] (a * b)
  have n := maxL_mem [-(a * b), -(a * b), a * b] (a * b)
  have a0 : 0 ≤ a * b := Int.mul_nonneg (by omega) (by omega)
  simp at m n
  omega
theorem fl_mono {a b n : Int} (hn : 0 < n) (h : a ≤ b) : a / n ≤ b / n := Int.ediv_le_ediv hn h
theorem fl_mul {a n : Int} (hn : 0 < n) : a / n * n ≤ a := Int.ediv_mul_le a (by omega)
theorem ce_mul {a n : Int} (hn : 0 < n) : a ≤ -(-a / n) * n := by
  have := Int.ediv_mul_le (-a) (show n ≠ 0 by omega)
  rw [Int.neg_mul]
  omega
theorem fl_ce {a n : Int} (hn : 0 < n) : a / n ≤ -(-a / n) := by
  have h1 := fl_mul (a := a) hn
  have h2 := ce_mul (a := a) hn
  exact Int.le_of_mul_le_mul_right (Int.le_trans h1 h2) hn
theorem fl_ge {a n k : Int} (hn : 0 < n) (h : k * n ≤ a) : k ≤ a / n := Int.le_ediv_of_mul_le hn h
theorem ce_le {a n k : Int} (hn : 0 < n) (h : a ≤ k * n) : -(-a / n) ≤ k := by
  have : -k ≤ -a / n := Int.le_ediv_of_mul_le hn (by rw [Int.neg_mul]; omega)
  omega
theorem tI_le {x y : Int × Int} (hx : x.1 ≤ x.2) (hy : y.1 ≤ y.2) : (tI x y).1 ≤ (tI x y).2 := by
  have b := bil (x := x.1) (y := y.1) (Int.le_refl _) hx (Int.le_refl _) hy
  have : tlo x y ≤ thi x y := by unfold tlo thi; omega
  have h1 := fl_mono (n := 1099511627776) (by decide) this
  have h2 := fl_ce (a := thi x y) (n := 1099511627776) (by decide)
  show tlo x y / _ ≤ -(-thi x y / _)
  omega
theorem t_bnd {x y : Int × Int} {a b : Int} (h1 : -a ≤ x.1) (h2 : x.1 ≤ x.2) (h3 : x.2 ≤ a) (h4 : -b ≤ y.1) (h5 : y.1 ≤ y.2) (h6 : y.2 ≤ b) : -(a * b) ≤ tlo x y ∧ thi x y ≤ a * b := by
  have b1 := mul_abs (x := x.1) (y := y.1) h1 (by omega) h4 (show y.1 ≤ b by omega)
  have b2 := mul_abs (x := x.1) (y := y.2) h1 (show x.1 ≤ a by omega) (show -b ≤ y.2 by omega) h6
  have b3 := mul_abs (x := x.2) (y := y.1) (show -a ≤ x.2 by omega) h3 h4 (show y.1 ≤ b by omega)
  have b4 := mul_abs (x := x.2) (y := y.2) (show -a ≤ x.2 by omega) h3 (show -b ≤ y.2 by omega) h6
  have m := minL_mem [x.1 * y.2, x.2 * y.1, x.2 * y.2] (x.1 * y.1)
  have n := maxL_mem [x.1 * y.2, x.2 * y.1, x.2 * y.2] (x.1 * y.1)
  simp only [List.mem_cons, List.not_mem_nil, or_false] at m n
  unfold tlo thi
  omega
structure Sm (w : Int) (q : Int × Int) : Prop where
  lo : -w ≤ q.1
  le : q.1 ≤ q.2
  hi : q.2 ≤ w
theorem Sm.iv {w : Int} {q : Int × Int} (h : Sm w q) (hw : w ≤ 1180591620717411303424) : Iv q := ⟨by have := h.lo; omega, h.le, by have := h.hi; omega⟩
theorem Sm.plus {v w : Int} {x y : Int × Int} (h : Sm v x) (k : Sm w y) : Sm (v + w) (pI x y) := by
  have h1 := h.lo; have h2 := h.le; have h3 := h.hi; have k1 := k.lo; have k2 := k.le; have k3 := k.hi
  exact ⟨by show _ ≤ x.1 + y.1; omega, by show x.1 + y.1 ≤ x.2 + y.2; omega, by show x.2 + y.2 ≤ _; omega⟩
theorem Sm.minus {v w : Int} {x y : Int × Int} (h : Sm v x) (k : Sm w y) : Sm (v + w) (mI x y) := by
  have h1 := h.lo; have h2 := h.le; have h3 := h.hi; have k1 := k.lo; have k2 := k.le; have k3 := k.hi
  exact ⟨by show _ ≤ x.1 - y.2; omega, by show x.1 - y.2 ≤ x.2 - y.1; omega, by show x.2 - y.1 ≤ _; omega⟩
theorem Sm.times {v w u : Int} {x y : Int × Int} (h : Sm v x) (k : Sm w y) (hu : v * w ≤ u * 1099511627776) : Sm u (tI x y) := by
  have b := t_bnd h.lo h.le h.hi k.lo k.le k.hi
  refine ⟨fl_ge (by decide) (by rw [Int.neg_mul]; omega), tI_le h.le k.le, ce_le (by decide) (by omega)⟩
theorem red {lo hi N D n d : Int} (hD : 0 < D) (hd : 1 ≤ d) (e : n * D = N * d) (h1 : lo * D ≤ N * 1099511627776) (h2 : N * 1099511627776 ≤ hi * D) : lo * d ≤ n * 1099511627776 ∧ n * 1099511627776 ≤ hi * d := by
  have a1 := Int.mul_le_mul_of_nonneg_right h1 (show 0 ≤ d by omega)
  have a2 := Int.mul_le_mul_of_nonneg_right h2 (show 0 ≤ d by omega)
  have e1 : N * 1099511627776 * d = n * 1099511627776 * D := by grind
  have e2 : lo * D * d = lo * d * D := by grind
  have e3 : hi * D * d = hi * d * D := by grind
  rw [e1, e2] at a1
  rw [e1, e3] at a2
  exact ⟨Int.le_of_mul_le_mul_right a1 hD, Int.le_of_mul_le_mul_right a2 hD⟩
theorem sI_mem {x q : Int × Int} {y : Int} (h1 : x.1 ≤ y) (h2 : y ≤ x.2) : minL (x.1 * q.1) [x.2 * q.1] ≤ y * q.1 ∧ y * q.1 ≤ maxL (x.1 * q.1) [x.2 * q.1] := by
  have m2 := minL_le [x.2 * q.1] (x.1 * q.1)
  have n2 := maxL_ge [x.2 * q.1] (x.1 * q.1)
  have m3 := m2.2 (x.2 * q.1) (by simp)
  have n3 := n2.2 (x.2 * q.1) (by simp)
  rcases Int.le_total 0 q.1 with hz | hz
  · have k1 := Int.mul_le_mul_of_nonneg_right h1 hz
    have k2 := Int.mul_le_mul_of_nonneg_right h2 hz
    omega
  · have k1 := Int.mul_le_mul_of_nonpos_right h1 hz
    have k2 := Int.mul_le_mul_of_nonpos_right h2 hz
    omega
theorem Sm.scaled {v u : Int} {x q : Int × Int} {a : Int} (h : Sm v x) (q1 : -a ≤ q.1) (q2 : q.1 ≤ a) (hq : 1 ≤ q.2) (hu : v * a ≤ u) : Sm u (sI x q) := by
  have h1 := h.lo; have h2 := h.le; have h3 := h.hi
  have b1 := mul_abs (x := x.1) (y := q.1) h1 (show x.1 ≤ v by omega) q1 q2
  have b2 := mul_abs (x := x.2) (y := q.1) (show -v ≤ x.2 by omega) h3 q1 q2
  have m := minL_mem [x.2 * q.1] (x.1 * q.1)
  have n := maxL_mem [x.2 * q.1] (x.1 * q.1)
  simp only [List.mem_cons, List.not_mem_nil, or_false] at m n
  have mn : minL (x.1 * q.1) [x.2 * q.1] ≤ maxL (x.1 * q.1) [x.2 * q.1] := by
    have := minL_le [x.2 * q.1] (x.1 * q.1)
    have := maxL_ge [x.2 * q.1] (x.1 * q.1)
    omega
  have u0 : 0 ≤ u := by
    have : 0 ≤ v * a := Int.mul_nonneg (by omega) (by omega)
    omega
  have uq : u ≤ u * q.2 := by
    have := Int.mul_le_mul_of_nonneg_left hq u0
    omega
  refine ⟨fl_ge (by omega) (by rw [Int.neg_mul]; omega), ?_, ce_le (by omega) (by omega)⟩
  have f1 := fl_mono (n := q.2) (by omega) mn
  have f2 := fl_ce (a := maxL (x.1 * q.1) [x.2 * q.1]) (n := q.2) (by omega)
  show minL (x.1 * q.1) [x.2 * q.1] / q.2 ≤ -(-maxL (x.1 * q.1) [x.2 * q.1] / q.2)
  omega
theorem fl_has {a n D N : Int} (hn : 0 < n) (hD : 0 ≤ D) (h : a * D ≤ N * 1099511627776 * n) : a / n * D ≤ N * 1099511627776 := by
  have f := Int.mul_le_mul_of_nonneg_right (fl_mul (a := a) hn) hD
  have e : a / n * n * D = a / n * D * n := by grind
  exact Int.le_of_mul_le_mul_right (show a / n * D * n ≤ N * 1099511627776 * n by omega) hn
theorem ce_has {a n D N : Int} (hn : 0 < n) (hD : 0 ≤ D) (h : N * 1099511627776 * n ≤ a * D) : N * 1099511627776 ≤ -(-a / n) * D := by
  have f := Int.mul_le_mul_of_nonneg_right (ce_mul (a := a) hn) hD
  generalize -(-a / n) = k at *
  have e : k * n * D = k * D * n := by grind
  exact Int.le_of_mul_le_mul_right (show N * 1099511627776 * n ≤ k * D * n by omega) hn
theorem gcd_fmod (a b : Int) : Nat.gcd b.natAbs (a.fmod b).natAbs = Nat.gcd a.natAbs b.natAbs := by
  have e : (Int.gcd b (a.fmod b)) = Int.gcd a b := by
    have e2 := Int.gcd_add_mul_right_right b (a.fmod b) (a.fdiv b)
    have e3 : a.fmod b + a.fdiv b * b = a := by rw [Int.mul_comm]; exact Int.fmod_add_mul_fdiv a b
    rw [e3] at e2
    rw [← e2, Int.gcd_comm]
  exact e
theorem fmod_abs {a b : Int} (h : b ≠ 0) : (a.fmod b).natAbs < b.natAbs := by
  rcases Int.lt_or_gt_of_ne h with c | c
  · have e : a.fmod b = -((-a) % (-b)) := by
      have := Int.neg_fmod_neg a b
      rw [Int.fmod_eq_emod_of_nonneg (-a) (by omega)] at this
      omega
    have h1 := em0 (a := -a) (n := -b) (by omega)
    have h2 := em1 (a := -a) (n := -b) (by omega)
    omega
  · rw [Int.fmod_eq_emod_of_nonneg a (by omega)]
    have h1 := em0 (a := a) (n := b) (by omega)
    have h2 := em1 (a := a) (n := b) (by omega)
    omega
theorem low_terms2 {n u : Int} (hu : 0 < u) (hw : u < 1606938044258990275541962092341162602522202993782792835301376) :
    u / ((Nat.gcd n.natAbs u.natAbs : Nat) : Int) ≤ u ∧ (n / ((Nat.gcd n.natAbs u.natAbs : Nat) : Int)).natAbs ≤ n.natAbs := by
  have hg := gcd_pos (a := n) hu
  generalize hgd : Nat.gcd n.natAbs u.natAbs = g at hg
  have d1 : (g : Int) ∣ n := Int.ofNat_dvd_left.mpr (hgd ▸ Nat.gcd_dvd_left _ _)
  refine ⟨Int.ediv_le_self _ (by omega), ?_⟩
  obtain ⟨a, rfl⟩ := d1
  rw [Int.mul_ediv_cancel_left _ (by omega), Int.natAbs_mul, Int.natAbs_natCast]
  exact Nat.le_mul_of_pos_left _ hg
structure Rw (w : Int) (q : Int × Int) : Prop where
  rt : Rt q
  lo : -w ≤ q.1
  hi : q.1 ≤ w
  un : q.2 ≤ w
structure In (x q : Int × Int) : Prop where
  lo : x.1 * q.2 ≤ q.1 * 1099511627776
  hi : q.1 * 1099511627776 ≤ x.2 * q.2
theorem In.has {x q : Int × Int} (h : In x q) : (decide (x.1 * q.2 ≤ q.1 * 1099511627776) && decide (q.1 * 1099511627776 ≤ x.2 * q.2)) = true := by
  rw [decide_eq_true h.lo, decide_eq_true h.hi]
  rfl
theorem Sm.mul {w : Int} {x : Int × Int} (h : Sm w x) (hw : w < 18446744073709551616) (j : Int) : MulC x.1 j ∧ MulC x.2 j := by
  have h1 := h.lo; have h2 := h.le; have h3 := h.hi
  exact ⟨.left (by omega) (by omega), .left (by omega) (by omega)⟩
theorem In.plus {x y n f q : Int × Int} (hn : In x n) (hf : In y f) (h1 : 1 ≤ n.2) (h2 : 1 ≤ f.2) (hq : 1 ≤ q.2) (e : q.1 * (n.2 * f.2) = (n.1 * f.2 + f.1 * n.2) * q.2) : In (pI x y) q := by
  have a1 := Int.mul_le_mul_of_nonneg_right hn.lo (show 0 ≤ f.2 by omega)
  have a2 := Int.mul_le_mul_of_nonneg_right hn.hi (show 0 ≤ f.2 by omega)
  have a3 := Int.mul_le_mul_of_nonneg_right hf.lo (show 0 ≤ n.2 by omega)
  have a4 := Int.mul_le_mul_of_nonneg_right hf.hi (show 0 ≤ n.2 by omega)
  have e1 : (x.1 + y.1) * (n.2 * f.2) = x.1 * n.2 * f.2 + y.1 * f.2 * n.2 := by grind
  have e2 : (x.2 + y.2) * (n.2 * f.2) = x.2 * n.2 * f.2 + y.2 * f.2 * n.2 := by grind
  have e3 : (n.1 * f.2 + f.1 * n.2) * 1099511627776 = n.1 * 1099511627776 * f.2 + f.1 * 1099511627776 * n.2 := by grind
  have := red (lo := x.1 + y.1) (hi := x.2 + y.2) (Int.mul_pos (by omega) (by omega)) hq e (by omega) (by omega)
  exact ⟨this.1, this.2⟩
theorem In.minus {x y n f q : Int × Int} (hn : In x n) (hf : In y f) (h1 : 1 ≤ n.2) (h2 : 1 ≤ f.2) (hq : 1 ≤ q.2) (e : q.1 * (n.2 * f.2) = (n.1 * f.2 + -f.1 * n.2) * q.2) : In (mI x y) q := by
  have a1 := Int.mul_le_mul_of_nonneg_right hn.lo (show 0 ≤ f.2 by omega)
  have a2 := Int.mul_le_mul_of_nonneg_right hn.hi (show 0 ≤ f.2 by omega)
  have a3 := Int.mul_le_mul_of_nonneg_right hf.lo (show 0 ≤ n.2 by omega)
  have a4 := Int.mul_le_mul_of_nonneg_right hf.hi (show 0 ≤ n.2 by omega)
  have e1 : (x.1 - y.2) * (n.2 * f.2) = x.1 * n.2 * f.2 - y.2 * f.2 * n.2 := by grind
  have e2 : (x.2 - y.1) * (n.2 * f.2) = x.2 * n.2 * f.2 - y.1 * f.2 * n.2 := by grind
  have e3 : (n.1 * f.2 + -f.1 * n.2) * 1099511627776 = n.1 * 1099511627776 * f.2 - f.1 * 1099511627776 * n.2 := by grind
  have := red (lo := x.1 - y.2) (hi := x.2 - y.1) (Int.mul_pos (by omega) (by omega)) hq e (by omega) (by omega)
  exact ⟨this.1, this.2⟩
theorem In.times {x y n f q : Int × Int} (hn : In x n) (hf : In y f) (h1 : 1 ≤ n.2) (h2 : 1 ≤ f.2) (hq : 1 ≤ q.2) (e : q.1 * (n.2 * f.2) = (n.1 * f.1) * q.2) : In (tI x y) q := by
  have b := bil hn.lo hn.hi hf.lo hf.hi
  have m := minL_mem [x.1 * n.2 * (y.2 * f.2), x.2 * n.2 * (y.1 * f.2), x.2 * n.2 * (y.2 * f.2)] (x.1 * n.2 * (y.1 * f.2))
  have M := maxL_mem [x.1 * n.2 * (y.2 * f.2), x.2 * n.2 * (y.1 * f.2), x.2 * n.2 * (y.2 * f.2)] (x.1 * n.2 * (y.1 * f.2))
  have l := minL_le [x.1 * y.2, x.2 * y.1, x.2 * y.2] (x.1 * y.1)
  have u := maxL_ge [x.1 * y.2, x.2 * y.1, x.2 * y.2] (x.1 * y.1)
  simp only [List.mem_cons, List.not_mem_nil, or_false, forall_eq_or_imp, forall_eq] at m M l u
  have hD : 0 < n.2 * f.2 := Int.mul_pos (by omega) (by omega)
  have ee : ∀ z w : Int, z * n.2 * (w * f.2) = z * w * (n.2 * f.2) := fun z w => by grind
  simp only [ee] at m M b
  have tl : tlo x y * (n.2 * f.2) ≤ n.1 * 1099511627776 * (f.1 * 1099511627776) := by
    have k0 := Int.mul_le_mul_of_nonneg_right l.1 (show 0 ≤ n.2 * f.2 by omega)
    have k1 := Int.mul_le_mul_of_nonneg_right l.2.1 (show 0 ≤ n.2 * f.2 by omega)
    have k2 := Int.mul_le_mul_of_nonneg_right l.2.2.1 (show 0 ≤ n.2 * f.2 by omega)
    have k3 := Int.mul_le_mul_of_nonneg_right l.2.2.2 (show 0 ≤ n.2 * f.2 by omega)
    unfold tlo
    omega
  have th : n.1 * 1099511627776 * (f.1 * 1099511627776) ≤ thi x y * (n.2 * f.2) := by
    have k0 := Int.mul_le_mul_of_nonneg_right u.1 (show 0 ≤ n.2 * f.2 by omega)
    have k1 := Int.mul_le_mul_of_nonneg_right u.2.1 (show 0 ≤ n.2 * f.2 by omega)
    have k2 := Int.mul_le_mul_of_nonneg_right u.2.2.1 (show 0 ≤ n.2 * f.2 by omega)
    have k3 := Int.mul_le_mul_of_nonneg_right u.2.2.2 (show 0 ≤ n.2 * f.2 by omega)
    unfold thi
    omega
  have e2 : n.1 * 1099511627776 * (f.1 * 1099511627776) = n.1 * f.1 * 1099511627776 * 1099511627776 := by grind
  rw [e2] at tl th
  have := red (lo := (tI x y).1) (hi := (tI x y).2) hD hq e (fl_has (by decide) (by omega) tl) (ce_has (by decide) (by omega) th)
  exact ⟨this.1, this.2⟩
theorem In.scaled {x t n q : Int × Int} (hn : In x n) (h1 : 1 ≤ n.2) (h2 : 1 ≤ t.2) (hq : 1 ≤ q.2) (e : q.1 * (n.2 * t.2) = (n.1 * t.1) * q.2) : In (sI x t) q := by
  have b := sI_mem (x := (x.1 * n.2, x.2 * n.2)) (q := t) (y := n.1 * 1099511627776) hn.lo hn.hi
  simp only [] at b
  have m := minL_mem [x.2 * n.2 * t.1] (x.1 * n.2 * t.1)
  have M := maxL_mem [x.2 * n.2 * t.1] (x.1 * n.2 * t.1)
  have l := minL_le [x.2 * t.1] (x.1 * t.1)
  have u := maxL_ge [x.2 * t.1] (x.1 * t.1)
  simp only [List.mem_cons, List.not_mem_nil, or_false, forall_eq_or_imp, forall_eq] at m M l u
  have ee : ∀ z : Int, z * n.2 * t.1 = z * t.1 * n.2 := fun z => by grind
  simp only [ee] at m M b
  have k0 := Int.mul_le_mul_of_nonneg_right l.1 (show 0 ≤ n.2 by omega)
  have k1 := Int.mul_le_mul_of_nonneg_right l.2 (show 0 ≤ n.2 by omega)
  have k2 := Int.mul_le_mul_of_nonneg_right u.1 (show 0 ≤ n.2 by omega)
  have k3 := Int.mul_le_mul_of_nonneg_right u.2 (show 0 ≤ n.2 by omega)
  have tl : minL (x.1 * t.1) [x.2 * t.1] * n.2 ≤ n.1 * 1099511627776 * t.1 := by omega
  have th : n.1 * 1099511627776 * t.1 ≤ maxL (x.1 * t.1) [x.2 * t.1] * n.2 := by omega
  have f1 := Int.mul_le_mul_of_nonneg_right (fl_mul (a := minL (x.1 * t.1) [x.2 * t.1]) (n := t.2) (by omega)) (show 0 ≤ n.2 by omega)
  have f2 := Int.mul_le_mul_of_nonneg_right (ce_mul (a := maxL (x.1 * t.1) [x.2 * t.1]) (n := t.2) (by omega)) (show 0 ≤ n.2 by omega)
  have c0 : n.1 * t.1 * 1099511627776 = n.1 * 1099511627776 * t.1 := by grind
  have c1 : ∀ z : Int, z * (n.2 * t.2) = z * t.2 * n.2 := fun z => by grind
  have := red (lo := (sI x t).1) (hi := (sI x t).2) (Int.mul_pos (show 0 < n.2 by omega) (show 0 < t.2 by omega)) hq e (by rw [c0, c1]; exact Int.le_trans f1 tl) (by rw [c0, c1]; exact Int.le_trans th f2)
  exact ⟨this.1, this.2⟩
abbrev tx (l : List Nat) : Str := ⟨l.toArray⟩
def isD (c : Nat) : Bool := decide (c ∈ ("0123456789" : Str).cps.toList)
def dend (l : List Nat) (b : Nat) : Nat := b + ((l.drop b).takeWhile isD).length
theorem tx_len (l : List Nat) : (tx l).length = l.length := by simp [Str.length]
theorem dend_end {l : List Nat} : dend l l.length = l.length := by
  unfold dend
  rw [List.drop_length]
  rfl
theorem dend_yes {l : List Nat} {i : Nat} (h : i < l.length) (d : isD l[i] = true) : dend l i = dend l (i + 1) := by
  unfold dend
  rw [List.drop_eq_getElem_cons h, List.takeWhile_cons_of_pos d, List.length_cons]
  omega
theorem dend_no {l : List Nat} {i : Nat} (h : i < l.length) (d : isD l[i] = false) : dend l i = i := by
  unfold dend
  rw [List.drop_eq_getElem_cons h, List.takeWhile_cons_of_neg (by rw [d]; exact Bool.false_ne_true)]
  rfl
theorem dend_ge (l : List Nat) (b : Nat) : b ≤ dend l b := Nat.le_add_right _ _
theorem dend_le {l : List Nat} {b : Nat} (h : b ≤ l.length) : dend l b ≤ l.length := by
  unfold dend
  have := (List.takeWhile_sublist isD (l := l.drop b)).length_le
  rw [List.length_drop] at this
  omega
theorem dig_len : ∀ (k m : Nat), m < 10 ^ (k + 1) → (Nat.toDigits 10 m).length ≤ k + 1
  | k, m, h => by
    by_cases c : m < 10
    · rw [Nat.toDigits_of_lt_base c]
      simp
    · cases k with
      | zero => omega
      | succ k =>
        have hm : m % 10 < 10 := Nat.mod_lt m (by decide)
        have t : Nat.toDigits 10 (m / 10) ++ Nat.toDigits 10 (m % 10) = Nat.toDigits 10 (10 * (m / 10) + m % 10) := Nat.toDigits_append_toDigits (by decide) (by omega) hm
        rw [Nat.div_add_mod] at t
        have ih := dig_len k (m / 10) (by rw [Nat.pow_succ] at h; omega)
        rw [← t, List.length_append, Nat.toDigits_of_lt_base hm]
        simp only [List.length_cons, List.length_nil]
        omega
theorem p60 : (10 : Int) ^ (59 + 1) = 1000000000000000000000000000000000000000000000000000000000000 := by decide +kernel
def nT (n : Int) : Str := Str.ofString (toString n)
theorem nT_len {n : Int} {k : Nat} (h0 : 0 ≤ n) (h : n < 10 ^ (k + 1)) : (nT n).length ≤ k + 1 := by
  obtain ⟨m, rfl⟩ := Int.eq_ofNat_of_zero_le h0
  have e : (nT (m : Int)).length = ((nT (m : Int)).cps.toList).length := by simp [Str.length]
  rw [e]
  unfold nT
  rw [PySem.W.KIN.signs_num, List.length_map]
  exact dig_len k m (by
    have : ((m : Nat) : Int) < ((10 ^ (k + 1) : Nat) : Int) := by simpa using h
    omega)
theorem join1 (a b : Str) : Txt.join a [b] = b := by
  first | rfl | (unfold Txt.join; simp; done) | trace_state
def dg (m : Nat) : List Nat := (Nat.toDigits 10 m).map Char.toNat
def sT (n : Int) : List Nat := if n < 0 then 45 :: dg n.natAbs else dg n.natAbs
theorem tx_list (a : Str) : a = tx a.cps.toList := by simp [tx]
theorem tx_app (l m : List Nat) : tx l ++ tx m = tx (l ++ m) := by
  show Str.mk (l.toArray ++ m.toArray) = _
  simp [tx]
theorem minus_tx : Str.ofString "-" = tx [45] := by decide +kernel
theorem nT_eq (n : Int) : nT n = tx (sT n) := by
  rw [tx_list (nT n)]
  congr 1
  unfold sT dg nT
  by_cases c : n < 0
  · rw [if_pos c]
    obtain ⟨m, rfl⟩ := Int.eq_negSucc_of_lt_zero c
    rw [signs_ofString]
    have e : (toString (Int.negSucc m)).toList = '-' :: (Nat.repr (m + 1)).toList := by
      show ("-" ++ Nat.repr (m + 1)).toList = _
      rw [String.toList_append]
      rfl
    rw [e, Nat.toList_repr]
    rfl
  · rw [if_neg c]
    obtain ⟨m, rfl⟩ := Int.eq_ofNat_of_zero_le (show 0 ≤ n by omega)
    rw [PySem.W.KIN.signs_num]
    rfl
def badX (p : Nat) : XD := ⟨"BadText", [("position", .int p)]⟩
def fEnd (l : List Nat) (b : Nat) : Nat := min (dend l b) (b + 40)
def seg (l : List Nat) (b e : Nat) : List Nat := (l.drop b).take (e - b)
theorem sIx_at {n d i : Nat} (h : i ≤ n) : HT.sIx n d (some (i : Int)) = i := by
  unfold HT.sIx
  simp only []
  split <;> omega
theorem cut_tx {l : List Nat} {b e : Nat} (hb : b ≤ l.length) (he : e ≤ l.length) : cutS (tx l) (some (b : Int)) (some (e : Int)) = tx (seg l b e) := by
  unfold cutS
  rw [tx_len, sIx_at hb, sIx_at he]
  rfl
theorem fEnd_ge (l : List Nat) (b : Nat) : b ≤ fEnd l b := by have := dend_ge l b; unfold fEnd; omega
theorem fEnd_le {l : List Nat} {b : Nat} (h : b ≤ l.length) : fEnd l b ≤ l.length := by have := dend_le h; unfold fEnd; omega
theorem isD_iff (c : Nat) : isD c = true ↔ 48 ≤ c ∧ c ≤ 57 := by
  have e : ("0123456789" : Str).cps.toList = [48, 49, 50, 51, 52, 53, 54, 55, 56, 57] := by decide +kernel
  unfold isD
  rw [e, decide_eq_true_eq]
  simp only [List.mem_cons, List.not_mem_nil, or_false]
  omega
theorem tw_all {p : Nat → Bool} : ∀ {l : List Nat} {c : Nat}, c ∈ l.takeWhile p → p c = true
  | [], _, h => by cases h
  | a :: l, c, h => by
    by_cases e : p a = true
    · rw [List.takeWhile_cons_of_pos e] at h
      rcases List.mem_cons.mp h with rfl | h
      · exact e
      · exact tw_all h
    · rw [List.takeWhile_cons_of_neg e] at h
      cases h
theorem seg_dig {l : List Nat} {b e : Nat} (h : e ≤ dend l b) : PySem.NumText.AllDigits (seg l b e) := by
  intro c hc
  refine (isD_iff c).mp ?_
  have e1 : seg l b e = ((l.drop b).takeWhile isD).take (e - b) := by
    unfold seg
    have h2 : e - b ≤ ((l.drop b).takeWhile isD).length := by unfold dend at h; omega
    obtain ⟨r, hr⟩ := List.takeWhile_prefix (p := isD) (l := l.drop b)
    conv => lhs; rw [← hr]
    rw [List.take_append_of_le_length h2]
  rw [e1] at hc
  have := List.mem_of_mem_take hc
  exact tw_all this
theorem seg_len {l : List Nat} {b e : Nat} (hb : b ≤ e) (he : e ≤ l.length) : (seg l b e).length = e - b := by
  unfold seg
  rw [List.length_take, List.length_drop]
  omega
theorem int_seg {l : List Nat} {b e : Nat} (h : e ≤ dend l b) (hb : b < e) (he : e ≤ l.length) (h40 : e ≤ b + 40) : intText? (tx (seg l b e)) = some ((PySem.NumText.digitsVal (seg l b e) : Nat) : Int) := by
  have hl := seg_len (l := l) (Nat.le_of_lt hb) he
  exact PySem.intText_digits (seg_dig h) (fun z => by
    have z' : seg l b e = [] := by simpa using z
    rw [z'] at hl
    simp at hl
    omega) (by rw [tx_len, hl]; omega)
def underR (l : List Nat) (b : Nat) : Except Nat Nat :=
  if fEnd l b = b then .error b
  else if PySem.NumText.digitsVal (seg l b (fEnd l b)) = 0 ∧ fEnd l b = b + 40 then .error (fEnd l b - 1)
  else if fEnd l b < l.length then .error (fEnd l b)
  else if PySem.NumText.digitsVal (seg l b (fEnd l b)) = 0 then .error (fEnd l b) else .ok (PySem.NumText.digitsVal (seg l b (fEnd l b)))
def lowF (n u : Int) : Int × Int := (n / ((Nat.gcd n.natAbs u.natAbs : Nat) : Int), u / ((Nat.gcd n.natAbs u.natAbs : Nat) : Int))
def sgn (b : Nat) (n : Int) : Int := if b = 1 then -n else n
def tenR (l : List Nat) (b p : Nat) : Except Nat (Int × Int) :=
  if fEnd l (p + 1) = p + 1 then .error (p + 1)
  else if fEnd l (p + 1) < l.length then .error (fEnd l (p + 1))
  else .ok (lowF (sgn b ((PySem.NumText.digitsVal (seg l b p ++ seg l (p + 1) (fEnd l (p + 1))) : Nat) : Int)) (10 ^ (fEnd l (p + 1) - (p + 1))))
theorem val_zeros : ∀ k : Nat, PySem.NumText.digitsVal (49 :: List.replicate k 48) = 10 ^ k
  | 0 => rfl
  | k + 1 => by
    have ih := val_zeros k
    have e : (49 :: List.replicate (k + 1) 48 : List Nat) = (49 :: List.replicate k 48) ++ [48] := by
      rw [List.replicate_succ', List.cons_append]
    unfold PySem.NumText.digitsVal at ih ⊢
    rw [e, List.foldl_append, ih]
    simp [Nat.pow_succ]
theorem rep0 (k : Nat) : tx [49] ++ repS (Str.ofString "0") k = tx (49 :: List.replicate k 48) := by
  have e : Str.ofString "0" = tx [48] := by decide +kernel
  have e2 : ∀ k : Nat, (List.replicate k [48]).flatten = List.replicate k (48 : Nat) := fun k => by
    induction k with
    | zero => rfl
    | succ k ih => rw [List.replicate_succ, List.flatten_cons, ih, List.replicate_succ]; rfl
  rw [e]
  show tx [49] ++ tx ((List.replicate k [48].toArray.toList).flatten) = _
  rw [show [48].toArray.toList = ([48] : List Nat) from rfl, e2, tx_app]
  rfl
theorem int_tens {k : Nat} (h : k ≤ 40) : intText? (tx (49 :: List.replicate k 48)) = some ((10 ^ k : Nat) : Int) := by
  have r := PySem.intText_digits (x := tx (49 :: List.replicate k 48)) (fun c hc => by
    rcases List.mem_cons.mp (show c ∈ (49 :: List.replicate k 48) from hc) with rfl | z
    · decide
    · rw [List.eq_of_mem_replicate z]; decide) (by simp) (by rw [tx_len]; simp; omega)
  rw [r]
  exact congrArg (fun z : Nat => some (z : Int)) (val_zeros k)
theorem dig_app {a b : List Nat} (h : PySem.NumText.AllDigits a) (k : PySem.NumText.AllDigits b) : PySem.NumText.AllDigits (a ++ b) := fun c hc => (List.mem_append.mp hc).elim (h c) (k c)
theorem val_lt' : ∀ (a : List Nat) (acc k : Nat), acc < 10 ^ k → PySem.NumText.AllDigits a → a.foldl (fun acc c => acc * 10 + (c - 48)) acc < 10 ^ (k + a.length)
  | [], acc, k, h, _ => by simpa using h
  | c :: a, acc, k, h, hd => by
    have h1 := hd c List.mem_cons_self
    have := val_lt' a (acc * 10 + (c - 48)) (k + 1) (by rw [Nat.pow_succ]; omega) fun x hx => hd x (List.mem_cons_of_mem _ hx)
    rw [List.foldl_cons, List.length_cons, show k + (a.length + 1) = k + 1 + a.length by omega]
    exact this
theorem val_lt {a : List Nat} (h : PySem.NumText.AllDigits a) : PySem.NumText.digitsVal a < 10 ^ a.length := by
  have := val_lt' a 0 0 (by decide) h
  rw [Nat.zero_add] at this
  exact this
theorem xseqTo {t : DS} {u : DSX} {E : DEn} {xe : Sl → XD → Prop} {τ : Sl} (τ1 : Sl) (h1 : ∀ k : Sl → Prop, k τ1 → t { E with nx := k } τ) (h2 : u E xe τ1) : xSeq (xOf t) u E xe τ := h1 _ h2
theorem tx_inj {l m : List Nat} : tx l = tx m ↔ l = m := by
  constructor
  · intro h
    have := congrArg (fun z : Str => z.cps.toList) h
    simpa using this
  · intro h
    rw [h]
theorem cut1 {l : List Nat} {e : Nat} (he : e ≤ l.length) : cutS (tx l) (some (e : Int)) (some ((e : Int) + 1)) = tx ((l.drop e).take 1) := by
  unfold cutS
  rw [tx_len, sIx_at he]
  by_cases c : e < l.length
  · have e1 : HT.sIx l.length l.length (some ((e : Int) + 1)) = e + 1 := sIx_at (i := e + 1) (by omega)
    rw [e1]
    congr 2
    congr 1
    omega
  · have e2 : l.drop e = [] := List.drop_eq_nil_of_le (by omega)
    show tx ((l.drop e).take _) = _
    rw [e2]
    simp
theorem cut0 (l : List Nat) : cutS (tx l) none (some 1) = tx (l.take 1) := by
  unfold cutS
  rw [tx_len]
  have e1 : HT.sIx l.length 0 none = 0 := rfl
  rw [e1]
  cases l with
  | nil => rfl
  | cons a l =>
    have e2 : HT.sIx (a :: l).length (a :: l).length (some 1) = 1 := sIx_at (i := 1) (by simp)
    rw [e2]
    rfl
theorem under_ok {l : List Nat} {b v : Nat} (hb : b ≤ l.length) (h : underR l b = .ok v) : 0 < v ∧ v < 10000000000000000000000000000000000000000 := by
  have ge := fEnd_ge l b
  have le := fEnd_le hb
  have ed : fEnd l b ≤ dend l b := Nat.min_le_left _ _
  have e40 : fEnd l b ≤ b + 40 := Nat.min_le_right _ _
  unfold underR at h
  generalize fEnd l b = e at *
  have vl := val_lt (seg_dig ed)
  have ln := seg_len ge le
  have pw : 10 ^ (seg l b e).length ≤ 10 ^ 40 := Nat.pow_le_pow_right (by decide) (by omega)
  have e2 : (10 : Nat) ^ 40 = 10000000000000000000000000000000000000000 := by decide +kernel
  split at h
  · cases h
  split at h
  · cases h
  split at h
  · cases h
  split at h
  · cases h
  · rename_i z
    cases h
    omega
theorem take1_lt {l : List Nat} {e c : Nat} (h : (l.drop e).take 1 = [c]) : e < l.length := by
  have := congrArg List.length h
  rw [List.length_take, List.length_drop] at this
  simp at this
  omega
def parB (l : List Nat) (b : Nat) : Except Nat (Int × Int) :=
  if fEnd l b = b then .error b
  else if (l.drop (fEnd l b)).take 1 = [47] then (match underR l (fEnd l b + 1) with
    | .ok v => .ok (lowF (sgn b ((PySem.NumText.digitsVal (seg l b (fEnd l b)) : Nat) : Int)) v)
    | .error p => .error p)
  else if (l.drop (fEnd l b)).take 1 = [46] then tenR l b (fEnd l b)
  else if fEnd l b < l.length then .error (fEnd l b)
  else .ok (sgn b ((PySem.NumText.digitsVal (seg l b (fEnd l b)) : Nat) : Int), 1)
def parR (l : List Nat) : Except Nat (Int × Int) := parB l (if l.take 1 = [45] then 1 else 0)
def rT (q : Int × Int) : List Nat := if q.2 = 1 then sT q.1 else sT q.1 ++ [47] ++ sT q.2
theorem dg_len {m : Nat} (h : m < 1000000000000000000000000000000000000000000000000000000000000) : (dg m).length ≤ 60 := by
  have := dig_len 59 m (by
    have : (10 : Nat) ^ (59 + 1) = 1000000000000000000000000000000000000000000000000000000000000 := by decide +kernel
    omega)
  unfold dg
  rw [List.length_map]
  exact this
theorem sT_len {n : Int} (h1 : -1000000000000000000000000000000000000000000000000000000000000 < n) (h2 : n < 1000000000000000000000000000000000000000000000000000000000000) : (sT n).length ≤ 61 := by
  have := dg_len (m := n.natAbs) (by omega)
  unfold sT
  split
  · rw [List.length_cons]
    omega
  · omega
theorem len_app (a b : Str) : (a ++ b).length = a.length + b.length := by
  show (a.cps ++ b.cps).size = _
  rw [Array.size_append]
  rfl
theorem len_rep (a : Str) (n : Nat) : (repS a n).length = n * a.length := by
  show ((List.replicate n a.cps.toList).flatten.toArray).size = _
  rw [List.size_toArray]
  have : (List.replicate n a.cps.toList).flatten.length = n * a.cps.toList.length := by simp
  rw [this]
  rfl
theorem len_cut (a : Str) (lo hi : Option Int) : (cutS a lo hi).length ≤ a.length := by
  show ((List.take _ (List.drop _ a.cps.toList)).toArray).size ≤ a.cps.size
  rw [List.size_toArray, List.length_take, List.length_drop, Array.length_toList]
  omega
def hearD (l : List Nat) : D := match parR l with
  | .ok v => .tup [ivD v, .non]
  | .error p => .tup [.non, .int p]
def hD : Except Nat (Int × Int) → D := fun r => match r with
  | .ok v => .tup [ivD v, .non]
  | .error p => .tup [.non, .int p]
theorem hearD_eq (l : List Nat) : hearD l = hD (parR l) := rfl
theorem take1_eq {l : List Nat} {i : Nat} (h : i < l.length) : (l.drop i).take 1 = [l[i]] := by
  rw [List.drop_eq_getElem_cons h]
  rfl
theorem isD_no {c : Nat} (h : isD c = true) : c ≠ 47 ∧ c ≠ 46 ∧ c ≠ 45 := by
  have := (isD_iff c).mp h
  omega
theorem f_far {l : List Nat} {s i : Nat} (hi : i < l.length) (d : isD l[i] = true) (e : dend l i = dend l s) (h : i + 1 ≤ s + 40) : i + 1 ≤ fEnd l s := by
  have h1 := dend_yes hi d
  have h2 := dend_ge l (i + 1)
  unfold fEnd
  omega
theorem f_far2 {l : List Nat} {s i : Nat} (hi : i < l.length) (d : isD l[i] = true) (e : dend l i = dend l s) (h : i = s + 40) : fEnd l s = i := by
  have h1 := dend_yes hi d
  have h2 := dend_ge l (i + 1)
  unfold fEnd
  omega
theorem f_no {l : List Nat} {s i : Nat} (hi : i < l.length) (d : isD l[i] = false) (e : dend l i = dend l s) (h : i ≤ s + 40) : fEnd l s = i := by
  have h1 := dend_no hi d
  unfold fEnd
  omega
theorem f_stop {l : List Nat} {s : Nat} (e : dend l l.length = dend l s) (h : l.length ≤ s + 40) : fEnd l s = l.length := by
  have h1 := dend_end (l := l)
  unfold fEnd
  omega
theorem par_bad {l : List Nat} {b i : Nat} (f : fEnd l b = i) (hi : i < l.length) (h : i = b ∨ (l[i] ≠ 47 ∧ l[i] ≠ 46)) : parB l b = .error i := by
  unfold parB
  rw [f, take1_eq hi]
  by_cases c : i = b
  · rw [if_pos c, c]
  · rcases h with h | ⟨h1, h2⟩
    · exact absurd h c
    · rw [if_neg c, if_neg (by simpa using h1), if_neg (by simpa using h2), if_pos hi]
theorem par_slash {l : List Nat} {b p : Nat} (f : fEnd l b = p) (hb : b < p) (hp : p < l.length) (h : l[p] = 47) : parB l b = (match underR l (p + 1) with
    | .ok v => .ok (lowF (sgn b ((PySem.NumText.digitsVal (seg l b p) : Nat) : Int)) v)
    | .error q => .error q) := by
  unfold parB
  rw [f, take1_eq hp, if_neg (by omega), h, if_pos rfl]
theorem par_dot {l : List Nat} {b p : Nat} (f : fEnd l b = p) (hb : b < p) (hp : p < l.length) (h : l[p] = 46) : parB l b = tenR l b p := by
  unfold parB
  rw [f, take1_eq hp, if_neg (by omega), h, if_neg (by decide), if_pos rfl]
theorem par_end {l : List Nat} {b : Nat} (f : fEnd l b = l.length) (hb : b < l.length) : parB l b = .ok (sgn b ((PySem.NumText.digitsVal (seg l b l.length) : Nat) : Int), 1) := by
  unfold parB
  rw [f, List.drop_length, if_neg (by omega), if_neg (by simp), if_neg (by simp), if_neg (by omega)]
theorem par_none {l : List Nat} {b : Nat} (f : fEnd l b = b) : parB l b = .error b := by
  unfold parB
  rw [if_pos f]
theorem val_app (a : List Nat) (c : Nat) : PySem.NumText.digitsVal (a ++ [c]) = PySem.NumText.digitsVal a * 10 + (c - 48) := by
  unfold PySem.NumText.digitsVal
  rw [List.foldl_append]
  rfl
theorem val_zero : ∀ (n : Nat) (a : List Nat), a.length = n → PySem.NumText.AllDigits a → (PySem.NumText.digitsVal a = 0 ↔ a = List.replicate n 48)
  | 0, a, h, _ => by
    have : a = [] := List.eq_nil_of_length_eq_zero h
    subst this
    simp [PySem.NumText.digitsVal]
  | n + 1, a, h, hd => by
    have ne : a ≠ [] := fun e => by rw [e] at h; cases h
    have e := List.dropLast_concat_getLast ne
    have hl := hd _ (List.getLast_mem ne)
    have ih := val_zero n a.dropLast (by rw [List.length_dropLast]; omega) fun c hc => hd c (List.dropLast_subset _ hc)
    have va := val_app a.dropLast (a.getLast ne)
    rw [e] at va
    rw [va, List.replicate_succ']
    constructor
    · intro z
      have z1 := ih.mp (by omega)
      rw [← e, z1]
      congr 2
      omega
    · intro z
      rw [← e] at z
      have z2 := List.append_inj' z rfl
      have z3 := ih.mpr z2.1
      have z4 : a.getLast ne = 48 := by simpa using z2.2
      omega
theorem seg_succ {l : List Nat} {s i : Nat} (hs : s ≤ i) (hi : i < l.length) : seg l s (i + 1) = seg l s i ++ [l[i]] := by
  unfold seg
  have e : i + 1 - s = (i - s) + 1 := by omega
  rw [e, List.take_add_one]
  congr 1
  rw [List.getElem?_drop, show s + (i - s) = i by omega, List.getElem?_eq_getElem hi]
  rfl
theorem un_far {l : List Nat} {s i : Nat} (hi : i < l.length) (d : isD l[i] = true) (e : dend l i = dend l s) (h : i = s + 40) (nz : PySem.NumText.digitsVal (seg l s i) ≠ 0) : underR l s = .error i := by
  unfold underR
  rw [f_far2 hi d e h, if_neg (by omega), if_neg (fun z => nz z.1), if_pos hi]
theorem un_zero {l : List Nat} {s i : Nat} (hi : i < l.length) (d : isD l[i] = true) (e : dend l i = dend l s) (h : i = s + 39) (z : l[i] = 48) (hz : seg l s i = List.replicate 39 48) : underR l s = .error i := by
  have f : fEnd l s = i + 1 := by
    have h1 := f_far hi d e (by omega)
    have h2 : fEnd l s ≤ s + 40 := Nat.min_le_right _ _
    omega
  unfold underR
  have v0 : PySem.NumText.digitsVal (seg l s (i + 1)) = 0 := by
    rw [seg_succ (by omega) hi, hz, z]
    decide +kernel
  rw [f, if_neg (by omega), if_pos ⟨v0, by omega⟩]
  rfl
theorem un_bad {l : List Nat} {s i : Nat} (hi : i < l.length) (d : isD l[i] = false) (e : dend l i = dend l s) (h : i ≤ s + 40) (nz : i = s + 40 → PySem.NumText.digitsVal (seg l s i) ≠ 0) : underR l s = .error i := by
  unfold underR
  rw [f_no hi d e h]
  by_cases c : i = s
  · rw [if_pos c, c]
  · rw [if_neg c, if_neg (fun z => nz z.2 z.1), if_pos hi]
theorem un_none {l : List Nat} {s : Nat} (f : fEnd l s = s) : underR l s = .error s := by
  unfold underR
  rw [if_pos f]
theorem un_end0 {l : List Nat} {s : Nat} (f : fEnd l s = l.length) (hs : s < l.length) (nz : l.length = s + 40 → PySem.NumText.digitsVal (seg l s l.length) ≠ 0) (z : PySem.NumText.digitsVal (seg l s l.length) = 0) : underR l s = .error l.length := by
  unfold underR
  rw [f, if_neg (by omega), if_neg (fun w => nz w.2 w.1), if_neg (by omega), if_pos z]
theorem un_end {l : List Nat} {s : Nat} (f : fEnd l s = l.length) (hs : s < l.length) (z : PySem.NumText.digitsVal (seg l s l.length) ≠ 0) : underR l s = .ok (PySem.NumText.digitsVal (seg l s l.length)) := by
  unfold underR
  rw [f, if_neg (by omega), if_neg (fun w => z w.1), if_neg (by omega), if_neg z]
theorem ten_bad {l : List Nat} {b p i : Nat} (f : fEnd l (p + 1) = i) (hi : i < l.length) : tenR l b p = .error i := by
  unfold tenR
  rw [f]
  by_cases c : i = p + 1
  · rw [if_pos c, c]
  · rw [if_neg c, if_pos hi]
theorem ten_none {l : List Nat} {b p : Nat} (f : fEnd l (p + 1) = p + 1) : tenR l b p = .error (p + 1) := by
  unfold tenR
  rw [if_pos f]
theorem ten_end {l : List Nat} {b p : Nat} (f : fEnd l (p + 1) = l.length) (hs : p + 1 < l.length) : tenR l b p = .ok (lowF (sgn b ((PySem.NumText.digitsVal (seg l b p ++ seg l (p + 1) l.length) : Nat) : Int)) (10 ^ (l.length - (p + 1)))) := by
  unfold tenR
  rw [f, if_neg (by omega), if_neg (by omega)]
inductive Ph (l : List Nat) (b : Nat) : Nat → Nat → List Nat → Prop
  | one {i : Nat} : b ≤ i → i ≤ l.length → dend l i = dend l b → i ≤ b + 40 → Ph l b i b []
  | two {i p c : Nat} : (c = 47 ∨ c = 46) → fEnd l b = p → b < p → (hp : p < l.length) → l[p] = c → p + 1 ≤ i → i ≤ l.length → dend l i = dend l (p + 1) → i ≤ p + 1 + 40 →
      (c = 47 → i = p + 1 + 40 → PySem.NumText.digitsVal (seg l (p + 1) i) ≠ 0) → Ph l b i (p + 1) [c]
theorem rep0' (k : Nat) : repS (Str.ofString "0") k = tx (List.replicate k 48) := by
  have e : Str.ofString "0" = tx [48] := by decide +kernel
  have e2 : ∀ k : Nat, (List.replicate k [48]).flatten = List.replicate k (48 : Nat) := fun k => by
    induction k with
    | zero => rfl
    | succ k ih => rw [List.replicate_succ, List.flatten_cons, ih, List.replicate_succ]; rfl
  rw [e]
  show tx ((List.replicate k [48].toArray.toList).flatten) = _
  rw [show [48].toArray.toList = ([48] : List Nat) from rfl, e2]
theorem cut_to {l : List Nat} {e : Nat} (he : e ≤ l.length) : cutS (tx l) none (some (e : Int)) = tx (l.take e) := by
  unfold cutS
  rw [tx_len, sIx_at he]
  show tx (List.take (e - 0) (List.drop 0 l)) = _
  simp
theorem cut_on {l : List Nat} {b : Nat} (hb : b ≤ l.length) : cutS (tx l) (some (b : Int)) none = tx (l.drop b) := by
  unfold cutS
  rw [tx_len, sIx_at hb]
  show tx (List.take (l.length - b) (List.drop b l)) = _
  rw [List.take_of_length_le (by rw [List.length_drop]; exact Nat.le_refl _)]
theorem seg_end (l : List Nat) (s : Nat) : seg l s l.length = l.drop s := by
  unfold seg
  rw [List.take_of_length_le (by rw [List.length_drop]; exact Nat.le_refl _)]
theorem strike {l : List Nat} : Txt.replace (tx l) (Str.ofString "-") (Str.ofString "") = tx (l.filter (· != 45)) := by
  have e1 : Str.ofString "-" = ⟨#[45]⟩ := by decide +kernel
  have e2 : Str.ofString "" = ⟨#[]⟩ := by decide +kernel
  rw [e1, e2, tx_list (Txt.replace (tx l) ⟨#[45]⟩ ⟨#[]⟩), PyProof.Rows.replace_strikes]
theorem strike_dig {l : List Nat} {b p : Nat} (hb : b = if l.take 1 = [45] then 1 else 0) (hp : p ≤ dend l b) (hbp : b ≤ p) : (l.take p).filter (· != 45) = seg l b p := by
  have hd : PySem.NumText.AllDigits (seg l b p) := seg_dig hp
  have keep : (seg l b p).filter (· != 45) = seg l b p := List.filter_eq_self.mpr fun c hc => by
    have := hd c hc
    simp
    omega
  have e : l.take p = l.take b ++ seg l b p := by
    unfold seg
    rw [← List.take_add, show b + (p - b) = p by omega]
  rw [e, List.filter_append, keep]
  by_cases c : l.take 1 = [45]
  · rw [if_pos c] at hb
    rw [hb, c]
    rfl
  · rw [if_neg c] at hb
    rw [hb]
    rfl
theorem lowF_ok {n u : Int} (hu : 0 < u) (hw : u < 1606938044258990275541962092341162602522202993782792835301376) : Rt (lowF n u) ∧ (lowF n u).1 * u = n * (lowF n u).2 ∧ (lowF n u).2 ≤ u ∧ (lowF n u).1.natAbs ≤ n.natAbs :=
  ⟨(low_terms hu hw).1, (low_terms hu hw).2, (low_terms2 hu hw).1, (low_terms2 hu hw).2⟩
theorem rt_eq {p q : Int × Int} (hp : Rt p) (hq : Rt q) (e : p.1 * q.2 = q.1 * p.2) : p = q := by
  have p0 := hp.pos
  have q0 := hq.pos
  have n : p.1.natAbs * q.2.natAbs = q.1.natAbs * p.2.natAbs := by rw [← Int.natAbs_mul, ← Int.natAbs_mul, e]
  have d1 : p.2.natAbs ∣ q.2.natAbs := (Nat.Coprime.dvd_of_dvd_mul_left (Nat.Coprime.symm hp.cop) (by rw [n]; exact Nat.dvd_mul_left _ _))
  have d2 : q.2.natAbs ∣ p.2.natAbs := (Nat.Coprime.dvd_of_dvd_mul_left (Nat.Coprime.symm hq.cop) (by rw [← n]; exact Nat.dvd_mul_left _ _))
  have e2 := Nat.dvd_antisymm d1 d2
  have e3 : p.2 = q.2 := by omega
  rw [e3] at e
  exact Prod.ext (Int.eq_of_mul_eq_mul_right (by omega) e) e3
theorem low_is {n u : Int} {q : Int × Int} (hu : 0 < u) (hw : u < 1606938044258990275541962092341162602522202993782792835301376) (hq : Rt q) (e : q.1 * u = n * q.2) : q = lowF n u := by
  obtain ⟨h1, h2, _, _⟩ := lowF_ok (n := n) hu hw
  refine rt_eq hq h1 ?_
  generalize lowF n u = l at *
  have a1 : q.1 * l.2 * u = l.1 * q.2 * u := by grind
  exact Int.eq_of_mul_eq_mul_right (by omega) a1
theorem low_self {n d : Int} (h : Rt (n, d)) : lowF n d = (n, d) := by
  have h1 : Nat.gcd n.natAbs d.natAbs = 1 := h.cop
  unfold lowF
  rw [h1]
  simp
theorem p40 : (10 : Nat) ^ 40 = 10000000000000000000000000000000000000000 := by decide +kernel
theorem val40 {l : List Nat} {b : Nat} (hb : b ≤ l.length) : PySem.NumText.digitsVal (seg l b (fEnd l b)) < 10000000000000000000000000000000000000000 := by
  have ed : fEnd l b ≤ dend l b := Nat.min_le_left _ _
  have e40 : fEnd l b ≤ b + 40 := Nat.min_le_right _ _
  have vl := val_lt (seg_dig ed)
  have ln := seg_len (fEnd_ge l b) (fEnd_le hb)
  have pw : 10 ^ (seg l b (fEnd l b)).length ≤ 10 ^ 40 := Nat.pow_le_pow_right (by decide) (by omega)
  rw [p40] at pw
  omega
structure Rd80 (v : Int × Int) : Prop where
  rt : Rt v
  lo : -1000000000000000000000000000000000000000000000000000000000000000000000000000000000 < v.1
  hi : v.1 < 1000000000000000000000000000000000000000000000000000000000000000000000000000000000
  un : v.2 < 100000000000000000000000000000000000000000
theorem low80 {n u : Int} (hu : 0 < u) (hw : u < 100000000000000000000000000000000000000000) (hn : n.natAbs ≤ 100000000000000000000000000000000000000000000000000000000000000000000000000000000) : Rd80 (lowF n u) := by
  obtain ⟨h1, h2, h3, h4⟩ := lowF_ok (n := n) hu (by omega)
  exact ⟨h1, by omega, by omega, by omega⟩
theorem sgn_abs {b : Nat} {n : Int} : (sgn b n).natAbs = n.natAbs := by
  unfold sgn
  split <;> omega
theorem par_ok {l : List Nat} {v : Int × Int} (h : parR l = .ok v) : Rd80 v := by
  unfold parR at h
  have hb : (if l.take 1 = [45] then 1 else 0) ≤ l.length := by
    by_cases c : l.take 1 = [45]
    · rw [if_pos c]
      have := congrArg List.length c
      rw [List.length_take] at this
      simp at this
      omega
    · rw [if_neg c]
      omega
  generalize (if l.take 1 = [45] then 1 else 0) = b at *
  have v1 := val40 hb
  unfold parB at h
  have e40 : fEnd l b ≤ b + 40 := Nat.min_le_right _ _
  have ed : fEnd l b ≤ dend l b := Nat.min_le_left _ _
  have ge := fEnd_ge l b
  have le := fEnd_le hb
  split at h
  · cases h
  split at h
  · rename_i c
    have lt := take1_lt c
    cases hu : underR l (fEnd l b + 1) with
    | ok w =>
      rw [hu] at h
      cases h
      have := under_ok (by omega) hu
      exact low80 (by omega) (by omega) (by rw [sgn_abs]; omega)
    | error q =>
      rw [hu] at h
      cases h
  split at h
  · rename_i c
    have lt := take1_lt c
    unfold tenR at h
    split at h
    · cases h
    split at h
    · cases h
    cases h
    have e40 : fEnd l (fEnd l b + 1) ≤ fEnd l b + 1 + 40 := Nat.min_le_right _ _
    have ed2 : fEnd l (fEnd l b + 1) ≤ dend l (fEnd l b + 1) := Nat.min_le_left _ _
    have le2 := fEnd_le (l := l) (b := fEnd l b + 1) (by omega)
    have ge2 := fEnd_ge l (fEnd l b + 1)
    have l1 := seg_len ge le
    have l2 := seg_len ge2 le2
    have vl := val_lt (dig_app (seg_dig ed) (seg_dig ed2))
    rw [List.length_append, l1, l2] at vl
    have pw : 10 ^ (fEnd l b - b + (fEnd l (fEnd l b + 1) - (fEnd l b + 1))) ≤ 10 ^ 80 := Nat.pow_le_pow_right (by decide) (by omega)
    have p80 : (10 : Nat) ^ 80 = 100000000000000000000000000000000000000000000000000000000000000000000000000000000 := by decide +kernel
    have pu : 10 ^ (fEnd l (fEnd l b + 1) - (fEnd l b + 1)) ≤ 10 ^ 40 := Nat.pow_le_pow_right (by decide) (by omega)
    rw [p40] at pu
    rw [p80] at pw
    have pc : ((10 ^ (fEnd l (fEnd l b + 1) - (fEnd l b + 1)) : Nat) : Int) = (10 : Int) ^ (fEnd l (fEnd l b + 1) - (fEnd l b + 1)) := by simp
    have p0 : (0 : Int) < (10 : Int) ^ (fEnd l (fEnd l b + 1) - (fEnd l b + 1)) := Int.pow_pos (by decide)
    exact low80 p0 (by rw [← pc]; omega) (by rw [sgn_abs]; omega)
  split at h
  · cases h
  · cases h
    refine ⟨⟨Int.le_refl 1, ?_, (by decide : (1 : Int) < 1606938044258990275541962092341162602522202993782792835301376)⟩, ?_, ?_, (by decide : (1 : Int) < 100000000000000000000000000000000000000000)⟩
    · exact Nat.gcd_one_right _
    · have := sgn_abs (b := b) (n := ((PySem.NumText.digitsVal (seg l b (fEnd l b)) : Nat) : Int))
      show _ < sgn b _
      omega
    · have := sgn_abs (b := b) (n := ((PySem.NumText.digitsVal (seg l b (fEnd l b)) : Nat) : Int))
      show sgn b _ < _
      omega
theorem dg_dig (m : Nat) : PySem.NumText.AllDigits (dg m) := by
  intro c hc
  obtain ⟨ch, h1, rfl⟩ := List.mem_map.mp hc
  have := Nat.isDigit_of_mem_toDigits (b := 10) (by decide) (by decide) h1
  have h2 := Char.isDigit_iff_toNat.mp this
  exact h2
theorem dg_ne (m : Nat) : 0 < (dg m).length := by
  unfold dg
  rw [List.length_map]
  exact Nat.length_toDigits_pos
theorem dg_val (m : Nat) : PySem.NumText.digitsVal (dg m) = m := PySem.W.KIN.val_back m
theorem tw_app {a r : List Nat} (h : PySem.NumText.AllDigits a) (hr : ∀ c ∈ r.head?, isD c = false) : (a ++ r).takeWhile isD = a := by
  induction a with
  | nil =>
    cases r with
    | nil => rfl
    | cons c r => exact List.takeWhile_cons_of_neg (by rw [hr c (by simp)]; exact Bool.false_ne_true)
  | cons x a ih =>
    rw [List.cons_append, List.takeWhile_cons_of_pos ((isD_iff x).mpr (h x List.mem_cons_self)), ih fun c hc => h c (List.mem_cons_of_mem _ hc)]
theorem mid_end {p a r : List Nat} (h : PySem.NumText.AllDigits a) (ha : a.length ≤ 40) (hr : ∀ c ∈ r.head?, isD c = false) : fEnd (p ++ a ++ r) p.length = p.length + a.length := by
  unfold fEnd dend
  have e : (p ++ a ++ r).drop p.length = a ++ r := by rw [List.append_assoc, List.drop_left]
  rw [e, tw_app h hr]
  omega
theorem mid_seg {p a r : List Nat} : seg (p ++ a ++ r) p.length (p.length + a.length) = a := by
  unfold seg
  rw [List.append_assoc, List.drop_left, Nat.add_sub_cancel_left, List.take_left]
theorem dg40 {m : Nat} (h : m < 10000000000000000000000000000000000000000) : (dg m).length ≤ 40 := by
  have := dig_len 39 m (by rw [show 39 + 1 = 40 from rfl, p40]; exact h)
  unfold dg
  rw [List.length_map]
  exact this
theorem back_whole {p : List Nat} {m : Nat} (h : m < 10000000000000000000000000000000000000000) : parB (p ++ dg m) p.length = .ok (sgn p.length (m : Int), 1) := by
  have f := mid_end (p := p) (r := []) (dg_dig m) (dg40 h) (by simp)
  have s := mid_seg (p := p) (a := dg m) (r := [])
  rw [List.append_nil] at f s
  have ne := dg_ne m
  have e : p.length + (dg m).length = (p ++ dg m).length := by rw [List.length_append]
  rw [e] at f s
  rw [par_end f (by rw [List.length_append]; omega), s, dg_val]
theorem back_quot {p : List Nat} {m d : Nat} (h : m < 10000000000000000000000000000000000000000) (hd : d < 10000000000000000000000000000000000000000) (h0 : 0 < d) : parB (p ++ dg m ++ [47] ++ dg d) p.length = .ok (lowF (sgn p.length (m : Int)) (d : Int)) := by
  have f := mid_end (p := p) (r := [47] ++ dg d) (dg_dig m) (dg40 h) (by intro c hc; simp at hc; subst hc; decide +kernel)
  have s := mid_seg (p := p) (a := dg m) (r := [47] ++ dg d)
  have f2 := mid_end (p := p ++ dg m ++ [47]) (r := []) (dg_dig d) (dg40 hd) (by simp)
  have s2 := mid_seg (p := p ++ dg m ++ [47]) (a := dg d) (r := [])
  rw [List.append_nil] at f2 s2
  rw [← List.append_assoc] at f s
  have ne := dg_ne m
  have ne2 := dg_ne d
  have lp : (p ++ dg m ++ [47]).length = p.length + (dg m).length + 1 := by simp; omega
  have ll : (p ++ dg m ++ [47] ++ dg d).length = p.length + (dg m).length + 1 + (dg d).length := by simp; omega
  rw [lp] at f2 s2
  generalize hl : p ++ dg m ++ [47] ++ dg d = l at *
  have at_ : ∀ (hp : p.length + (dg m).length < l.length), l[p.length + (dg m).length] = 47 := fun hp => by
    subst hl
    rw [List.getElem_append_left (by simp), List.getElem_append_right (by simp)]
    simp
  rw [par_slash f (by omega) (by omega) (at_ _), s, dg_val]
  have f3 : fEnd l (p.length + (dg m).length + 1) = l.length := by rw [f2, ll]
  rw [← ll] at s2
  rw [un_end f3 (by omega) (by rw [s2, dg_val]; omega), s2, dg_val]
theorem par_text {n d : Int} (h : Rt (n, d)) (h1 : -10000000000000000000000000000000000000000 < n) (h2 : n < 10000000000000000000000000000000000000000) (h3 : d < 10000000000000000000000000000000000000000) : parR (rT (n, d)) = .ok (n, d) := by
  have d0 : 1 ≤ d := h.pos
  obtain ⟨k, rfl⟩ := Int.eq_ofNat_of_zero_le (show 0 ≤ d by omega)
  have tk : ∀ (r : List Nat), ∀ m : Nat, (dg m ++ r).take 1 ≠ [45] := fun r m e => by
    have ne := dg_ne m
    have hd := dg_dig m
    cases hm : dg m with
    | nil => rw [hm] at ne; simp at ne
    | cons c t =>
      rw [hm] at e
      simp at e
      have := hd c (by rw [hm]; exact List.mem_cons_self)
      omega
  have sd : sT (k : Int) = dg k := by
    unfold sT
    rw [if_neg (by omega)]
    rfl
  unfold rT
  simp only []
  rw [sd]
  by_cases c : n < 0
  · have sn : sT n = 45 :: dg n.natAbs := if_pos c
    have s1 : sgn 1 ((n.natAbs : Nat) : Int) = n := by
      unfold sgn
      rw [if_pos rfl]
      omega
    by_cases e : (k : Int) = 1
    · rw [if_pos e, sn]
      have b := back_whole (p := [45]) (m := n.natAbs) (by omega)
      unfold parR
      rw [show List.take 1 (45 :: dg n.natAbs) = [45] from rfl, if_pos rfl]
      show parB ([45] ++ dg n.natAbs) 1 = _
      rw [show (1 : Nat) = ([45] : List Nat).length from rfl, b, e]
      show Except.ok (sgn 1 _, (1 : Int)) = _
      rw [s1]
    · rw [if_neg e, sn]
      have b := back_quot (p := [45]) (m := n.natAbs) (d := k) (by omega) (by omega) (by omega)
      unfold parR
      rw [show List.take 1 (45 :: dg n.natAbs ++ [47] ++ dg k) = [45] from rfl, if_pos rfl]
      show parB ([45] ++ dg n.natAbs ++ [47] ++ dg k) 1 = _
      rw [show (1 : Nat) = ([45] : List Nat).length from rfl, b]
      show Except.ok (lowF (sgn 1 _) _) = _
      rw [s1, low_self h]
  · obtain ⟨m, rfl⟩ := Int.eq_ofNat_of_zero_le (show 0 ≤ n by omega)
    have sn : sT (m : Int) = dg m := by
      unfold sT
      rw [if_neg (by omega)]
      rfl
    by_cases e : (k : Int) = 1
    · rw [if_pos e, sn]
      have b := back_whole (p := []) (m := m) (by omega)
      have t := tk [] m
      rw [List.append_nil] at t
      unfold parR
      rw [if_neg t]
      show parB ([] ++ dg m) 0 = _
      rw [show (0 : Nat) = ([] : List Nat).length from rfl, b, e]
      rfl
    · rw [if_neg e, sn]
      have b := back_quot (p := []) (m := m) (d := k) (by omega) (by omega) (by omega)
      unfold parR
      rw [if_neg (by rw [List.append_assoc]; exact tk _ m)]
      show parB ([] ++ dg m ++ [47] ++ dg k) 0 = _
      rw [show (0 : Nat) = ([] : List Nat).length from rfl, b]
      show Except.ok (lowF (sgn 0 _) _) = _
      unfold sgn
      rw [if_neg (by decide), low_self h]
theorem val_app2 (a : List Nat) : ∀ c : List Nat, PySem.NumText.digitsVal (a ++ c) = PySem.NumText.digitsVal a * 10 ^ c.length + PySem.NumText.digitsVal c := by
  have gen : ∀ (c : List Nat) (x : Nat), c.foldl (fun acc c => acc * 10 + (c - 48)) x = x * 10 ^ c.length + c.foldl (fun acc c => acc * 10 + (c - 48)) 0 := by
    intro c
    induction c with
    | nil => intro x; simp
    | cons y c ih =>
      intro x
      rw [List.foldl_cons, ih, List.foldl_cons, ih (0 * 10 + (y - 48)), List.length_cons, Nat.pow_succ]
      grind
  intro c
  unfold PySem.NumText.digitsVal
  rw [List.foldl_append, gen]
def pad (k m : Nat) : List Nat := List.replicate (k - (dg m).length) 48 ++ dg m
theorem dg_step {m : Nat} (h : 10 ≤ m) : dg m = dg (m / 10) ++ dg (m % 10) := by
  have hm : m % 10 < 10 := Nat.mod_lt m (by decide)
  have t : Nat.toDigits 10 (m / 10) ++ Nat.toDigits 10 (m % 10) = Nat.toDigits 10 (10 * (m / 10) + m % 10) := Nat.toDigits_append_toDigits (by decide) (by omega) hm
  rw [Nat.div_add_mod] at t
  unfold dg
  rw [← t, List.map_append]
theorem dg_one {m : Nat} (h : m < 10) : dg m = [48 + m] := by
  have : m = 0 ∨ m = 1 ∨ m = 2 ∨ m = 3 ∨ m = 4 ∨ m = 5 ∨ m = 6 ∨ m = 7 ∨ m = 8 ∨ m = 9 := by omega
  rcases this with rfl | rfl | rfl | rfl | rfl | rfl | rfl | rfl | rfl | rfl <;> decide +kernel
theorem dg_pad : ∀ (k q m : Nat), 0 < q → m < 10 ^ (k + 1) → dg (q * 10 ^ (k + 1) + m) = dg q ++ pad (k + 1) m
  | 0, q, m, hq, hm => by
    rw [Nat.pow_one] at *
    have e := dg_step (m := q * 10 + m) (by omega)
    rw [e, show (q * 10 + m) / 10 = q by omega, show (q * 10 + m) % 10 = m by omega]
    unfold pad
    rw [dg_one hm]
    rfl
  | k + 1, q, m, hq, hm => by
    have hp : 10 ^ (k + 1 + 1) = 10 ^ (k + 1) * 10 := Nat.pow_succ ..
    have hp0 : 0 < 10 ^ (k + 1) := Nat.pow_pos (by decide)
    have big : 10 ≤ q * 10 ^ (k + 1 + 1) + m := by
      have : 1 * (1 * 10) ≤ q * (10 ^ (k + 1) * 10) := Nat.mul_le_mul hq (Nat.mul_le_mul_right _ hp0)
      rw [hp]
      omega
    have e := dg_step big
    have e1 : (q * 10 ^ (k + 1 + 1) + m) / 10 = q * 10 ^ (k + 1) + m / 10 := by
      rw [hp, show q * (10 ^ (k + 1) * 10) = 10 * (q * 10 ^ (k + 1)) by grind, Nat.mul_add_div (by decide)]
    have e2 : (q * 10 ^ (k + 1 + 1) + m) % 10 = m % 10 := by
      rw [hp, show q * (10 ^ (k + 1) * 10) = 10 * (q * 10 ^ (k + 1)) by grind, Nat.mul_add_mod]
    have ih := dg_pad k q (m / 10) hq (by rw [hp] at hm; omega)
    rw [e, e1, e2, ih, List.append_assoc]
    congr 1
    unfold pad
    have m10 : m % 10 < 10 := Nat.mod_lt _ (by decide)
    by_cases c : m < 10
    · rw [show m / 10 = 0 by omega, show m % 10 = m by omega, dg_one c, dg_one (show 0 < 10 by decide)]
      show List.replicate k 48 ++ [48] ++ [48 + m] = List.replicate (k + 1) 48 ++ [48 + m]
      rw [List.replicate_succ']
    · rw [dg_step (m := m) (by omega), dg_one m10, List.length_append, List.append_assoc]
      show List.replicate (k + 1 - _) 48 ++ _ = List.replicate (k + 1 + 1 - (_ + 1)) 48 ++ _
      rw [Nat.add_sub_add_right]
theorem tx_arr {a : Str} {l : List Nat} (h : a.cps.toList = l) : a = tx l := (tx_list a).trans (by rw [h])
open Builtin.Str in
theorem zfill_pad {m : Nat} : Txt.zfill (nT (m : Int)) 60 = tx (pad 60 m) := by
  have e : nT (m : Int) = tx (dg m) := by
    rw [nT_eq]
    unfold sT
    rw [if_neg (by omega)]
    rfl
  rw [e]
  unfold Txt.zfill
  by_cases c : (60 : Int) ≤ (tx (dg m)).length
  · rw [if_pos c]
    unfold pad
    rw [tx_len] at c
    rw [show 60 - (dg m).length = 0 by omega]
    rfl
  · rw [if_neg c]
    have l60 : (tx (dg m)).length = (dg m).length := tx_len _
    have hd := dg_dig m
    have ne := dg_ne m
    have z : zfilled (tx (dg m)) ((60 : Int).toNat - (tx (dg m)).length) = padded (tx (dg m)) ((60 : Int).toNat - (tx (dg m)).length) 0 48 := by
      unfold zfilled
      cases hm : dg m with
      | nil => rw [hm] at ne; simp at ne
      | cons x t =>
        have hx := hd x (by rw [hm]; exact List.mem_cons_self)
        have e0 : (tx (x :: t)).cps[0]? = some x := by simp [tx]
        rw [e0]
        split
        · rename_i h0
          cases h0
          omega
        · rename_i h0
          cases h0
          omega
        · rfl
    rw [z, l60]
    unfold padded pad
    apply tx_arr
    simp [tx]
theorem ph_bounds {l : List Nat} {b i s : Nat} {sg : List Nat} (h : Ph l b i s sg) : s ≤ i ∧ i ≤ l.length ∧ i ≤ s + 40 ∧ dend l i = dend l s := by
  cases h with
  | one h1 h2 h3 h4 => exact ⟨h1, h2, h4, h3⟩
  | two h1 h2 h3 h4 h5 h6 h7 h8 h9 h10 => exact ⟨h6, h7, h9, h8⟩
theorem ph_far {l : List Nat} {b i s : Nat} {sg : List Nat} (h : Ph l b i s sg) (hi : i < l.length) (d : isD l[i] = true) (e : i = s + 40) : parB l b = .error i := by
  have nd := isD_no d
  cases h with
  | one h1 h2 h3 h4 => exact par_bad (f_far2 hi d h3 e) hi (.inr ⟨nd.1, nd.2.1⟩)
  | two h1 h2 h3 h4 h5 h6 h7 h8 h9 h10 =>
    rcases h1 with rfl | rfl
    · rw [par_slash h2 h3 h4 h5, un_far hi d h8 e (h10 rfl e)]
    · rw [par_dot h2 h3 h4 h5, ten_bad (f_far2 hi d h8 e) hi]
theorem ph_zero {l : List Nat} {b i s : Nat} (h : Ph l b i s [47]) (hi : i < l.length) (d : isD l[i] = true) (e : i = s + 39) (z : l[i] = 48) (hz : seg l s i = List.replicate 39 48) : parB l b = .error i := by
  cases h with
  | two h1 h2 h3 h4 h5 h6 h7 h8 h9 h10 => rw [par_slash h2 h3 h4 h5, un_zero hi d h8 e z hz]
theorem ph_bad {l : List Nat} {b i s : Nat} {sg : List Nat} (h : Ph l b i s sg) (hi : i < l.length) (d : isD l[i] = false) (e : sg = [] → i = b ∨ (l[i] ≠ 47 ∧ l[i] ≠ 46)) : parB l b = .error i := by
  cases h with
  | one h1 h2 h3 h4 => exact par_bad (f_no hi d h3 h4) hi (e rfl)
  | two h1 h2 h3 h4 h5 h6 h7 h8 h9 h10 =>
    rcases h1 with rfl | rfl
    · rw [par_slash h2 h3 h4 h5, un_bad hi d h8 h9 (h10 rfl)]
    · rw [par_dot h2 h3 h4 h5, ten_bad (f_no hi d h8 h9) hi]
theorem ph_step {l : List Nat} {b i s : Nat} {sg : List Nat} (h : Ph l b i s sg) (hi : i < l.length) (d : isD l[i] = true) (e : i + 1 ≤ s + 40) (z : sg = [47] → i + 1 = s + 40 → PySem.NumText.digitsVal (seg l s (i + 1)) ≠ 0) : Ph l b (i + 1) s sg := by
  have dy := dend_yes hi d
  cases h with
  | one h1 h2 h3 h4 => exact .one (by omega) (by omega) (by omega) e
  | two h1 h2 h3 h4 h5 h6 h7 h8 h9 h10 =>
    refine .two h1 h2 h3 h4 h5 (by omega) (by omega) (by omega) e fun c => ?_
    subst c
    exact z rfl
theorem ph_turn {l : List Nat} {b i s : Nat} (h : Ph l b i s []) (hi : i < l.length) (d : isD l[i] = false) (e : l[i] = 47 ∨ l[i] = 46) (hb : b < i) : Ph l b (i + 1) (i + 1) [l[i]] := by
  cases h with
  | one h1 h2 h3 h4 => exact .two e (f_no hi d h3 h4) hb hi rfl (Nat.le_refl _) (by omega) rfl (by omega) fun _ z => by omega
theorem ph_one {l : List Nat} {b i s : Nat} (h : Ph l b i s []) : s = b := by
  cases h
  rfl
theorem ph_none {l : List Nat} {b s : Nat} {sg : List Nat} (h : Ph l b l.length s sg) (e : l.length = s) : parB l b = .error l.length := by
  cases h with
  | one h1 h2 h3 h4 => rw [e]; exact par_none (by rw [f_stop h3 h4, e])
  | two h1 h2 h3 h4 h5 h6 h7 h8 h9 h10 =>
    have f := f_stop h8 h9
    rw [e] at f
    rcases h1 with rfl | rfl
    · rw [par_slash h2 h3 h4 h5, un_none f, e]
    · rw [par_dot h2 h3 h4 h5, ten_none f, e]
theorem nz_seg {l : List Nat} {s i : Nat} (hs : i + 1 = s + 40) (hi : i < l.length) (d : isD l[i] = true) (hd : dend l i = dend l s) (h : ¬ (l[i] = 48 ∧ seg l s i = List.replicate 39 48)) : PySem.NumText.digitsVal (seg l s (i + 1)) ≠ 0 := by
  have dy := dend_yes hi d
  have dg2 := dend_ge l (i + 1)
  rw [seg_succ (by omega) hi, val_app]
  intro z
  have d1 := (isD_iff _).mp d
  have vz := val_zero 39 (seg l s i) (by rw [seg_len (by omega) (by omega)]; omega) (seg_dig (by omega))
  exact h ⟨by omega, vz.mp (by omega)⟩
theorem join2 (a b : Str) : Txt.join (Str.ofString "") [a, b] = a ++ b := by
  have e : Str.ofString "" = tx [] := by decide +kernel
  rw [e, tx_list (Txt.join (tx []) [a, b]), tx_list (a ++ b)]
  congr 1
theorem pad_len {m : Nat} (h : m < 1000000000000000000000000000000000000000000000000000000000000) : (pad 60 m).length = 60 := by
  have := dg_len (m := m) h
  unfold pad
  rw [List.length_append, List.length_replicate]
  omega
theorem nT_pieces {n : Int} (h1 : 0 ≤ n) (h2 : 1000000000000000000000000000000000000000000000000000000000000 ≤ n) : nT (n / 1000000000000000000000000000000000000000000000000000000000000) ++ tx (pad 60 (n % 1000000000000000000000000000000000000000000000000000000000000).toNat) = nT n := by
  obtain ⟨k, rfl⟩ := Int.eq_ofNat_of_zero_le h1
  have p60' : (10 : Nat) ^ (59 + 1) = 1000000000000000000000000000000000000000000000000000000000000 := by decide +kernel
  have e := dg_pad 59 (k / 1000000000000000000000000000000000000000000000000000000000000) (k % 1000000000000000000000000000000000000000000000000000000000000) (by omega) (by rw [p60']; omega)
  rw [p60', Nat.div_add_mod'] at e
  have e1 : (k : Int) / 1000000000000000000000000000000000000000000000000000000000000 = ((k / 1000000000000000000000000000000000000000000000000000000000000 : Nat) : Int) := by omega
  have e2 : ((k : Int) % 1000000000000000000000000000000000000000000000000000000000000).toNat = k % 1000000000000000000000000000000000000000000000000000000000000 := by omega
  have nn : ∀ m : Nat, nT (m : Int) = tx (dg m) := fun m => by
    rw [nT_eq]
    unfold sT
    rw [if_neg (by omega)]
    rfl
  rw [e1, e2, nn, nn, tx_app, e]
theorem log120 {i : Int} (h0 : -1000000000000000000000000000000000000000000000000000000000000000000000000000000000000000000000000000000000000000000000000 < i) (h1 : i < 1000000000000000000000000000000000000000000000000000000000000000000000000000000000000000000000000000000000000000000000000) : i.natAbs.log2 < 1920 := by
  have e : 1000000000000000000000000000000000000000000000000000000000000000000000000000000000000000000000000000000000000000000000000 ≤ (2 : Nat) ^ 400 := by decide +kernel
  exact Nat.lt_of_lt_of_le (PySem.Flt.log2_lt_of (k := 400) (by decide) (by omega)) (by decide)
theorem sT120 {n : Int} (h1 : -1000000000000000000000000000000000000000000000000000000000000000000000000000000000000000000000000000000000000000000000000 < n) (h2 : n < 1000000000000000000000000000000000000000000000000000000000000000000000000000000000000000000000000000000000000000000000000) : (sT n).length ≤ 121 := by
  have := dig_len 119 n.natAbs (by
    have : (10 : Nat) ^ (119 + 1) = 1000000000000000000000000000000000000000000000000000000000000000000000000000000000000000000000000000000000000000000000000 := by decide +kernel
    omega)
  unfold sT dg
  split
  · rw [List.length_cons, List.length_map]
    omega
  · rw [List.length_map]
    omega
theorem par_err {l : List Nat} {p : Nat} (h : parR l = .error p) : p ≤ l.length := by
  unfold parR at h
  have hb : (if l.take 1 = [45] then 1 else 0) ≤ l.length := by
    by_cases c : l.take 1 = [45]
    · rw [if_pos c]
      have := congrArg List.length c
      rw [List.length_take] at this
      simp at this
      omega
    · rw [if_neg c]
      omega
  generalize (if l.take 1 = [45] then 1 else 0) = b at *
  unfold parB at h
  have le := fEnd_le hb
  split at h
  · cases h
    exact hb
  split at h
  · rename_i c
    have lt := take1_lt c
    have le2 := fEnd_le (l := l) (b := fEnd l b + 1) (by omega)
    cases hu : underR l (fEnd l b + 1) with
    | ok w =>
      rw [hu] at h
      cases h
    | error q =>
      rw [hu] at h
      cases h
      unfold underR at hu
      split at hu
      · cases hu
        omega
      split at hu
      · cases hu
        omega
      split at hu
      · cases hu
        omega
      split at hu
      · cases hu
        omega
      · cases hu
  split at h
  · rename_i c
    have lt := take1_lt c
    have le2 := fEnd_le (l := l) (b := fEnd l b + 1) (by omega)
    unfold tenR at h
    split at h
    · cases h
      omega
    split at h
    · cases h
      omega
    · cases h
  split at h
  · cases h
    exact le
  · cases h
section
variable {P : Program} {w : World} {K : PySem.W.Frag} {mg : Str → Option Value} {base : Heap} {tabs : Tf}
def sp_is_integer : SpD :=
  fun ds R => match ds with
  | [.int _] => R (.bl true)
  | _ => False
set_option maxHeartbeats 0 in
theorem ok_is_integer (T : Txt K mg) (D0 : Dfn K mg "is_integer" "is_integer" s_is_integer ["value"] [])  : Cal P w K mg base tabs "is_integer" 1 1 ["value"] [] sp_is_integer := by
  refine cal_of D0 sc_is_integer fun f cdv A outer s H E p ht hg hk hr => ⟨_, (pdss_one (pds_ret (pd_and (pd_callB cd_isi rfl T.b_isinstance PyProof.Rows.boot_isinstance (pda_cons (pd_var 0) (pda_cons (pd_ty rfl T.b_int PyProof.Rows.boot_int) pda_nil))) (pd_one (pd_not (pd_callB cd_isi rfl T.b_isinstance PyProof.Rows.boot_isinstance (pda_cons (pd_var 0) (pda_cons (pd_ty rfl T.b_bool PyProof.Rows.boot_bool) pda_nil)))))))), ?_⟩
  intro ds R hl h; unfold sp_is_integer at h; split at h
  all_goals (try exact False.elim h)
  all_goals clear hl hg hr hk ht
  simp (implicitDefEqProofs := false) (maxSteps := 3000000) only [gAddS, gMulS, gSlS, gIxS, cLenS, gInS, cStrI, cIntS, dJoin, gJ, dReplC, dZfill, strsOf, xaCons, xaNil, xExpr, xSeq, xIf, xRet, xRaise, xOf, xB, xBK, xAsg, xTry, xTryIs, xHeard, mD0, mD1, mD2, startD, List.map_cons, List.map_nil, List.length_cons, List.length_nil, List.replicate, List.cons_append, List.nil_append, Nat.reduceAdd, Nat.reduceSub, Nat.zero_add, dSeq, dIfS, dOr, dAnd, dNot, dTst, dOp, dUn, dVar, dC, dB, dBK, dCons, dNil, dTup, dLst, dRet, dRetN, dRetF, dRetO, dBO, dFr, dRepL, dCatL, dRev, dRevL, dSlO, dCatO, cSorted, SpO.sp, dNext, dNever, dAsg, dPar, dPar3, dParO, dIf, dAndV, dOrV, dNotV, dCh, dCt, cLast, cLink, tLast, tLink, dDrop, dFor, dBrk, dCnt, dOwn, dApp, dExt, dFree, gPutO, dIxO, dLend, dLendT, dLcF, gN, gTu, gCn, gNl, gP0, gP1, gII, gIIc, gAdd, gNeg, gIx, gEq, gNe, gIs, gIsNot, gIn, gNotIn, gSl, oNone, oSome, gMt, gIndex, cTuple, cList, cI1, cI2, cInt, cLen, cMax, cMin, cMaxT, cMinT, dAug, cAll, cAny, cRepr, cSqrt, cIsi, tyN, isNon, kb_tt, kb_ii, kb_ib, kb_bi, kb_bb, kb_it, kb_bt, kb_nt, kb_ni, kb_lt, kb_li, kb_ti, kb_si, kb_st, kb_ss, rd, dTru, dRgN, dEnum, gMulT, gDivN, gDivNB, gEqF, dCallV, spOf, atD, ordD, dSq, dZip, dZipM, dZip3, zipD3_map, gShl, dParOO, zipD_map, ivD, dRg1, dRg2, dLc, dYes, dLcGo, dGen, dGenGo, wipeD, boolsOf, intsOf, maxL, minL, noL, noLs, Option.map_some, Option.bind_some, List.all_cons, List.all_nil, List.any_cons, List.any_nil, id_eq, List.set_cons_zero, List.set_cons_succ, List.getElem?_cons_zero, List.getElem?_cons_succ, List.getElem?_nil, List.getD_cons_zero, List.getD_cons_succ, decide_eq_true_eq, decide_eq_false_iff_not, Bool.not_eq_true', Bool.not_true, Bool.not_false, Bool.and_true, Bool.true_and, Bool.and_false, Bool.false_and, Bool.false_eq_true, if_true, if_false, reduceIte, ite_true, ite_false, true_and, and_true, reduceCtorEq, Int.toNat_zero, Int.toNat_one, Int.cast_ofNat_Int, Int.reduceLT, Int.reduceLE, Int.reduceNeg, Int.reduceToNat, Int.reducePow, Int.reduceMul, Int.reduceAdd, Int.reduceSub, decide_true, decide_false]
  exact h
def sp_is_ratio : SpD :=
  fun ds R => match ds with
  | [.tup [.int a, .int b]] => (1 ≤ b ∧ Nat.gcd a.natAbs b.natAbs = 1) ∧ R (.bl true)
  | _ => False
set_option maxHeartbeats 0 in
theorem ok_is_ratio (T : Txt K mg) (D0 : Dfn K mg "is_ratio" "is_ratio" s_is_ratio ["value"] []) (C_is_integer : Cal P w K mg base tabs "is_integer" 1 1 ["value"] [] sp_is_integer) : Cal P w K mg base tabs "is_ratio" 2 1 ["value"] [] sp_is_ratio := by
  refine cal_of D0 sc_is_ratio fun f cdv A outer s H E p ht hg hk hr => ⟨_, (pdss_cons (pds_if (pdw_t (pdw_or (pdt_not (pdt_val (pd_callB cd_isi rfl T.b_isinstance PyProof.Rows.boot_isinstance (pda_cons (pd_var 0) (pda_cons (pd_ty rfl T.b_tuple PyProof.Rows.boot_tuple) pda_nil))))) (pdw_or1 (pdt_cmp (opd_ne hr.units) (pd_callB cd_len rfl T.b_len PySem.boot_len (pda_cons (pd_var 0) pda_nil)) pd_int)))) (pdss_one (pds_ret pd_bl)) pdss_nil)
      (pdss_cons (pds_asg (pd_var 0) (pdg_tup (n := 2) rfl (pdgs_cons (pdg_name (i := 1) sc_is_ratio.nd rfl (Or.inl rfl)) (pdgs_cons (pdg_name (i := 2) sc_is_ratio.nd rfl (Or.inl rfl)) pdgs_nil))))
      (pdss_cons (pds_if (pdw_t (pdw_or (pdt_not (pdt_val (pdcC (C_is_integer.cal ht) hg hr (pda_cons (pd_var 1) pda_nil)))) (pdw_or1 (pdt_not (pdt_val (pdcC (C_is_integer.cal ht) hg hr (pda_cons (pd_var 2) pda_nil))))))) (pdss_one (pds_ret pd_bl)) pdss_nil)
      (pdss_one (pds_ret (pd_and (pd_cmp opd_ge (pd_var 2) pd_int) (pd_one (pd_cmp (opd_eq hr.units) (pd_callFun cd_gcd rfl T.m_gcd (pda_cons (pd_var 1) (pda_cons (pd_var 2) pda_nil))) pd_int)))))))), ?_⟩
  intro ds R hl h; unfold sp_is_ratio at h; split at h
  all_goals (try exact False.elim h)
  all_goals clear hl hg hr hk ht
  rename_i a b
  obtain ⟨⟨h1, h2⟩, h⟩ := h
  simp (implicitDefEqProofs := false) (maxSteps := 3000000) only [gAddS, gMulS, gSlS, gIxS, cLenS, gInS, cStrI, cIntS, dJoin, gJ, dReplC, dZfill, strsOf, xaCons, xaNil, xExpr, xSeq, xIf, xRet, xRaise, xOf, xB, xBK, xAsg, xTry, xTryIs, xHeard, mD0, mD1, mD2, startD, List.map_cons, List.map_nil, List.length_cons, List.length_nil, List.replicate, List.cons_append, List.nil_append, Nat.reduceAdd, Nat.reduceSub, Nat.zero_add, dSeq, dIfS, dOr, dAnd, dNot, dTst, dOp, dUn, dVar, dC, dB, dBK, dCons, dNil, dTup, dLst, dRet, dRetN, dRetF, dRetO, dBO, dFr, dRepL, dCatL, dRev, dRevL, dSlO, dCatO, cSorted, SpO.sp, dNext, dNever, dAsg, dPar, dPar3, dParO, dIf, dAndV, dOrV, dNotV, dCh, dCt, cLast, cLink, tLast, tLink, dDrop, dFor, dBrk, dCnt, dOwn, dApp, dExt, dFree, gPutO, dIxO, dLend, dLendT, dLcF, gN, gTu, gCn, gNl, gP0, gP1, gII, gIIc, gAdd, gNeg, gIx, gEq, gNe, gIs, gIsNot, gIn, gNotIn, gSl, oNone, oSome, gMt, gIndex, cTuple, cList, cI1, cI2, cInt, cLen, cMax, cMin, cMaxT, cMinT, dAug, cAll, cAny, cRepr, cSqrt, cIsi, tyN, isNon, kb_tt, kb_ii, kb_ib, kb_bi, kb_bb, kb_it, kb_bt, kb_nt, kb_ni, kb_lt, kb_li, kb_ti, kb_si, kb_st, kb_ss, rd, dTru, dRgN, dEnum, gMulT, gDivN, gDivNB, gEqF, dCallV, spOf, atD, ordD, dSq, dZip, dZipM, dZip3, zipD3_map, gShl, dParOO, zipD_map, ivD, dRg1, dRg2, dLc, dYes, dLcGo, dGen, dGenGo, wipeD, boolsOf, intsOf, maxL, minL, noL, noLs, Option.map_some, Option.bind_some, List.all_cons, List.all_nil, List.any_cons, List.any_nil, id_eq, List.set_cons_zero, List.set_cons_succ, List.getElem?_cons_zero, List.getElem?_cons_succ, List.getElem?_nil, List.getD_cons_zero, List.getD_cons_succ, decide_eq_true_eq, decide_eq_false_iff_not, Bool.not_eq_true', Bool.not_true, Bool.not_false, Bool.and_true, Bool.true_and, Bool.and_false, Bool.false_and, Bool.false_eq_true, if_true, if_false, reduceIte, ite_true, ite_false, true_and, and_true, reduceCtorEq, Int.toNat_zero, Int.toNat_one, Int.cast_ofNat_Int, Int.reduceLT, Int.reduceLE, Int.reduceNeg, Int.reduceToNat, Int.reducePow, Int.reduceMul, Int.reduceAdd, Int.reduceSub, decide_true, decide_false, sp_is_integer]
  rw [if_pos h1, h2]
  exact h
def sp__law_draw : SpD :=
  fun ds R => match ds with
  | [.pot, .int n] => (0 < n ∧ n < 1606938044258990275541962092341162602522202993782792835301376) ∧ ∀ r : Int, 0 ≤ r → r < n → R (.int r)
  | _ => False
set_option maxHeartbeats 0 in
theorem ok__law_draw (T : Txt K mg) (D0 : Dfn K mg "_law_draw" "_law_draw" s__law_draw ["pot", "room"] [])  : Cal P w K mg base tabs "_law_draw" 1 2 ["pot", "room"] [] sp__law_draw := by
  refine cal_of D0 sc__law_draw fun f cdv A outer s H E p ht hg hk hr => ⟨_, (pdss_cons (pds_if (pdt_cmp opd_gt (pd_ix (pd_var 0) pd_int) pd_int) (pdss_cons (pds_asg (pd_callB cd_divmod rfl T.b_divmod PyProof.Rows.boot_divmod (pda_cons (pd_ix (pd_var 0) pd_int) (pda_cons (pd_var 1) pda_nil))) (pdg_tup (n := 2) rfl (pdgs_cons (pdg_p0 (i := 0) rfl (pd_var 0) pd_int) (pdgs_cons (pdg_name (i := 2) sc__law_draw.nd rfl (Or.inl rfl)) pdgs_nil))))
      (pdss_one (pds_ret (pd_var 2)))) pdss_nil)
      (pdss_cons (pds_asg (pd_bin opd_mod (pd_callTy cd_int rfl T.b_int PyProof.Rows.boot_int (pda_cons (pd_bin opd_add (pd_bin opd_mul (pd_ix (pd_var 0) pd_int) pd_int) pd_int) pda_nil)) pd_int) (pdg_p1 (i := 0) rfl (pd_var 0) pd_int))
      (pdss_one (pds_ret (pd_bin opd_mod (pd_callTy cd_int rfl T.b_int PyProof.Rows.boot_int (pda_cons (pd_bin opd_div (pd_bin opd_mod (pd_callTy cd_int rfl T.b_int PyProof.Rows.boot_int (pda_cons (pd_bin opd_mul (pd_ix (pd_var 0) pd_int) (pd_ix (pd_var 0) pd_int)) pda_nil)) pd_int) pd_int) pda_nil)) (pd_var 1)))))), ?_⟩
  intro ds R hl h; unfold sp__law_draw at h; split at h
  all_goals (try exact False.elim h)
  all_goals clear hl hg hr hk ht
  rename_i n
  obtain ⟨⟨h1, h2⟩, h⟩ := h
  simp (implicitDefEqProofs := false) (maxSteps := 3000000) only [gAddS, gMulS, gSlS, gIxS, cLenS, gInS, cStrI, cIntS, dJoin, gJ, dReplC, dZfill, strsOf, xaCons, xaNil, xExpr, xSeq, xIf, xRet, xRaise, xOf, xB, xBK, xAsg, xTry, xTryIs, xHeard, mD0, mD1, mD2, startD, List.map_cons, List.map_nil, List.length_cons, List.length_nil, List.replicate, List.cons_append, List.nil_append, Nat.reduceAdd, Nat.reduceSub, Nat.zero_add, dSeq, dIfS, dOr, dAnd, dNot, dTst, dOp, dUn, dVar, dC, dB, dBK, dCons, dNil, dTup, dLst, dRet, dRetN, dRetF, dRetO, dBO, dFr, dRepL, dCatL, dRev, dRevL, dSlO, dCatO, cSorted, SpO.sp, dNext, dNever, dAsg, dPar, dPar3, dParO, dIf, dAndV, dOrV, dNotV, dCh, dCt, cLast, cLink, tLast, tLink, dDrop, dFor, dBrk, dCnt, dOwn, dApp, dExt, dFree, gPutO, dIxO, dLend, dLendT, dLcF, gN, gTu, gCn, gNl, gP0, gP1, gII, gIIc, gAdd, gNeg, gIx, gEq, gNe, gIs, gIsNot, gIn, gNotIn, gSl, oNone, oSome, gMt, gIndex, cTuple, cList, cI1, cI2, cInt, cLen, cMax, cMin, cMaxT, cMinT, dAug, cAll, cAny, cRepr, cSqrt, cIsi, tyN, isNon, kb_tt, kb_ii, kb_ib, kb_bi, kb_bb, kb_it, kb_bt, kb_nt, kb_ni, kb_lt, kb_li, kb_ti, kb_si, kb_st, kb_ss, rd, dTru, dRgN, dEnum, gMulT, gDivN, gDivNB, gEqF, dCallV, spOf, atD, ordD, dSq, dZip, dZipM, dZip3, zipD3_map, gShl, dParOO, zipD_map, ivD, dRg1, dRg2, dLc, dYes, dLcGo, dGen, dGenGo, wipeD, boolsOf, intsOf, maxL, minL, noL, noLs, Option.map_some, Option.bind_some, List.all_cons, List.all_nil, List.any_cons, List.any_nil, id_eq, List.set_cons_zero, List.set_cons_succ, List.getElem?_cons_zero, List.getElem?_cons_succ, List.getElem?_nil, List.getD_cons_zero, List.getD_cons_succ, decide_eq_true_eq, decide_eq_false_iff_not, Bool.not_eq_true', Bool.not_true, Bool.not_false, Bool.and_true, Bool.true_and, Bool.and_false, Bool.false_and, Bool.false_eq_true, if_true, if_false, reduceIte, ite_true, ite_false, true_and, and_true, reduceCtorEq, Int.toNat_zero, Int.toNat_one, Int.cast_ofNat_Int, Int.reduceLT, Int.reduceLE, Int.reduceNeg, Int.reduceToNat, Int.reducePow, Int.reduceMul, Int.reduceAdd, Int.reduceSub, decide_true, decide_false]
  intro a ha
  split
  · intro b hb
    refine ⟨?_, ?_, h _ ?_ ?_⟩ <;> (first | assumption | omega | (exact BD.of (by omega) (by omega)) | (exact BS.of (by omega) (by omega)) | (exact MulC.left (by omega) (by omega)) | (exact MulC.right (by omega) (by omega)) | (exact MulC.wide (by omega) (by omega) (by omega) (by omega)) | (exact em0 (by omega)) | (exact em1 (by omega)) | (exact ed0 (by omega) (by omega)))
  · intro b hb hb2
    refine ⟨?_, ?_, ?_⟩
    · (first | assumption | omega | (exact BD.of (by omega) (by omega)) | (exact BS.of (by omega) (by omega)) | (exact MulC.left (by omega) (by omega)) | (exact MulC.right (by omega) (by omega)) | (exact MulC.wide (by omega) (by omega) (by omega) (by omega)) | (exact em0 (by omega)) | (exact em1 (by omega)) | (exact ed0 (by omega) (by omega)))
    · (first | assumption | omega | (exact BD.of (by omega) (by omega)) | (exact BS.of (by omega) (by omega)) | (exact MulC.left (by omega) (by omega)) | (exact MulC.right (by omega) (by omega)) | (exact MulC.wide (by omega) (by omega) (by omega) (by omega)) | (exact em0 (by omega)) | (exact em1 (by omega)) | (exact ed0 (by omega) (by omega)))
    · intro c hc hc2 d hd hd2
      refine ⟨?_, ?_, ?_, h _ ?_ ?_⟩ <;> (first | assumption | omega | (exact BD.of (by omega) (by omega)) | (exact BS.of (by omega) (by omega)) | (exact MulC.left (by omega) (by omega)) | (exact MulC.right (by omega) (by omega)) | (exact MulC.wide (by omega) (by omega) (by omega) (by omega)) | (exact em0 (by omega)) | (exact em1 (by omega)) | (exact ed0 (by omega) (by omega)))
def sp__law_pick : SpD :=
  fun ds R => match ds with
  | [.pot, .lst l] => (1 ≤ l.length ∧ l.length ≤ 1000000) ∧ ∀ x ∈ l, R x
  | _ => False
set_option maxHeartbeats 0 in
theorem ok__law_pick (T : Txt K mg) (D0 : Dfn K mg "_law_pick" "_law_pick" s__law_pick ["pot", "some"] []) (C__law_draw : Cal P w K mg base tabs "_law_draw" 1 2 ["pot", "room"] [] sp__law_draw) : Cal P w K mg base tabs "_law_pick" 2 2 ["pot", "some"] [] sp__law_pick := by
  refine cal_of D0 sc__law_pick fun f cdv A outer s H E p ht hg hk hr => ⟨_, (pdss_one (pds_ret (pd_ix (pd_var 1) (pdcC (C__law_draw.cal ht) hg hr (pda_cons (pd_var 0) (pda_cons (pd_callB cd_len rfl T.b_len PySem.boot_len (pda_cons (pd_var 1) pda_nil)) pda_nil)))))), ?_⟩
  intro ds R hl h; unfold sp__law_pick at h; split at h
  all_goals (try exact False.elim h)
  all_goals clear hl hg hr hk ht
  rename_i l
  obtain ⟨⟨h1, h2⟩, h⟩ := h
  simp (implicitDefEqProofs := false) (maxSteps := 3000000) only [gAddS, gMulS, gSlS, gIxS, cLenS, gInS, cStrI, cIntS, dJoin, gJ, dReplC, dZfill, strsOf, xaCons, xaNil, xExpr, xSeq, xIf, xRet, xRaise, xOf, xB, xBK, xAsg, xTry, xTryIs, xHeard, mD0, mD1, mD2, startD, List.map_cons, List.map_nil, List.length_cons, List.length_nil, List.replicate, List.cons_append, List.nil_append, Nat.reduceAdd, Nat.reduceSub, Nat.zero_add, dSeq, dIfS, dOr, dAnd, dNot, dTst, dOp, dUn, dVar, dC, dB, dBK, dCons, dNil, dTup, dLst, dRet, dRetN, dRetF, dRetO, dBO, dFr, dRepL, dCatL, dRev, dRevL, dSlO, dCatO, cSorted, SpO.sp, dNext, dNever, dAsg, dPar, dPar3, dParO, dIf, dAndV, dOrV, dNotV, dCh, dCt, cLast, cLink, tLast, tLink, dDrop, dFor, dBrk, dCnt, dOwn, dApp, dExt, dFree, gPutO, dIxO, dLend, dLendT, dLcF, gN, gTu, gCn, gNl, gP0, gP1, gII, gIIc, gAdd, gNeg, gIx, gEq, gNe, gIs, gIsNot, gIn, gNotIn, gSl, oNone, oSome, gMt, gIndex, cTuple, cList, cI1, cI2, cInt, cLen, cMax, cMin, cMaxT, cMinT, dAug, cAll, cAny, cRepr, cSqrt, cIsi, tyN, isNon, kb_tt, kb_ii, kb_ib, kb_bi, kb_bb, kb_it, kb_bt, kb_nt, kb_ni, kb_lt, kb_li, kb_ti, kb_si, kb_st, kb_ss, rd, dTru, dRgN, dEnum, gMulT, gDivN, gDivNB, gEqF, dCallV, spOf, atD, ordD, dSq, dZip, dZipM, dZip3, zipD3_map, gShl, dParOO, zipD_map, ivD, dRg1, dRg2, dLc, dYes, dLcGo, dGen, dGenGo, wipeD, boolsOf, intsOf, maxL, minL, noL, noLs, Option.map_some, Option.bind_some, List.all_cons, List.all_nil, List.any_cons, List.any_nil, id_eq, List.set_cons_zero, List.set_cons_succ, List.getElem?_cons_zero, List.getElem?_cons_succ, List.getElem?_nil, List.getD_cons_zero, List.getD_cons_succ, decide_eq_true_eq, decide_eq_false_iff_not, Bool.not_eq_true', Bool.not_true, Bool.not_false, Bool.and_true, Bool.true_and, Bool.and_false, Bool.false_and, Bool.false_eq_true, if_true, if_false, reduceIte, ite_true, ite_false, true_and, and_true, reduceCtorEq, Int.toNat_zero, Int.toNat_one, Int.cast_ofNat_Int, Int.reduceLT, Int.reduceLE, Int.reduceNeg, Int.reduceToNat, Int.reducePow, Int.reduceMul, Int.reduceAdd, Int.reduceSub, decide_true, decide_false, sp__law_draw]
  refine ⟨by omega, fun r r0 r1 => ?_⟩
  rw [if_pos r0]
  have hr : r.toNat < l.length := by omega
  rw [List.getElem?_eq_getElem hr]
  exact h _ (List.getElem_mem hr)
def sp__law_one : SpD :=
  fun ds R => match ds with
  | [] => R (.int 1099511627776)
  | _ => False
set_option maxHeartbeats 0 in
theorem ok__law_one (T : Txt K mg) (D0 : Dfn K mg "_law_one" "_law_one" s__law_one [] [])  : Cal P w K mg base tabs "_law_one" 1 0 [] [] sp__law_one := by
  refine cal_of D0 sc__law_one fun f cdv A outer s H E p ht hg hk hr => ⟨_, (pdss_one (pds_ret (pd_bin opd_pow pd_int pd_int))), ?_⟩
  intro ds R hl h; unfold sp__law_one at h; split at h
  all_goals (try exact False.elim h)
  all_goals clear hl hg hr hk ht
  simp (implicitDefEqProofs := false) (maxSteps := 3000000) only [gAddS, gMulS, gSlS, gIxS, cLenS, gInS, cStrI, cIntS, dJoin, gJ, dReplC, dZfill, strsOf, xaCons, xaNil, xExpr, xSeq, xIf, xRet, xRaise, xOf, xB, xBK, xAsg, xTry, xTryIs, xHeard, mD0, mD1, mD2, startD, List.map_cons, List.map_nil, List.length_cons, List.length_nil, List.replicate, List.cons_append, List.nil_append, Nat.reduceAdd, Nat.reduceSub, Nat.zero_add, dSeq, dIfS, dOr, dAnd, dNot, dTst, dOp, dUn, dVar, dC, dB, dBK, dCons, dNil, dTup, dLst, dRet, dRetN, dRetF, dRetO, dBO, dFr, dRepL, dCatL, dRev, dRevL, dSlO, dCatO, cSorted, SpO.sp, dNext, dNever, dAsg, dPar, dPar3, dParO, dIf, dAndV, dOrV, dNotV, dCh, dCt, cLast, cLink, tLast, tLink, dDrop, dFor, dBrk, dCnt, dOwn, dApp, dExt, dFree, gPutO, dIxO, dLend, dLendT, dLcF, gN, gTu, gCn, gNl, gP0, gP1, gII, gIIc, gAdd, gNeg, gIx, gEq, gNe, gIs, gIsNot, gIn, gNotIn, gSl, oNone, oSome, gMt, gIndex, cTuple, cList, cI1, cI2, cInt, cLen, cMax, cMin, cMaxT, cMinT, dAug, cAll, cAny, cRepr, cSqrt, cIsi, tyN, isNon, kb_tt, kb_ii, kb_ib, kb_bi, kb_bb, kb_it, kb_bt, kb_nt, kb_ni, kb_lt, kb_li, kb_ti, kb_si, kb_st, kb_ss, rd, dTru, dRgN, dEnum, gMulT, gDivN, gDivNB, gEqF, dCallV, spOf, atD, ordD, dSq, dZip, dZipM, dZip3, zipD3_map, gShl, dParOO, zipD_map, ivD, dRg1, dRg2, dLc, dYes, dLcGo, dGen, dGenGo, wipeD, boolsOf, intsOf, maxL, minL, noL, noLs, Option.map_some, Option.bind_some, List.all_cons, List.all_nil, List.any_cons, List.any_nil, id_eq, List.set_cons_zero, List.set_cons_succ, List.getElem?_cons_zero, List.getElem?_cons_succ, List.getElem?_nil, List.getD_cons_zero, List.getD_cons_succ, decide_eq_true_eq, decide_eq_false_iff_not, Bool.not_eq_true', Bool.not_true, Bool.not_false, Bool.and_true, Bool.true_and, Bool.and_false, Bool.false_and, Bool.false_eq_true, if_true, if_false, reduceIte, ite_true, ite_false, true_and, and_true, reduceCtorEq, Int.toNat_zero, Int.toNat_one, Int.cast_ofNat_Int, Int.reduceLT, Int.reduceLE, Int.reduceNeg, Int.reduceToNat, Int.reducePow, Int.reduceMul, Int.reduceAdd, Int.reduceSub, decide_true, decide_false]
  exact h
def sp__law_gcd : SpD :=
  fun ds R => match ds with
  | [.int a, .int b] => b ≠ 0 ∧ R (.int ((Nat.gcd a.natAbs b.natAbs : Nat) : Int))
  | _ => False
set_option maxHeartbeats 0 in
theorem ok__law_gcd (T : Txt K mg) (D0 : Dfn K mg "_law_gcd" "_law_gcd" s__law_gcd ["one", "other"] [])  : Cal P w K mg base tabs "_law_gcd" 1 2 ["one", "other"] [] sp__law_gcd := by
  refine cal_of D0 sc__law_gcd fun f cdv A outer s H E p ht hg hk hr => ⟨_, (pdss_cons (pds_while PassesOwn.never (pdt_cmp (opd_ne hr.units) (pd_var 1) pd_int) (pdss_one (pds_par (i := 0) (j := 1) rfl sc__law_gcd.nd rfl rfl (by decide) rfl rfl (pda_cons (pd_var 1) (pda_cons (pd_bin opd_modN (pd_var 0) (pd_var 1)) pda_nil)) (by rfl))))
      (pdss_one (pds_ret (pd_callB cd_abs rfl T.b_abs PyProof.Rows.boot_abs (pda_cons (pd_var 0) pda_nil))))), ?_⟩
  intro ds R hl h; unfold sp__law_gcd at h; split at h
  all_goals (try exact False.elim h)
  all_goals clear hl hg hr hk ht
  rename_i a b
  obtain ⟨h1, h⟩ := h
  simp (implicitDefEqProofs := false) (maxSteps := 3000000) only [gAddS, gMulS, gSlS, gIxS, cLenS, gInS, cStrI, cIntS, dJoin, gJ, dReplC, dZfill, strsOf, xaCons, xaNil, xExpr, xSeq, xIf, xRet, xRaise, xOf, xB, xBK, xAsg, xTry, xTryIs, xHeard, mD0, mD1, mD2, startD, List.map_cons, List.map_nil, List.length_cons, List.length_nil, List.replicate, List.cons_append, List.nil_append, Nat.reduceAdd, Nat.reduceSub, Nat.zero_add, dSeq, dIfS, dOr, dAnd, dNot, dTst, dOp, dUn, dVar, dC, dB, dBK, dCons, dNil, dTup, dLst, dRet, dRetN, dRetF, dRetO, dBO, dFr, dRepL, dCatL, dRev, dRevL, dSlO, dCatO, cSorted, SpO.sp, dNext, dNever, dAsg, dPar, dPar3, dParO, dIf, dAndV, dOrV, dNotV, dCh, dCt, cLast, cLink, tLast, tLink, dDrop, dFor, dBrk, dCnt, dOwn, dApp, dExt, dFree, gPutO, dIxO, dLend, dLendT, dLcF, gN, gTu, gCn, gNl, gP0, gP1, gII, gIIc, gAdd, gNeg, gIx, gEq, gNe, gIs, gIsNot, gIn, gNotIn, gSl, oNone, oSome, gMt, gIndex, cTuple, cList, cI1, cI2, cInt, cLen, cMax, cMin, cMaxT, cMinT, dAug, cAll, cAny, cRepr, cSqrt, cIsi, tyN, isNon, kb_tt, kb_ii, kb_ib, kb_bi, kb_bb, kb_it, kb_bt, kb_nt, kb_ni, kb_lt, kb_li, kb_ti, kb_si, kb_st, kb_ss, rd, dTru, dRgN, dEnum, gMulT, gDivN, gDivNB, gEqF, dCallV, spOf, atD, ordD, dSq, dZip, dZipM, dZip3, zipD3_map, gShl, dParOO, zipD_map, ivD, dRg1, dRg2, dLc, dYes, dLcGo, dGen, dGenGo, wipeD, boolsOf, intsOf, maxL, minL, noL, noLs, Option.map_some, Option.bind_some, List.all_cons, List.all_nil, List.any_cons, List.any_nil, id_eq, List.set_cons_zero, List.set_cons_succ, List.getElem?_cons_zero, List.getElem?_cons_succ, List.getElem?_nil, List.getD_cons_zero, List.getD_cons_succ, decide_eq_true_eq, decide_eq_false_iff_not, Bool.not_eq_true', Bool.not_true, Bool.not_false, Bool.and_true, Bool.true_and, Bool.and_false, Bool.false_and, Bool.false_eq_true, if_true, if_false, reduceIte, ite_true, ite_false, true_and, and_true, reduceCtorEq, Int.toNat_zero, Int.toNat_one, Int.cast_ofNat_Int, Int.reduceLT, Int.reduceLE, Int.reduceNeg, Int.reduceToNat, Int.reducePow, Int.reduceMul, Int.reduceAdd, Int.reduceSub, decide_true, decide_false]
  refine whileI (fun m τ => ∃ c d : Int, τ = [some (.int c), some (.int d)] ∧ d.natAbs = m ∧ Nat.gcd c.natAbs d.natAbs = Nat.gcd a.natAbs b.natAbs) b.natAbs _ ⟨a, b, rfl, rfl, rfl⟩ ?_
  rintro m τ k hk ⟨c, d, rfl, rfl, hg⟩
  simp (implicitDefEqProofs := false) (maxSteps := 3000000) only [gAddS, gMulS, gSlS, gIxS, cLenS, gInS, cStrI, cIntS, dJoin, gJ, dReplC, dZfill, strsOf, xaCons, xaNil, xExpr, xSeq, xIf, xRet, xRaise, xOf, xB, xBK, xAsg, xTry, xTryIs, xHeard, mD0, mD1, mD2, startD, List.map_cons, List.map_nil, List.length_cons, List.length_nil, List.replicate, List.cons_append, List.nil_append, Nat.reduceAdd, Nat.reduceSub, Nat.zero_add, dSeq, dIfS, dOr, dAnd, dNot, dTst, dOp, dUn, dVar, dC, dB, dBK, dCons, dNil, dTup, dLst, dRet, dRetN, dRetF, dRetO, dBO, dFr, dRepL, dCatL, dRev, dRevL, dSlO, dCatO, cSorted, SpO.sp, dNext, dNever, dAsg, dPar, dPar3, dParO, dIf, dAndV, dOrV, dNotV, dCh, dCt, cLast, cLink, tLast, tLink, dDrop, dFor, dBrk, dCnt, dOwn, dApp, dExt, dFree, gPutO, dIxO, dLend, dLendT, dLcF, gN, gTu, gCn, gNl, gP0, gP1, gII, gIIc, gAdd, gNeg, gIx, gEq, gNe, gIs, gIsNot, gIn, gNotIn, gSl, oNone, oSome, gMt, gIndex, cTuple, cList, cI1, cI2, cInt, cLen, cMax, cMin, cMaxT, cMinT, dAug, cAll, cAny, cRepr, cSqrt, cIsi, tyN, isNon, kb_tt, kb_ii, kb_ib, kb_bi, kb_bb, kb_it, kb_bt, kb_nt, kb_ni, kb_lt, kb_li, kb_ti, kb_si, kb_st, kb_ss, rd, dTru, dRgN, dEnum, gMulT, gDivN, gDivNB, gEqF, dCallV, spOf, atD, ordD, dSq, dZip, dZipM, dZip3, zipD3_map, gShl, dParOO, zipD_map, ivD, dRg1, dRg2, dLc, dYes, dLcGo, dGen, dGenGo, wipeD, boolsOf, intsOf, maxL, minL, noL, noLs, Option.map_some, Option.bind_some, List.all_cons, List.all_nil, List.any_cons, List.any_nil, id_eq, List.set_cons_zero, List.set_cons_succ, List.getElem?_cons_zero, List.getElem?_cons_succ, List.getElem?_nil, List.getD_cons_zero, List.getD_cons_succ, decide_eq_true_eq, decide_eq_false_iff_not, Bool.not_eq_true', Bool.not_true, Bool.not_false, Bool.and_true, Bool.true_and, Bool.and_false, Bool.false_and, Bool.false_eq_true, if_true, if_false, reduceIte, ite_true, ite_false, true_and, and_true, reduceCtorEq, Int.toNat_zero, Int.toNat_one, Int.cast_ofNat_Int, Int.reduceLT, Int.reduceLE, Int.reduceNeg, Int.reduceToNat, Int.reducePow, Int.reduceMul, Int.reduceAdd, Int.reduceSub, decide_true, decide_false]
  by_cases e : d = 0
  · subst e
    rw [← hg] at h
    have e2 : Nat.gcd c.natAbs (Int.natAbs 0) = c.natAbs := Nat.gcd_zero_right _
    rw [e2] at h
    simpa using h
  · rw [if_pos e]
    exact ⟨e, hk _ _ (fmod_abs e) ⟨d, c.fmod d, rfl, rfl, by rw [gcd_fmod c d]; exact hg⟩⟩
def sp__law_ratio : SpD :=
  fun ds R => match ds with
  | [.int n, .int u] => (u ≠ 0 ∧ -1606938044258990275541962092341162602522202993782792835301376 < u ∧ u < 1606938044258990275541962092341162602522202993782792835301376) ∧ ∀ q : Int × Int, Rt q → q.1 * u = n * q.2 → q.2 ≤ (u.natAbs : Int) → q.1.natAbs ≤ n.natAbs → R (ivD q)
  | _ => False
set_option maxHeartbeats 0 in
theorem ok__law_ratio (T : Txt K mg) (D0 : Dfn K mg "_law_ratio" "_law_ratio" s__law_ratio ["number", "under"] []) (C__law_gcd : Cal P w K mg base tabs "_law_gcd" 1 2 ["one", "other"] [] sp__law_gcd) : Cal P w K mg base tabs "_law_ratio" 2 2 ["number", "under"] [] sp__law_ratio := by
  refine cal_of D0 sc__law_ratio fun f cdv A outer s H E p ht hg hk hr => ⟨_, (pdss_cons (pds_set (i := 2) sc__law_ratio.nd rfl (Or.inl rfl) (pdcC (C__law_gcd.cal ht) hg hr (pda_cons (pd_var 0) (pda_cons (pd_var 1) pda_nil))))
      (pdss_cons (pds_set (i := 3) sc__law_ratio.nd rfl (Or.inl rfl) (pd_ifx (pdt_cmp opd_gt (pd_var 1) pd_int) pd_int (pd_un und_neg pd_int)))
      (pdss_one (pds_ret (pd_tup (pda_cons (pd_bin opd_div (pd_bin opd_mul (pd_var 3) (pd_var 0)) (pd_var 2)) (pda_cons (pd_bin opd_div (pd_bin opd_mul (pd_var 3) (pd_var 1)) (pd_var 2)) pda_nil))))))), ?_⟩
  intro ds R hl h; unfold sp__law_ratio at h; split at h
  all_goals (try exact False.elim h)
  all_goals clear hl hg hr hk ht
  rename_i n u
  obtain ⟨⟨h0, h1, h2⟩, h⟩ := h
  simp (implicitDefEqProofs := false) (maxSteps := 3000000) only [gAddS, gMulS, gSlS, gIxS, cLenS, gInS, cStrI, cIntS, dJoin, gJ, dReplC, dZfill, strsOf, xaCons, xaNil, xExpr, xSeq, xIf, xRet, xRaise, xOf, xB, xBK, xAsg, xTry, xTryIs, xHeard, mD0, mD1, mD2, startD, List.map_cons, List.map_nil, List.length_cons, List.length_nil, List.replicate, List.cons_append, List.nil_append, Nat.reduceAdd, Nat.reduceSub, Nat.zero_add, dSeq, dIfS, dOr, dAnd, dNot, dTst, dOp, dUn, dVar, dC, dB, dBK, dCons, dNil, dTup, dLst, dRet, dRetN, dRetF, dRetO, dBO, dFr, dRepL, dCatL, dRev, dRevL, dSlO, dCatO, cSorted, SpO.sp, dNext, dNever, dAsg, dPar, dPar3, dParO, dIf, dAndV, dOrV, dNotV, dCh, dCt, cLast, cLink, tLast, tLink, dDrop, dFor, dBrk, dCnt, dOwn, dApp, dExt, dFree, gPutO, dIxO, dLend, dLendT, dLcF, gN, gTu, gCn, gNl, gP0, gP1, gII, gIIc, gAdd, gNeg, gIx, gEq, gNe, gIs, gIsNot, gIn, gNotIn, gSl, oNone, oSome, gMt, gIndex, cTuple, cList, cI1, cI2, cInt, cLen, cMax, cMin, cMaxT, cMinT, dAug, cAll, cAny, cRepr, cSqrt, cIsi, tyN, isNon, kb_tt, kb_ii, kb_ib, kb_bi, kb_bb, kb_it, kb_bt, kb_nt, kb_ni, kb_lt, kb_li, kb_ti, kb_si, kb_st, kb_ss, rd, dTru, dRgN, dEnum, gMulT, gDivN, gDivNB, gEqF, dCallV, spOf, atD, ordD, dSq, dZip, dZipM, dZip3, zipD3_map, gShl, dParOO, zipD_map, ivD, dRg1, dRg2, dLc, dYes, dLcGo, dGen, dGenGo, wipeD, boolsOf, intsOf, maxL, minL, noL, noLs, Option.map_some, Option.bind_some, List.all_cons, List.all_nil, List.any_cons, List.any_nil, id_eq, List.set_cons_zero, List.set_cons_succ, List.getElem?_cons_zero, List.getElem?_cons_succ, List.getElem?_nil, List.getD_cons_zero, List.getD_cons_succ, decide_eq_true_eq, decide_eq_false_iff_not, Bool.not_eq_true', Bool.not_true, Bool.not_false, Bool.and_true, Bool.true_and, Bool.and_false, Bool.false_and, Bool.false_eq_true, if_true, if_false, reduceIte, ite_true, ite_false, true_and, and_true, reduceCtorEq, Int.toNat_zero, Int.toNat_one, Int.cast_ofNat_Int, Int.reduceLT, Int.reduceLE, Int.reduceNeg, Int.reduceToNat, Int.reducePow, Int.reduceMul, Int.reduceAdd, Int.reduceSub, decide_true, decide_false, sp__law_gcd]
  rcases Int.lt_or_gt_of_ne h0 with c | c
  · have g := low_terms (n := -n) (u := -u) (by omega) (by omega)
    have g2 := low_terms2 (n := -n) (u := -u) (by omega) (by omega)
    have gp := gcd_pos (a := -n) (b := -u) (by omega)
    have gl : Nat.gcd (-n).natAbs (-u).natAbs ≤ (-u).natAbs := Nat.gcd_le_right _ (by omega)
    simp only [Int.natAbs_neg] at g g2 gp gl
    rw [if_neg (by omega)]
    refine ⟨by omega, .left (by omega) (by omega), .of (by omega) (by omega), .left (by omega) (by omega), .of (by omega) (by omega), ?_⟩
    rw [Int.neg_one_mul, Int.neg_one_mul]
    refine h _ g.1 (by have := g.2; rw [Int.mul_neg, Int.neg_mul] at this; exact Int.neg_inj.mp this) (by have := g2.1; show -u / _ ≤ _; omega) g2.2
  · have g := low_terms (n := n) c h2
    have g2 := low_terms2 (n := n) c h2
    have gp := gcd_pos (a := n) c
    have gl : Nat.gcd n.natAbs u.natAbs ≤ u.natAbs := Nat.gcd_le_right _ (by omega)
    rw [if_pos c]
    refine ⟨by omega, .left (by omega) (by omega), .of (by omega) (by omega), .left (by omega) (by omega), .of (by omega) (by omega), ?_⟩
    rw [Int.one_mul, Int.one_mul]
    exact h _ g.1 g.2 (by have := g2.1; show u / _ ≤ _; omega) g2.2
def sp__check_integer : SpD :=
  fun ds R => match ds with
  | [.int n] => (-10000000000000000000000000000000000000000 < n ∧ n < 10000000000000000000000000000000000000000) ∧ R .non
  | _ => False
set_option maxHeartbeats 0 in
theorem ok__check_integer (T : Txt K mg) (D0 : Dfn K mg "_check_integer" "_check_integer" s__check_integer ["number"] []) (C_is_integer : Cal P w K mg base tabs "is_integer" 1 1 ["value"] [] sp_is_integer) : Cal P w K mg base tabs "_check_integer" 2 1 ["number"] [] sp__check_integer := by
  refine cal_of D0 sc__check_integer fun f cdv A outer s H E p ht hg hk hr => ⟨_, (pdss_one (pds_if (pdw_t (pdw_or (pdt_not (pdt_val (pdcC (C_is_integer.cal ht) hg hr (pda_cons (pd_var 0) pda_nil)))) (pdw_or1 (pdt_cmp opd_ge (pd_callB cd_abs rfl T.b_abs PyProof.Rows.boot_abs (pda_cons (pd_var 0) pda_nil)) (pd_gint rfl T.m__TOO_LARGE))))) (pdss_one pds_never) pdss_nil)), ?_⟩
  intro ds R hl h; unfold sp__check_integer at h; split at h
  all_goals (try exact False.elim h)
  all_goals clear hl hg hr hk ht
  rename_i n
  obtain ⟨⟨h1, h2⟩, h⟩ := h
  simp (implicitDefEqProofs := false) (maxSteps := 3000000) only [gAddS, gMulS, gSlS, gIxS, cLenS, gInS, cStrI, cIntS, dJoin, gJ, dReplC, dZfill, strsOf, xaCons, xaNil, xExpr, xSeq, xIf, xRet, xRaise, xOf, xB, xBK, xAsg, xTry, xTryIs, xHeard, mD0, mD1, mD2, startD, List.map_cons, List.map_nil, List.length_cons, List.length_nil, List.replicate, List.cons_append, List.nil_append, Nat.reduceAdd, Nat.reduceSub, Nat.zero_add, dSeq, dIfS, dOr, dAnd, dNot, dTst, dOp, dUn, dVar, dC, dB, dBK, dCons, dNil, dTup, dLst, dRet, dRetN, dRetF, dRetO, dBO, dFr, dRepL, dCatL, dRev, dRevL, dSlO, dCatO, cSorted, SpO.sp, dNext, dNever, dAsg, dPar, dPar3, dParO, dIf, dAndV, dOrV, dNotV, dCh, dCt, cLast, cLink, tLast, tLink, dDrop, dFor, dBrk, dCnt, dOwn, dApp, dExt, dFree, gPutO, dIxO, dLend, dLendT, dLcF, gN, gTu, gCn, gNl, gP0, gP1, gII, gIIc, gAdd, gNeg, gIx, gEq, gNe, gIs, gIsNot, gIn, gNotIn, gSl, oNone, oSome, gMt, gIndex, cTuple, cList, cI1, cI2, cInt, cLen, cMax, cMin, cMaxT, cMinT, dAug, cAll, cAny, cRepr, cSqrt, cIsi, tyN, isNon, kb_tt, kb_ii, kb_ib, kb_bi, kb_bb, kb_it, kb_bt, kb_nt, kb_ni, kb_lt, kb_li, kb_ti, kb_si, kb_st, kb_ss, rd, dTru, dRgN, dEnum, gMulT, gDivN, gDivNB, gEqF, dCallV, spOf, atD, ordD, dSq, dZip, dZipM, dZip3, zipD3_map, gShl, dParOO, zipD_map, ivD, dRg1, dRg2, dLc, dYes, dLcGo, dGen, dGenGo, wipeD, boolsOf, intsOf, maxL, minL, noL, noLs, Option.map_some, Option.bind_some, List.all_cons, List.all_nil, List.any_cons, List.any_nil, id_eq, List.set_cons_zero, List.set_cons_succ, List.getElem?_cons_zero, List.getElem?_cons_succ, List.getElem?_nil, List.getD_cons_zero, List.getD_cons_succ, decide_eq_true_eq, decide_eq_false_iff_not, Bool.not_eq_true', Bool.not_true, Bool.not_false, Bool.and_true, Bool.true_and, Bool.and_false, Bool.false_and, Bool.false_eq_true, if_true, if_false, reduceIte, ite_true, ite_false, true_and, and_true, reduceCtorEq, Int.toNat_zero, Int.toNat_one, Int.cast_ofNat_Int, Int.reduceLT, Int.reduceLE, Int.reduceNeg, Int.reduceToNat, Int.reducePow, Int.reduceMul, Int.reduceAdd, Int.reduceSub, decide_true, decide_false, sp_is_integer]
  exact ifN (by omega) h
def sp_ratio_of : SpD :=
  fun ds R => match ds with
  | [.int n, .int u] => (0 < u ∧ u < 1606938044258990275541962092341162602522202993782792835301376) ∧ R (ivD (n / ((Nat.gcd n.natAbs u.natAbs : Nat) : Int), u / ((Nat.gcd n.natAbs u.natAbs : Nat) : Int)))
  | _ => False
set_option maxHeartbeats 0 in
theorem ok_ratio_of (T : Txt K mg) (D0 : Dfn K mg "ratio_of" "ratio_of" s_ratio_of ["number", "under"] [])  : Cal P w K mg base tabs "ratio_of" 1 2 ["number", "under"] [] sp_ratio_of := by
  refine cal_of D0 sc_ratio_of fun f cdv A outer s H E p ht hg hk hr => ⟨_, (pdss_cons (pds_if (pdt_cmp opd_lt (pd_var 1) pd_int) (pdss_cons (pds_set (i := 0) sc_ratio_of.nd rfl (Or.inl rfl) (pd_un und_neg (pd_var 0)))
      (pdss_one (pds_set (i := 1) sc_ratio_of.nd rfl (Or.inl rfl) (pd_un und_neg (pd_var 1))))) pdss_nil)
      (pdss_cons (pds_set (i := 2) sc_ratio_of.nd rfl (Or.inl rfl) (pd_callFun cd_gcd rfl T.m_gcd (pda_cons (pd_var 0) (pda_cons (pd_var 1) pda_nil))))
      (pdss_one (pds_ret (pd_tup (pda_cons (pd_bin opd_div (pd_var 0) (pd_var 2)) (pda_cons (pd_bin opd_div (pd_var 1) (pd_var 2)) pda_nil))))))), ?_⟩
  intro ds R hl h; unfold sp_ratio_of at h; split at h
  all_goals (try exact False.elim h)
  all_goals clear hl hg hr hk ht
  rename_i n u
  obtain ⟨⟨h1, h2⟩, h⟩ := h
  have gp := gcd_pos (a := n) (b := u) (by omega)
  have gl : Nat.gcd n.natAbs u.natAbs ≤ u.natAbs := Nat.gcd_le_right _ (by omega)
  simp (implicitDefEqProofs := false) (maxSteps := 3000000) only [gAddS, gMulS, gSlS, gIxS, cLenS, gInS, cStrI, cIntS, dJoin, gJ, dReplC, dZfill, strsOf, xaCons, xaNil, xExpr, xSeq, xIf, xRet, xRaise, xOf, xB, xBK, xAsg, xTry, xTryIs, xHeard, mD0, mD1, mD2, startD, List.map_cons, List.map_nil, List.length_cons, List.length_nil, List.replicate, List.cons_append, List.nil_append, Nat.reduceAdd, Nat.reduceSub, Nat.zero_add, dSeq, dIfS, dOr, dAnd, dNot, dTst, dOp, dUn, dVar, dC, dB, dBK, dCons, dNil, dTup, dLst, dRet, dRetN, dRetF, dRetO, dBO, dFr, dRepL, dCatL, dRev, dRevL, dSlO, dCatO, cSorted, SpO.sp, dNext, dNever, dAsg, dPar, dPar3, dParO, dIf, dAndV, dOrV, dNotV, dCh, dCt, cLast, cLink, tLast, tLink, dDrop, dFor, dBrk, dCnt, dOwn, dApp, dExt, dFree, gPutO, dIxO, dLend, dLendT, dLcF, gN, gTu, gCn, gNl, gP0, gP1, gII, gIIc, gAdd, gNeg, gIx, gEq, gNe, gIs, gIsNot, gIn, gNotIn, gSl, oNone, oSome, gMt, gIndex, cTuple, cList, cI1, cI2, cInt, cLen, cMax, cMin, cMaxT, cMinT, dAug, cAll, cAny, cRepr, cSqrt, cIsi, tyN, isNon, kb_tt, kb_ii, kb_ib, kb_bi, kb_bb, kb_it, kb_bt, kb_nt, kb_ni, kb_lt, kb_li, kb_ti, kb_si, kb_st, kb_ss, rd, dTru, dRgN, dEnum, gMulT, gDivN, gDivNB, gEqF, dCallV, spOf, atD, ordD, dSq, dZip, dZipM, dZip3, zipD3_map, gShl, dParOO, zipD_map, ivD, dRg1, dRg2, dLc, dYes, dLcGo, dGen, dGenGo, wipeD, boolsOf, intsOf, maxL, minL, noL, noLs, Option.map_some, Option.bind_some, List.all_cons, List.all_nil, List.any_cons, List.any_nil, id_eq, List.set_cons_zero, List.set_cons_succ, List.getElem?_cons_zero, List.getElem?_cons_succ, List.getElem?_nil, List.getD_cons_zero, List.getD_cons_succ, decide_eq_true_eq, decide_eq_false_iff_not, Bool.not_eq_true', Bool.not_true, Bool.not_false, Bool.and_true, Bool.true_and, Bool.and_false, Bool.false_and, Bool.false_eq_true, if_true, if_false, reduceIte, ite_true, ite_false, true_and, and_true, reduceCtorEq, Int.toNat_zero, Int.toNat_one, Int.cast_ofNat_Int, Int.reduceLT, Int.reduceLE, Int.reduceNeg, Int.reduceToNat, Int.reducePow, Int.reduceMul, Int.reduceAdd, Int.reduceSub, decide_true, decide_false]
  rw [if_neg (by omega)]
  exact ⟨.of (by omega) (by omega), .of (by omega) (by omega), h⟩
def sp_ratio_ofany : SpD :=
  fun ds R => match ds with
  | [.int n, .int u] => (u ≠ 0 ∧ -1606938044258990275541962092341162602522202993782792835301376 < u ∧ u < 1606938044258990275541962092341162602522202993782792835301376) ∧ R (ivD (lowF (if u < 0 then -n else n) (if u < 0 then -u else u)))
  | _ => False
set_option maxHeartbeats 0 in
theorem ok_ratio_ofany (T : Txt K mg) (D0 : Dfn K mg "ratio_of" "ratio_of" s_ratio_of ["number", "under"] [])  : Cal P w K mg base tabs "ratio_of" 1 2 ["number", "under"] [] sp_ratio_ofany := by
  refine cal_of D0 sc_ratio_of fun f cdv A outer s H E p ht hg hk hr => ⟨_, (pdss_cons (pds_if (pdt_cmp opd_lt (pd_var 1) pd_int) (pdss_cons (pds_set (i := 0) sc_ratio_of.nd rfl (Or.inl rfl) (pd_un und_neg (pd_var 0)))
      (pdss_one (pds_set (i := 1) sc_ratio_of.nd rfl (Or.inl rfl) (pd_un und_neg (pd_var 1))))) pdss_nil)
      (pdss_cons (pds_set (i := 2) sc_ratio_of.nd rfl (Or.inl rfl) (pd_callFun cd_gcd rfl T.m_gcd (pda_cons (pd_var 0) (pda_cons (pd_var 1) pda_nil))))
      (pdss_one (pds_ret (pd_tup (pda_cons (pd_bin opd_div (pd_var 0) (pd_var 2)) (pda_cons (pd_bin opd_div (pd_var 1) (pd_var 2)) pda_nil))))))), ?_⟩
  intro ds R hl h; unfold sp_ratio_ofany at h; split at h
  all_goals (try exact False.elim h)
  all_goals clear hl hg hr hk ht
  rename_i n u
  obtain ⟨⟨h0, h1, h2⟩, h⟩ := h
  have gp := gcd_pos (a := n) (b := u.natAbs) (by omega)
  have gl : Nat.gcd n.natAbs u.natAbs ≤ u.natAbs := Nat.gcd_le_right _ (by omega)
  rw [Int.natAbs_natCast] at gp
  unfold lowF at h
  simp (implicitDefEqProofs := false) (maxSteps := 3000000) only [gAddS, gMulS, gSlS, gIxS, cLenS, gInS, cStrI, cIntS, dJoin, gJ, dReplC, dZfill, strsOf, xaCons, xaNil, xExpr, xSeq, xIf, xRet, xRaise, xOf, xB, xBK, xAsg, xTry, xTryIs, xHeard, mD0, mD1, mD2, startD, List.map_cons, List.map_nil, List.length_cons, List.length_nil, List.replicate, List.cons_append, List.nil_append, Nat.reduceAdd, Nat.reduceSub, Nat.zero_add, dSeq, dIfS, dOr, dAnd, dNot, dTst, dOp, dUn, dVar, dC, dB, dBK, dCons, dNil, dTup, dLst, dRet, dRetN, dRetF, dRetO, dBO, dFr, dRepL, dCatL, dRev, dRevL, dSlO, dCatO, cSorted, SpO.sp, dNext, dNever, dAsg, dPar, dPar3, dParO, dIf, dAndV, dOrV, dNotV, dCh, dCt, cLast, cLink, tLast, tLink, dDrop, dFor, dBrk, dCnt, dOwn, dApp, dExt, dFree, gPutO, dIxO, dLend, dLendT, dLcF, gN, gTu, gCn, gNl, gP0, gP1, gII, gIIc, gAdd, gNeg, gIx, gEq, gNe, gIs, gIsNot, gIn, gNotIn, gSl, oNone, oSome, gMt, gIndex, cTuple, cList, cI1, cI2, cInt, cLen, cMax, cMin, cMaxT, cMinT, dAug, cAll, cAny, cRepr, cSqrt, cIsi, tyN, isNon, kb_tt, kb_ii, kb_ib, kb_bi, kb_bb, kb_it, kb_bt, kb_nt, kb_ni, kb_lt, kb_li, kb_ti, kb_si, kb_st, kb_ss, rd, dTru, dRgN, dEnum, gMulT, gDivN, gDivNB, gEqF, dCallV, spOf, atD, ordD, dSq, dZip, dZipM, dZip3, zipD3_map, gShl, dParOO, zipD_map, ivD, dRg1, dRg2, dLc, dYes, dLcGo, dGen, dGenGo, wipeD, boolsOf, intsOf, maxL, minL, noL, noLs, Option.map_some, Option.bind_some, List.all_cons, List.all_nil, List.any_cons, List.any_nil, id_eq, List.set_cons_zero, List.set_cons_succ, List.getElem?_cons_zero, List.getElem?_cons_succ, List.getElem?_nil, List.getD_cons_zero, List.getD_cons_succ, decide_eq_true_eq, decide_eq_false_iff_not, Bool.not_eq_true', Bool.not_true, Bool.not_false, Bool.and_true, Bool.true_and, Bool.and_false, Bool.false_and, Bool.false_eq_true, if_true, if_false, reduceIte, ite_true, ite_false, true_and, and_true, reduceCtorEq, Int.toNat_zero, Int.toNat_one, Int.cast_ofNat_Int, Int.reduceLT, Int.reduceLE, Int.reduceNeg, Int.reduceToNat, Int.reducePow, Int.reduceMul, Int.reduceAdd, Int.reduceSub, decide_true, decide_false]
  by_cases c : u < 0
  · simp only [if_pos c, Int.natAbs_neg] at h ⊢
    exact ⟨.of (by omega) (by omega), .of (by omega) (by omega), h⟩
  · simp only [if_neg c] at h ⊢
    exact ⟨.of (by omega) (by omega), .of (by omega) (by omega), h⟩
def sp_ratio : SpD :=
  fun ds R => match ds with
  | [.int n, .int u] => (-10000000000000000000000000000000000000000 < n ∧ n < 10000000000000000000000000000000000000000 ∧ -10000000000000000000000000000000000000000 < u ∧ u < 10000000000000000000000000000000000000000 ∧ u ≠ 0) ∧ R (ivD (lowF (if u < 0 then -n else n) (if u < 0 then -u else u)))
  | _ => False
set_option maxHeartbeats 0 in
theorem ok_ratio (T : Txt K mg) (D0 : Dfn K mg "ratio" "ratio" s_ratio ["number", "under"] [(["under", "number"], 0, [1, 0])]) (C__check_integer : Cal P w K mg base tabs "_check_integer" 2 1 ["number"] [] sp__check_integer) (C_ratio_of : Cal P w K mg base tabs "ratio_of" 1 2 ["number", "under"] [] sp_ratio_ofany) : Cal P w K mg base tabs "ratio" 3 2 ["number", "under"] [(["under", "number"], 0, [1, 0])] sp_ratio := by
  refine cal_of D0 sc_ratio fun f cdv A outer s H E p ht hg hk hr => ⟨_, (pdss_cons (pds_expr (pdcC (C__check_integer.cal ht) hg hr (pda_cons (pd_var 0) pda_nil)))
      (pdss_cons (pds_expr (pdcC (C__check_integer.cal ht) hg hr (pda_cons (pd_var 1) pda_nil)))
      (pdss_cons (pds_if (pdt_cmp (opd_eq hr.units) (pd_var 1) pd_int) (pdss_one pds_never) pdss_nil)
      (pdss_one (pds_ret (pdcC (C_ratio_of.cal ht) hg hr (pda_cons (pd_var 0) (pda_cons (pd_var 1) pda_nil)))))))), ?_⟩
  intro ds R hl h; unfold sp_ratio at h; split at h
  all_goals (try exact False.elim h)
  all_goals clear hl hg hr hk ht
  rename_i n u
  obtain ⟨⟨h1, h2, h3, h4, h5⟩, h⟩ := h
  simp (implicitDefEqProofs := false) (maxSteps := 3000000) only [gAddS, gMulS, gSlS, gIxS, cLenS, gInS, cStrI, cIntS, dJoin, gJ, dReplC, dZfill, strsOf, xaCons, xaNil, xExpr, xSeq, xIf, xRet, xRaise, xOf, xB, xBK, xAsg, xTry, xTryIs, xHeard, mD0, mD1, mD2, startD, List.map_cons, List.map_nil, List.length_cons, List.length_nil, List.replicate, List.cons_append, List.nil_append, Nat.reduceAdd, Nat.reduceSub, Nat.zero_add, dSeq, dIfS, dOr, dAnd, dNot, dTst, dOp, dUn, dVar, dC, dB, dBK, dCons, dNil, dTup, dLst, dRet, dRetN, dRetF, dRetO, dBO, dFr, dRepL, dCatL, dRev, dRevL, dSlO, dCatO, cSorted, SpO.sp, dNext, dNever, dAsg, dPar, dPar3, dParO, dIf, dAndV, dOrV, dNotV, dCh, dCt, cLast, cLink, tLast, tLink, dDrop, dFor, dBrk, dCnt, dOwn, dApp, dExt, dFree, gPutO, dIxO, dLend, dLendT, dLcF, gN, gTu, gCn, gNl, gP0, gP1, gII, gIIc, gAdd, gNeg, gIx, gEq, gNe, gIs, gIsNot, gIn, gNotIn, gSl, oNone, oSome, gMt, gIndex, cTuple, cList, cI1, cI2, cInt, cLen, cMax, cMin, cMaxT, cMinT, dAug, cAll, cAny, cRepr, cSqrt, cIsi, tyN, isNon, kb_tt, kb_ii, kb_ib, kb_bi, kb_bb, kb_it, kb_bt, kb_nt, kb_ni, kb_lt, kb_li, kb_ti, kb_si, kb_st, kb_ss, rd, dTru, dRgN, dEnum, gMulT, gDivN, gDivNB, gEqF, dCallV, spOf, atD, ordD, dSq, dZip, dZipM, dZip3, zipD3_map, gShl, dParOO, zipD_map, ivD, dRg1, dRg2, dLc, dYes, dLcGo, dGen, dGenGo, wipeD, boolsOf, intsOf, maxL, minL, noL, noLs, Option.map_some, Option.bind_some, List.all_cons, List.all_nil, List.any_cons, List.any_nil, id_eq, List.set_cons_zero, List.set_cons_succ, List.getElem?_cons_zero, List.getElem?_cons_succ, List.getElem?_nil, List.getD_cons_zero, List.getD_cons_succ, decide_eq_true_eq, decide_eq_false_iff_not, Bool.not_eq_true', Bool.not_true, Bool.not_false, Bool.and_true, Bool.true_and, Bool.and_false, Bool.false_and, Bool.false_eq_true, if_true, if_false, reduceIte, ite_true, ite_false, true_and, and_true, reduceCtorEq, Int.toNat_zero, Int.toNat_one, Int.cast_ofNat_Int, Int.reduceLT, Int.reduceLE, Int.reduceNeg, Int.reduceToNat, Int.reducePow, Int.reduceMul, Int.reduceAdd, Int.reduceSub, decide_true, decide_false, sp__check_integer, sp_ratio_ofany]
  rw [if_neg h5]
  exact ⟨⟨h1, h2⟩, ⟨h3, h4⟩, ⟨h5, by omega, by omega⟩, h⟩
def sp_check_ratio : SpD :=
  fun ds R => match ds with
  | [.tup [.int a, .int b]] => (1 ≤ b ∧ Nat.gcd a.natAbs b.natAbs = 1) ∧ R .non
  | _ => False
set_option maxHeartbeats 0 in
theorem ok_check_ratio (T : Txt K mg) (D0 : Dfn K mg "check_ratio" "check_ratio" s_check_ratio ["ratio"] []) (C_is_ratio : Cal P w K mg base tabs "is_ratio" 2 1 ["value"] [] sp_is_ratio) : Cal P w K mg base tabs "check_ratio" 3 1 ["ratio"] [] sp_check_ratio := by
  refine cal_of D0 sc_check_ratio fun f cdv A outer s H E p ht hg hk hr => ⟨_, (pdss_one (pds_if (pdt_not (pdt_val (pdcC (C_is_ratio.cal ht) hg hr (pda_cons (pd_var 0) pda_nil)))) (pdss_one pds_never) pdss_nil)), ?_⟩
  intro ds R hl h; unfold sp_check_ratio at h; split at h
  all_goals (try exact False.elim h)
  all_goals clear hl hg hr hk ht
  simp (implicitDefEqProofs := false) (maxSteps := 3000000) only [gAddS, gMulS, gSlS, gIxS, cLenS, gInS, cStrI, cIntS, dJoin, gJ, dReplC, dZfill, strsOf, xaCons, xaNil, xExpr, xSeq, xIf, xRet, xRaise, xOf, xB, xBK, xAsg, xTry, xTryIs, xHeard, mD0, mD1, mD2, startD, List.map_cons, List.map_nil, List.length_cons, List.length_nil, List.replicate, List.cons_append, List.nil_append, Nat.reduceAdd, Nat.reduceSub, Nat.zero_add, dSeq, dIfS, dOr, dAnd, dNot, dTst, dOp, dUn, dVar, dC, dB, dBK, dCons, dNil, dTup, dLst, dRet, dRetN, dRetF, dRetO, dBO, dFr, dRepL, dCatL, dRev, dRevL, dSlO, dCatO, cSorted, SpO.sp, dNext, dNever, dAsg, dPar, dPar3, dParO, dIf, dAndV, dOrV, dNotV, dCh, dCt, cLast, cLink, tLast, tLink, dDrop, dFor, dBrk, dCnt, dOwn, dApp, dExt, dFree, gPutO, dIxO, dLend, dLendT, dLcF, gN, gTu, gCn, gNl, gP0, gP1, gII, gIIc, gAdd, gNeg, gIx, gEq, gNe, gIs, gIsNot, gIn, gNotIn, gSl, oNone, oSome, gMt, gIndex, cTuple, cList, cI1, cI2, cInt, cLen, cMax, cMin, cMaxT, cMinT, dAug, cAll, cAny, cRepr, cSqrt, cIsi, tyN, isNon, kb_tt, kb_ii, kb_ib, kb_bi, kb_bb, kb_it, kb_bt, kb_nt, kb_ni, kb_lt, kb_li, kb_ti, kb_si, kb_st, kb_ss, rd, dTru, dRgN, dEnum, gMulT, gDivN, gDivNB, gEqF, dCallV, spOf, atD, ordD, dSq, dZip, dZipM, dZip3, zipD3_map, gShl, dParOO, zipD_map, ivD, dRg1, dRg2, dLc, dYes, dLcGo, dGen, dGenGo, wipeD, boolsOf, intsOf, maxL, minL, noL, noLs, Option.map_some, Option.bind_some, List.all_cons, List.all_nil, List.any_cons, List.any_nil, id_eq, List.set_cons_zero, List.set_cons_succ, List.getElem?_cons_zero, List.getElem?_cons_succ, List.getElem?_nil, List.getD_cons_zero, List.getD_cons_succ, decide_eq_true_eq, decide_eq_false_iff_not, Bool.not_eq_true', Bool.not_true, Bool.not_false, Bool.and_true, Bool.true_and, Bool.and_false, Bool.false_and, Bool.false_eq_true, if_true, if_false, reduceIte, ite_true, ite_false, true_and, and_true, reduceCtorEq, Int.toNat_zero, Int.toNat_one, Int.cast_ofNat_Int, Int.reduceLT, Int.reduceLE, Int.reduceNeg, Int.reduceToNat, Int.reducePow, Int.reduceMul, Int.reduceAdd, Int.reduceSub, decide_true, decide_false, sp_is_ratio]
  exact h
def sp_digits_end : SpD :=
  fun ds R => ∃ (l : List Nat) (b : Nat), ds = [.str (tx l), .int b] ∧ b ≤ l.length ∧ l.length ≤ 16777216 ∧ R (.int (dend l b))
set_option maxHeartbeats 0 in
theorem ok_digits_end (T : Txt K mg) (D0 : Dfn K mg "digits_end" "digits_end" s_digits_end ["text", "begin"] [])  : Cal P w K mg base tabs "digits_end" 1 2 ["text", "begin"] [] sp_digits_end := by
  refine cal_of D0 sc_digits_end fun f cdv A outer s H E p ht hg hk hr => ⟨_, (pdss_cons (pds_set (i := 2) sc_digits_end.nd rfl (Or.inl rfl) (pd_var 1))
      (pdss_cons (pds_while PassesOwn.never (pdw_t (pdw_and (pdt_cmp opd_lt (pd_var 2) (pd_callB cd_lenS rfl T.b_len PySem.boot_len (pda_cons (pd_var 0) pda_nil))) (pdw_and1 (pdt_cmp opd_inS (pd_ixS (pd_var 0) (pd_var 2)) (pd_gstr rfl T.m__DIGITS))))) (pdss_one (pds_aug (i := 2) sc_digits_end.nd rfl (Or.inl rfl) ip_add pd_int)))
      (pdss_one (pds_ret (pd_var 2))))), ?_⟩
  intro ds R hl h; unfold sp_digits_end at h
  clear hl hg hr hk ht
  obtain ⟨l, b, rfl, hb, hl, h⟩ := h
  simp (implicitDefEqProofs := false) (maxSteps := 3000000) only [gAddS, gMulS, gSlS, gIxS, cLenS, gInS, cStrI, cIntS, dJoin, gJ, dReplC, dZfill, strsOf, xaCons, xaNil, xExpr, xSeq, xIf, xRet, xRaise, xOf, xB, xBK, xAsg, xTry, xTryIs, xHeard, mD0, mD1, mD2, startD, List.map_cons, List.map_nil, List.length_cons, List.length_nil, List.replicate, List.cons_append, List.nil_append, Nat.reduceAdd, Nat.reduceSub, Nat.zero_add, dSeq, dIfS, dOr, dAnd, dNot, dTst, dOp, dUn, dVar, dC, dB, dBK, dCons, dNil, dTup, dLst, dRet, dRetN, dRetF, dRetO, dBO, dFr, dRepL, dCatL, dRev, dRevL, dSlO, dCatO, cSorted, SpO.sp, dNext, dNever, dAsg, dPar, dPar3, dParO, dIf, dAndV, dOrV, dNotV, dCh, dCt, cLast, cLink, tLast, tLink, dDrop, dFor, dBrk, dCnt, dOwn, dApp, dExt, dFree, gPutO, dIxO, dLend, dLendT, dLcF, gN, gTu, gCn, gNl, gP0, gP1, gII, gIIc, gAdd, gNeg, gIx, gEq, gNe, gIs, gIsNot, gIn, gNotIn, gSl, oNone, oSome, gMt, gIndex, cTuple, cList, cI1, cI2, cInt, cLen, cMax, cMin, cMaxT, cMinT, dAug, cAll, cAny, cRepr, cSqrt, cIsi, tyN, isNon, kb_tt, kb_ii, kb_ib, kb_bi, kb_bb, kb_it, kb_bt, kb_nt, kb_ni, kb_lt, kb_li, kb_ti, kb_si, kb_st, kb_ss, rd, dTru, dRgN, dEnum, gMulT, gDivN, gDivNB, gEqF, dCallV, spOf, atD, ordD, dSq, dZip, dZipM, dZip3, zipD3_map, gShl, dParOO, zipD_map, ivD, dRg1, dRg2, dLc, dYes, dLcGo, dGen, dGenGo, wipeD, boolsOf, intsOf, maxL, minL, noL, noLs, Option.map_some, Option.bind_some, List.all_cons, List.all_nil, List.any_cons, List.any_nil, id_eq, List.set_cons_zero, List.set_cons_succ, List.getElem?_cons_zero, List.getElem?_cons_succ, List.getElem?_nil, List.getD_cons_zero, List.getD_cons_succ, decide_eq_true_eq, decide_eq_false_iff_not, Bool.not_eq_true', Bool.not_true, Bool.not_false, Bool.and_true, Bool.true_and, Bool.and_false, Bool.false_and, Bool.false_eq_true, if_true, if_false, reduceIte, ite_true, ite_false, true_and, and_true, reduceCtorEq, Int.toNat_zero, Int.toNat_one, Int.cast_ofNat_Int, Int.reduceLT, Int.reduceLE, Int.reduceNeg, Int.reduceToNat, Int.reducePow, Int.reduceMul, Int.reduceAdd, Int.reduceSub, decide_true, decide_false]
  refine whileI (fun m τ => ∃ i : Nat, τ = [some (.str (tx l)), some (.int b), some (.int i)] ∧ b ≤ i ∧ i ≤ l.length ∧ dend l i = dend l b ∧ m = l.length - i) _ _ ⟨b, rfl, Nat.le_refl _, hb, rfl, rfl⟩ ?_
  rintro m τ k hk ⟨i, rfl, hi, hi2, he, rfl⟩
  simp (implicitDefEqProofs := false) (maxSteps := 3000000) only [gAddS, gMulS, gSlS, gIxS, cLenS, gInS, cStrI, cIntS, dJoin, gJ, dReplC, dZfill, strsOf, xaCons, xaNil, xExpr, xSeq, xIf, xRet, xRaise, xOf, xB, xBK, xAsg, xTry, xTryIs, xHeard, mD0, mD1, mD2, startD, List.map_cons, List.map_nil, List.length_cons, List.length_nil, List.replicate, List.cons_append, List.nil_append, Nat.reduceAdd, Nat.reduceSub, Nat.zero_add, dSeq, dIfS, dOr, dAnd, dNot, dTst, dOp, dUn, dVar, dC, dB, dBK, dCons, dNil, dTup, dLst, dRet, dRetN, dRetF, dRetO, dBO, dFr, dRepL, dCatL, dRev, dRevL, dSlO, dCatO, cSorted, SpO.sp, dNext, dNever, dAsg, dPar, dPar3, dParO, dIf, dAndV, dOrV, dNotV, dCh, dCt, cLast, cLink, tLast, tLink, dDrop, dFor, dBrk, dCnt, dOwn, dApp, dExt, dFree, gPutO, dIxO, dLend, dLendT, dLcF, gN, gTu, gCn, gNl, gP0, gP1, gII, gIIc, gAdd, gNeg, gIx, gEq, gNe, gIs, gIsNot, gIn, gNotIn, gSl, oNone, oSome, gMt, gIndex, cTuple, cList, cI1, cI2, cInt, cLen, cMax, cMin, cMaxT, cMinT, dAug, cAll, cAny, cRepr, cSqrt, cIsi, tyN, isNon, kb_tt, kb_ii, kb_ib, kb_bi, kb_bb, kb_it, kb_bt, kb_nt, kb_ni, kb_lt, kb_li, kb_ti, kb_si, kb_st, kb_ss, rd, dTru, dRgN, dEnum, gMulT, gDivN, gDivNB, gEqF, dCallV, spOf, atD, ordD, dSq, dZip, dZipM, dZip3, zipD3_map, gShl, dParOO, zipD_map, ivD, dRg1, dRg2, dLc, dYes, dLcGo, dGen, dGenGo, wipeD, boolsOf, intsOf, maxL, minL, noL, noLs, Option.map_some, Option.bind_some, List.all_cons, List.all_nil, List.any_cons, List.any_nil, id_eq, List.set_cons_zero, List.set_cons_succ, List.getElem?_cons_zero, List.getElem?_cons_succ, List.getElem?_nil, List.getD_cons_zero, List.getD_cons_succ, decide_eq_true_eq, decide_eq_false_iff_not, Bool.not_eq_true', Bool.not_true, Bool.not_false, Bool.and_true, Bool.true_and, Bool.and_false, Bool.false_and, Bool.false_eq_true, if_true, if_false, reduceIte, ite_true, ite_false, true_and, and_true, reduceCtorEq, Int.toNat_zero, Int.toNat_one, Int.cast_ofNat_Int, Int.reduceLT, Int.reduceLE, Int.reduceNeg, Int.reduceToNat, Int.reducePow, Int.reduceMul, Int.reduceAdd, Int.reduceSub, decide_true, decide_false]
  rw [tx_len]
  refine ⟨hl, ?_⟩
  by_cases c : (i : Int) < (l.length : Nat)
  · rw [if_pos c]
    have c' : i < l.length := by omega
    refine ⟨hl, ?_⟩
    rw [L2.atI_nat (List.getElem?_eq_getElem c')]
    by_cases d : l[i] ∈ ("0123456789" : Str).cps.toList
    · have d' : isD l[i] = true := decide_eq_true d
      simp only [if_pos d]
      exact hk _ _ (by omega) ⟨i + 1, rfl, by omega, by omega, by rw [← dend_yes c' d']; exact he, rfl⟩
    · have d' : isD l[i] = false := decide_eq_false d
      simp only [if_neg d]
      rw [← he, dend_no c' d'] at h
      exact h
  · rw [if_neg c]
    have c' : i = l.length := by omega
    subst c'
    rw [← he, dend_end] at h
    exact h
def sp__few_digits_end : SpD :=
  fun ds R => ∃ (l : List Nat) (b : Nat), ds = [.str (tx l), .int b] ∧ b ≤ l.length ∧ l.length ≤ 16777216 ∧ R (.int (fEnd l b))
set_option maxHeartbeats 0 in
theorem ok__few_digits_end (T : Txt K mg) (D0 : Dfn K mg "_few_digits_end" "_few_digits_end" s__few_digits_end ["text", "begin"] []) (C_digits_end : Cal P w K mg base tabs "digits_end" 1 2 ["text", "begin"] [] sp_digits_end) : Cal P w K mg base tabs "_few_digits_end" 2 2 ["text", "begin"] [] sp__few_digits_end := by
  refine cal_of D0 sc__few_digits_end fun f cdv A outer s H E p ht hg hk hr => ⟨_, (pdss_one (pds_ret (pd_callB (cd_minT rfl hr.u65) rfl T.b_min PyProof.Rows.boot_min (pda_cons (pdcC (C_digits_end.cal ht) hg hr (pda_cons (pd_var 0) (pda_cons (pd_var 1) pda_nil))) (pda_cons (pd_bin opd_add (pd_var 1) (pd_gint rfl T.m__MOST_DIGITS)) pda_nil))))), ?_⟩
  intro ds R hl h; unfold sp__few_digits_end at h
  clear hl hg hr hk ht
  obtain ⟨l, b, rfl, hb, hl, h⟩ := h
  simp (implicitDefEqProofs := false) (maxSteps := 3000000) only [gAddS, gMulS, gSlS, gIxS, cLenS, gInS, cStrI, cIntS, dJoin, gJ, dReplC, dZfill, strsOf, xaCons, xaNil, xExpr, xSeq, xIf, xRet, xRaise, xOf, xB, xBK, xAsg, xTry, xTryIs, xHeard, mD0, mD1, mD2, startD, List.map_cons, List.map_nil, List.length_cons, List.length_nil, List.replicate, List.cons_append, List.nil_append, Nat.reduceAdd, Nat.reduceSub, Nat.zero_add, dSeq, dIfS, dOr, dAnd, dNot, dTst, dOp, dUn, dVar, dC, dB, dBK, dCons, dNil, dTup, dLst, dRet, dRetN, dRetF, dRetO, dBO, dFr, dRepL, dCatL, dRev, dRevL, dSlO, dCatO, cSorted, SpO.sp, dNext, dNever, dAsg, dPar, dPar3, dParO, dIf, dAndV, dOrV, dNotV, dCh, dCt, cLast, cLink, tLast, tLink, dDrop, dFor, dBrk, dCnt, dOwn, dApp, dExt, dFree, gPutO, dIxO, dLend, dLendT, dLcF, gN, gTu, gCn, gNl, gP0, gP1, gII, gIIc, gAdd, gNeg, gIx, gEq, gNe, gIs, gIsNot, gIn, gNotIn, gSl, oNone, oSome, gMt, gIndex, cTuple, cList, cI1, cI2, cInt, cLen, cMax, cMin, cMaxT, cMinT, dAug, cAll, cAny, cRepr, cSqrt, cIsi, tyN, isNon, kb_tt, kb_ii, kb_ib, kb_bi, kb_bb, kb_it, kb_bt, kb_nt, kb_ni, kb_lt, kb_li, kb_ti, kb_si, kb_st, kb_ss, rd, dTru, dRgN, dEnum, gMulT, gDivN, gDivNB, gEqF, dCallV, spOf, atD, ordD, dSq, dZip, dZipM, dZip3, zipD3_map, gShl, dParOO, zipD_map, ivD, dRg1, dRg2, dLc, dYes, dLcGo, dGen, dGenGo, wipeD, boolsOf, intsOf, maxL, minL, noL, noLs, Option.map_some, Option.bind_some, List.all_cons, List.all_nil, List.any_cons, List.any_nil, id_eq, List.set_cons_zero, List.set_cons_succ, List.getElem?_cons_zero, List.getElem?_cons_succ, List.getElem?_nil, List.getD_cons_zero, List.getD_cons_succ, decide_eq_true_eq, decide_eq_false_iff_not, Bool.not_eq_true', Bool.not_true, Bool.not_false, Bool.and_true, Bool.true_and, Bool.and_false, Bool.false_and, Bool.false_eq_true, if_true, if_false, reduceIte, ite_true, ite_false, true_and, and_true, reduceCtorEq, Int.toNat_zero, Int.toNat_one, Int.cast_ofNat_Int, Int.reduceLT, Int.reduceLE, Int.reduceNeg, Int.reduceToNat, Int.reducePow, Int.reduceMul, Int.reduceAdd, Int.reduceSub, decide_true, decide_false, sp_digits_end]
  refine ⟨l, b, rfl, hb, hl, ?_⟩
  rw [show min ((dend l b : Nat) : Int) ((b : Nat) + 40) = ((fEnd l b : Nat) : Int) by unfold fEnd; omega]
  exact h
def sp__check_read : SpX :=
  fun ds R Rx => match ds with
  | [.str _, .int b, .int e] => if b = e then 0 ≤ b ∧ Rx (badX b.toNat) else R .non
  | _ => False
set_option maxHeartbeats 0 in
theorem ok__check_read (T : Txt K mg) (D0 : Dfn K mg "_check_read" "_check_read" s__check_read ["text", "begin", "end"] []) (hF : tabs.fns = mg) (XM_BadText : Mk1 P w K mg base "BadText" "position" 1) : CalX P w K mg base tabs "_check_read" 3 3 ["text", "begin", "end"] [] sp__check_read := by
  refine calx_of D0 sc__check_read fun f cdv A outer s H E p ht hg hk hr => ⟨_, (pdsxs_one (pdsx_if (pdt_cmp (opd_eq hr.units) (pd_var 1) (pd_var 2)) (pdsxs_one (pdsx_raise rfl (takes_of rfl rfl rfl rfl) (pdmC1 XM_BadText (by rw [ht]; exact hF) hr (pda_cons (pd_var 1) pda_nil)))) pdsxs_nil)), ?_⟩
  intro ds R Rx hl h; unfold sp__check_read at h; split at h
  all_goals (try exact False.elim h)
  all_goals clear hl hg hr hk ht
  rename_i b e
  simp (implicitDefEqProofs := false) (maxSteps := 3000000) only [gAddS, gMulS, gSlS, gIxS, cLenS, gInS, cStrI, cIntS, dJoin, gJ, dReplC, dZfill, strsOf, xaCons, xaNil, xExpr, xSeq, xIf, xRet, xRaise, xOf, xB, xBK, xAsg, xTry, xTryIs, xHeard, mD0, mD1, mD2, startD, List.map_cons, List.map_nil, List.length_cons, List.length_nil, List.replicate, List.cons_append, List.nil_append, Nat.reduceAdd, Nat.reduceSub, Nat.zero_add, dSeq, dIfS, dOr, dAnd, dNot, dTst, dOp, dUn, dVar, dC, dB, dBK, dCons, dNil, dTup, dLst, dRet, dRetN, dRetF, dRetO, dBO, dFr, dRepL, dCatL, dRev, dRevL, dSlO, dCatO, cSorted, SpO.sp, dNext, dNever, dAsg, dPar, dPar3, dParO, dIf, dAndV, dOrV, dNotV, dCh, dCt, cLast, cLink, tLast, tLink, dDrop, dFor, dBrk, dCnt, dOwn, dApp, dExt, dFree, gPutO, dIxO, dLend, dLendT, dLcF, gN, gTu, gCn, gNl, gP0, gP1, gII, gIIc, gAdd, gNeg, gIx, gEq, gNe, gIs, gIsNot, gIn, gNotIn, gSl, oNone, oSome, gMt, gIndex, cTuple, cList, cI1, cI2, cInt, cLen, cMax, cMin, cMaxT, cMinT, dAug, cAll, cAny, cRepr, cSqrt, cIsi, tyN, isNon, kb_tt, kb_ii, kb_ib, kb_bi, kb_bb, kb_it, kb_bt, kb_nt, kb_ni, kb_lt, kb_li, kb_ti, kb_si, kb_st, kb_ss, rd, dTru, dRgN, dEnum, gMulT, gDivN, gDivNB, gEqF, dCallV, spOf, atD, ordD, dSq, dZip, dZipM, dZip3, zipD3_map, gShl, dParOO, zipD_map, ivD, dRg1, dRg2, dLc, dYes, dLcGo, dGen, dGenGo, wipeD, boolsOf, intsOf, maxL, minL, noL, noLs, Option.map_some, Option.bind_some, List.all_cons, List.all_nil, List.any_cons, List.any_nil, id_eq, List.set_cons_zero, List.set_cons_succ, List.getElem?_cons_zero, List.getElem?_cons_succ, List.getElem?_nil, List.getD_cons_zero, List.getD_cons_succ, decide_eq_true_eq, decide_eq_false_iff_not, Bool.not_eq_true', Bool.not_true, Bool.not_false, Bool.and_true, Bool.true_and, Bool.and_false, Bool.false_and, Bool.false_eq_true, if_true, if_false, reduceIte, ite_true, ite_false, true_and, and_true, reduceCtorEq, Int.toNat_zero, Int.toNat_one, Int.cast_ofNat_Int, Int.reduceLT, Int.reduceLE, Int.reduceNeg, Int.reduceToNat, Int.reducePow, Int.reduceMul, Int.reduceAdd, Int.reduceSub, decide_true, decide_false]
  by_cases c : b = e
  · rw [if_pos c] at h ⊢
    obtain ⟨h0, h⟩ := h
    have e1 : ((b.toNat : Nat) : Int) = b := by omega
    unfold badX at h
    rw [e1] at h
    exact h
  · rw [if_neg c] at h ⊢
    exact h
def sp__check_whole : SpX :=
  fun ds R Rx => ∃ (l : List Nat) (e : Nat), ds = [.str (tx l), .int e] ∧ l.length ≤ 16777216 ∧ if e < l.length then Rx (badX e) else R .non
set_option maxHeartbeats 0 in
theorem ok__check_whole (T : Txt K mg) (D0 : Dfn K mg "_check_whole" "_check_whole" s__check_whole ["text", "end"] []) (hF : tabs.fns = mg) (XM_BadText : Mk1 P w K mg base "BadText" "position" 1) : CalX P w K mg base tabs "_check_whole" 3 2 ["text", "end"] [] sp__check_whole := by
  refine calx_of D0 sc__check_whole fun f cdv A outer s H E p ht hg hk hr => ⟨_, (pdsxs_one (pdsx_if (pdt_cmp opd_lt (pd_var 1) (pd_callB cd_lenS rfl T.b_len PySem.boot_len (pda_cons (pd_var 0) pda_nil))) (pdsxs_one (pdsx_raise rfl (takes_of rfl rfl rfl rfl) (pdmC1 XM_BadText (by rw [ht]; exact hF) hr (pda_cons (pd_var 1) pda_nil)))) pdsxs_nil)), ?_⟩
  intro ds R Rx hl h; unfold sp__check_whole at h
  clear hl hg hr hk ht
  obtain ⟨l, e, rfl, hl, h⟩ := h
  simp (implicitDefEqProofs := false) (maxSteps := 3000000) only [gAddS, gMulS, gSlS, gIxS, cLenS, gInS, cStrI, cIntS, dJoin, gJ, dReplC, dZfill, strsOf, xaCons, xaNil, xExpr, xSeq, xIf, xRet, xRaise, xOf, xB, xBK, xAsg, xTry, xTryIs, xHeard, mD0, mD1, mD2, startD, List.map_cons, List.map_nil, List.length_cons, List.length_nil, List.replicate, List.cons_append, List.nil_append, Nat.reduceAdd, Nat.reduceSub, Nat.zero_add, dSeq, dIfS, dOr, dAnd, dNot, dTst, dOp, dUn, dVar, dC, dB, dBK, dCons, dNil, dTup, dLst, dRet, dRetN, dRetF, dRetO, dBO, dFr, dRepL, dCatL, dRev, dRevL, dSlO, dCatO, cSorted, SpO.sp, dNext, dNever, dAsg, dPar, dPar3, dParO, dIf, dAndV, dOrV, dNotV, dCh, dCt, cLast, cLink, tLast, tLink, dDrop, dFor, dBrk, dCnt, dOwn, dApp, dExt, dFree, gPutO, dIxO, dLend, dLendT, dLcF, gN, gTu, gCn, gNl, gP0, gP1, gII, gIIc, gAdd, gNeg, gIx, gEq, gNe, gIs, gIsNot, gIn, gNotIn, gSl, oNone, oSome, gMt, gIndex, cTuple, cList, cI1, cI2, cInt, cLen, cMax, cMin, cMaxT, cMinT, dAug, cAll, cAny, cRepr, cSqrt, cIsi, tyN, isNon, kb_tt, kb_ii, kb_ib, kb_bi, kb_bb, kb_it, kb_bt, kb_nt, kb_ni, kb_lt, kb_li, kb_ti, kb_si, kb_st, kb_ss, rd, dTru, dRgN, dEnum, gMulT, gDivN, gDivNB, gEqF, dCallV, spOf, atD, ordD, dSq, dZip, dZipM, dZip3, zipD3_map, gShl, dParOO, zipD_map, ivD, dRg1, dRg2, dLc, dYes, dLcGo, dGen, dGenGo, wipeD, boolsOf, intsOf, maxL, minL, noL, noLs, Option.map_some, Option.bind_some, List.all_cons, List.all_nil, List.any_cons, List.any_nil, id_eq, List.set_cons_zero, List.set_cons_succ, List.getElem?_cons_zero, List.getElem?_cons_succ, List.getElem?_nil, List.getD_cons_zero, List.getD_cons_succ, decide_eq_true_eq, decide_eq_false_iff_not, Bool.not_eq_true', Bool.not_true, Bool.not_false, Bool.and_true, Bool.true_and, Bool.and_false, Bool.false_and, Bool.false_eq_true, if_true, if_false, reduceIte, ite_true, ite_false, true_and, and_true, reduceCtorEq, Int.toNat_zero, Int.toNat_one, Int.cast_ofNat_Int, Int.reduceLT, Int.reduceLE, Int.reduceNeg, Int.reduceToNat, Int.reducePow, Int.reduceMul, Int.reduceAdd, Int.reduceSub, decide_true, decide_false]
  rw [tx_len]
  refine ⟨hl, ?_⟩
  by_cases c : e < l.length
  · rw [if_pos c] at h
    rw [if_pos (by omega)]
    exact h
  · rw [if_neg c] at h
    rw [if_neg (by omega)]
    exact h
def sp__under_read : SpX :=
  fun ds R Rx => ∃ (l : List Nat) (b : Nat), ds = [.str (tx l), .int b] ∧ b ≤ l.length ∧ l.length ≤ 16777216 ∧ (match underR l b with
    | .ok v => R (.int v)
    | .error p => Rx (badX p))
set_option maxHeartbeats 0 in
theorem ok__under_read (T : Txt K mg) (D0 : Dfn K mg "_under_read" "_under_read" s__under_read ["text", "begin"] []) (hF : tabs.fns = mg) (C__few_digits_end : Cal P w K mg base tabs "_few_digits_end" 2 2 ["text", "begin"] [] sp__few_digits_end) (C__check_read : CalX P w K mg base tabs "_check_read" 3 3 ["text", "begin", "end"] [] sp__check_read) (C__check_whole : CalX P w K mg base tabs "_check_whole" 3 2 ["text", "end"] [] sp__check_whole) (XM_BadText : Mk1 P w K mg base "BadText" "position" 1) : CalX P w K mg base tabs "_under_read" 4 2 ["text", "begin"] [] sp__under_read := by
  refine calx_of D0 sc__under_read fun f cdv A outer s H E p ht hg hk hr => ⟨_, (pdsxs_cons (pdsx_of (pds_set (i := 2) sc__under_read.nd rfl (Or.inl rfl) (pdcC (C__few_digits_end.cal ht) hg hr (pda_cons (pd_var 0) (pda_cons (pd_var 1) pda_nil)))))
      (pdsxs_cons (pdsx_expr (pdxC (C__check_read.cal ht) (takes_of rfl rfl rfl rfl) hg hr (pda_cons (pd_var 0) (pda_cons (pd_var 1) (pda_cons (pd_var 2) pda_nil)))))
      (pdsxs_cons (pdsx_of (pds_set (i := 3) sc__under_read.nd rfl (Or.inl rfl) (pd_callTy cd_intS rfl T.b_int PyProof.Rows.boot_int (pda_cons (pd_slS (pd_var 0) (pdo_some (pd_var 1)) (pdo_some (pd_var 2))) pda_nil))))
      (pdsxs_cons (pdsx_if (pdw_t (pdw_and (pdt_cmp (opd_eq hr.units) (pd_var 3) pd_int) (pdw_and1 (pdt_cmp (opd_eq hr.units) (pd_var 2) (pd_bin opd_add (pd_var 1) (pd_gint rfl T.m__MOST_DIGITS)))))) (pdsxs_one (pdsx_raise rfl (takes_of rfl rfl rfl rfl) (pdmC1 XM_BadText (by rw [ht]; exact hF) hr (pda_cons (pd_bin opd_sub (pd_var 2) pd_int) pda_nil)))) pdsxs_nil)
      (pdsxs_cons (pdsx_expr (pdxC (C__check_whole.cal ht) (takes_of rfl rfl rfl rfl) hg hr (pda_cons (pd_var 0) (pda_cons (pd_var 2) pda_nil))))
      (pdsxs_cons (pdsx_if (pdt_cmp (opd_eq hr.units) (pd_var 3) pd_int) (pdsxs_one (pdsx_raise rfl (takes_of rfl rfl rfl rfl) (pdmC1 XM_BadText (by rw [ht]; exact hF) hr (pda_cons (pd_var 2) pda_nil)))) pdsxs_nil)
      (pdsxs_one (pdsx_of (pds_ret (pd_var 3)))))))))), ?_⟩
  intro ds R Rx hl h; unfold sp__under_read at h
  clear hl hg hr hk ht
  obtain ⟨l, b, rfl, hb, hl, h⟩ := h
  have ge := fEnd_ge l b
  have le := fEnd_le hb
  unfold underR at h
  simp (implicitDefEqProofs := false) (maxSteps := 3000000) only [gAddS, gMulS, gSlS, gIxS, cLenS, gInS, cStrI, cIntS, dJoin, gJ, dReplC, dZfill, strsOf, xaCons, xaNil, xExpr, xSeq, xIf, xRet, xRaise, xOf, xB, xBK, xAsg, xTry, xTryIs, xHeard, mD0, mD1, mD2, startD, List.map_cons, List.map_nil, List.length_cons, List.length_nil, List.replicate, List.cons_append, List.nil_append, Nat.reduceAdd, Nat.reduceSub, Nat.zero_add, dSeq, dIfS, dOr, dAnd, dNot, dTst, dOp, dUn, dVar, dC, dB, dBK, dCons, dNil, dTup, dLst, dRet, dRetN, dRetF, dRetO, dBO, dFr, dRepL, dCatL, dRev, dRevL, dSlO, dCatO, cSorted, SpO.sp, dNext, dNever, dAsg, dPar, dPar3, dParO, dIf, dAndV, dOrV, dNotV, dCh, dCt, cLast, cLink, tLast, tLink, dDrop, dFor, dBrk, dCnt, dOwn, dApp, dExt, dFree, gPutO, dIxO, dLend, dLendT, dLcF, gN, gTu, gCn, gNl, gP0, gP1, gII, gIIc, gAdd, gNeg, gIx, gEq, gNe, gIs, gIsNot, gIn, gNotIn, gSl, oNone, oSome, gMt, gIndex, cTuple, cList, cI1, cI2, cInt, cLen, cMax, cMin, cMaxT, cMinT, dAug, cAll, cAny, cRepr, cSqrt, cIsi, tyN, isNon, kb_tt, kb_ii, kb_ib, kb_bi, kb_bb, kb_it, kb_bt, kb_nt, kb_ni, kb_lt, kb_li, kb_ti, kb_si, kb_st, kb_ss, rd, dTru, dRgN, dEnum, gMulT, gDivN, gDivNB, gEqF, dCallV, spOf, atD, ordD, dSq, dZip, dZipM, dZip3, zipD3_map, gShl, dParOO, zipD_map, ivD, dRg1, dRg2, dLc, dYes, dLcGo, dGen, dGenGo, wipeD, boolsOf, intsOf, maxL, minL, noL, noLs, Option.map_some, Option.bind_some, List.all_cons, List.all_nil, List.any_cons, List.any_nil, id_eq, List.set_cons_zero, List.set_cons_succ, List.getElem?_cons_zero, List.getElem?_cons_succ, List.getElem?_nil, List.getD_cons_zero, List.getD_cons_succ, decide_eq_true_eq, decide_eq_false_iff_not, Bool.not_eq_true', Bool.not_true, Bool.not_false, Bool.and_true, Bool.true_and, Bool.and_false, Bool.false_and, Bool.false_eq_true, if_true, if_false, reduceIte, ite_true, ite_false, true_and, and_true, reduceCtorEq, Int.toNat_zero, Int.toNat_one, Int.cast_ofNat_Int, Int.reduceLT, Int.reduceLE, Int.reduceNeg, Int.reduceToNat, Int.reducePow, Int.reduceMul, Int.reduceAdd, Int.reduceSub, decide_true, decide_false, sp__few_digits_end, sp__check_read, sp__check_whole]
  refine ⟨l, b, rfl, hb, hl, ?_⟩
  have ed : fEnd l b ≤ dend l b := Nat.min_le_left _ _
  have e40 : fEnd l b ≤ b + 40 := Nat.min_le_right _ _
  generalize fEnd l b = e at *
  by_cases c : e = b
  · rw [if_pos c] at h
    rw [if_pos (by omega)]
    exact ⟨by omega, by rw [Int.toNat_natCast]; exact h⟩
  rw [if_neg c] at h
  rw [if_neg (by omega)]
  have bl := int_seg ed (by omega) le e40
  have ln := seg_len ge le
  refine ⟨by rw [tx_len]; exact hl, by rw [cut_tx hb le, tx_len, ln]; omega, ?_⟩
  rw [cut_tx hb le, bl]
  simp only []
  by_cases v : PySem.NumText.digitsVal (seg l b e) = 0
  · rw [if_pos (by omega)]
    by_cases w : e = b + 40
    · rw [if_pos ⟨v, w⟩] at h
      rw [if_pos (by omega)]
      have h' : Rx (badX (e - 1)) := h
      unfold badX at h'
      rw [show ((e - 1 : Nat) : Int) = (e : Int) - 1 by omega] at h'
      exact h'
    · rw [if_neg (fun z => w z.2)] at h
      rw [if_neg (by omega)]
      refine ⟨l, e, rfl, hl, ?_⟩
      by_cases x : e < l.length
      · rw [if_pos x] at h ⊢
        exact h
      · rw [if_neg x, if_pos v] at h
        rw [if_neg x, if_pos (by omega)]
        exact h
  · rw [if_neg (by omega)]
    rw [if_neg (fun z => v z.1)] at h
    refine ⟨l, e, rfl, hl, ?_⟩
    by_cases x : e < l.length
    · rw [if_pos x] at h ⊢
      exact h
    · rw [if_neg x, if_neg v] at h
      rw [if_neg x, if_neg (by omega)]
      exact h
def sp__tenths_read : SpX :=
  fun ds R Rx => ∃ (l : List Nat) (b p : Nat), ds = [.str (tx l), .int b, .int p] ∧ (b < p ∧ p < l.length ∧ p ≤ dend l b ∧ p ≤ b + 40 ∧ l.length ≤ 16777216) ∧ (match tenR l b p with
    | .ok v => R (ivD v)
    | .error p => Rx (badX p))
set_option maxHeartbeats 0 in
theorem ok__tenths_read (T : Txt K mg) (D0 : Dfn K mg "_tenths_read" "_tenths_read" s__tenths_read ["text", "begin", "point"] []) (C__few_digits_end : Cal P w K mg base tabs "_few_digits_end" 2 2 ["text", "begin"] [] sp__few_digits_end) (C__check_read : CalX P w K mg base tabs "_check_read" 3 3 ["text", "begin", "end"] [] sp__check_read) (C__check_whole : CalX P w K mg base tabs "_check_whole" 3 2 ["text", "end"] [] sp__check_whole) (C_ratio_of : Cal P w K mg base tabs "ratio_of" 1 2 ["number", "under"] [] sp_ratio_of) : CalX P w K mg base tabs "_tenths_read" 4 3 ["text", "begin", "point"] [] sp__tenths_read := by
  refine calx_of D0 sc__tenths_read fun f cdv A outer s H E p ht hg hk hr => ⟨_, (pdsxs_cons (pdsx_of (pds_set (i := 3) sc__tenths_read.nd rfl (Or.inl rfl) (pdcC (C__few_digits_end.cal ht) hg hr (pda_cons (pd_var 0) (pda_cons (pd_bin opd_addS (pd_var 2) pd_int) pda_nil)))))
      (pdsxs_cons (pdsx_expr (pdxC (C__check_read.cal ht) (takes_of rfl rfl rfl rfl) hg hr (pda_cons (pd_var 0) (pda_cons (pd_bin opd_addS (pd_var 2) pd_int) (pda_cons (pd_var 3) pda_nil)))))
      (pdsxs_cons (pdsx_expr (pdxC (C__check_whole.cal ht) (takes_of rfl rfl rfl rfl) hg hr (pda_cons (pd_var 0) (pda_cons (pd_var 3) pda_nil))))
      (pdsxs_cons (pdsx_of (pds_set (i := 4) sc__tenths_read.nd rfl (Or.inl rfl) (pd_callTy cd_intS rfl T.b_int PyProof.Rows.boot_int (pda_cons (pd_bin opd_addS (pd_slS (pd_var 0) (pdo_some (pd_var 1)) (pdo_some (pd_var 2))) (pd_slS (pd_var 0) (pdo_some (pd_bin opd_addS (pd_var 2) pd_int)) (pdo_some (pd_var 3)))) pda_nil))))
      (pdsxs_cons (pdsx_of (pds_if (pdt_cmp (opd_eq hr.units) (pd_var 1) pd_int) (pdss_one (pds_set (i := 4) sc__tenths_read.nd rfl (Or.inl rfl) (pd_un und_neg (pd_var 4)))) pdss_nil))
      (pdsxs_one (pdsx_of (pds_ret (pdcC (C_ratio_of.cal ht) hg hr (pda_cons (pd_var 4) (pda_cons (pd_callTy cd_intS rfl T.b_int PyProof.Rows.boot_int (pda_cons (pd_bin opd_addS pd_str (pd_bin opd_mulS pd_str (pd_bin opd_sub (pd_bin opd_sub (pd_var 3) (pd_var 2)) pd_int))) pda_nil)) pda_nil))))))))))), ?_⟩
  intro ds R Rx hl h; unfold sp__tenths_read at h
  clear hl hg hr hk ht
  obtain ⟨l, b, p, rfl, ⟨hb, hp, hd, h40, hl⟩, h⟩ := h
  unfold tenR at h
  simp (implicitDefEqProofs := false) (maxSteps := 3000000) only [gAddS, gMulS, gSlS, gIxS, cLenS, gInS, cStrI, cIntS, dJoin, gJ, dReplC, dZfill, strsOf, xaCons, xaNil, xExpr, xSeq, xIf, xRet, xRaise, xOf, xB, xBK, xAsg, xTry, xTryIs, xHeard, mD0, mD1, mD2, startD, List.map_cons, List.map_nil, List.length_cons, List.length_nil, List.replicate, List.cons_append, List.nil_append, Nat.reduceAdd, Nat.reduceSub, Nat.zero_add, dSeq, dIfS, dOr, dAnd, dNot, dTst, dOp, dUn, dVar, dC, dB, dBK, dCons, dNil, dTup, dLst, dRet, dRetN, dRetF, dRetO, dBO, dFr, dRepL, dCatL, dRev, dRevL, dSlO, dCatO, cSorted, SpO.sp, dNext, dNever, dAsg, dPar, dPar3, dParO, dIf, dAndV, dOrV, dNotV, dCh, dCt, cLast, cLink, tLast, tLink, dDrop, dFor, dBrk, dCnt, dOwn, dApp, dExt, dFree, gPutO, dIxO, dLend, dLendT, dLcF, gN, gTu, gCn, gNl, gP0, gP1, gII, gIIc, gAdd, gNeg, gIx, gEq, gNe, gIs, gIsNot, gIn, gNotIn, gSl, oNone, oSome, gMt, gIndex, cTuple, cList, cI1, cI2, cInt, cLen, cMax, cMin, cMaxT, cMinT, dAug, cAll, cAny, cRepr, cSqrt, cIsi, tyN, isNon, kb_tt, kb_ii, kb_ib, kb_bi, kb_bb, kb_it, kb_bt, kb_nt, kb_ni, kb_lt, kb_li, kb_ti, kb_si, kb_st, kb_ss, rd, dTru, dRgN, dEnum, gMulT, gDivN, gDivNB, gEqF, dCallV, spOf, atD, ordD, dSq, dZip, dZipM, dZip3, zipD3_map, gShl, dParOO, zipD_map, ivD, dRg1, dRg2, dLc, dYes, dLcGo, dGen, dGenGo, wipeD, boolsOf, intsOf, maxL, minL, noL, noLs, Option.map_some, Option.bind_some, List.all_cons, List.all_nil, List.any_cons, List.any_nil, id_eq, List.set_cons_zero, List.set_cons_succ, List.getElem?_cons_zero, List.getElem?_cons_succ, List.getElem?_nil, List.getD_cons_zero, List.getD_cons_succ, decide_eq_true_eq, decide_eq_false_iff_not, Bool.not_eq_true', Bool.not_true, Bool.not_false, Bool.and_true, Bool.true_and, Bool.and_false, Bool.false_and, Bool.false_eq_true, if_true, if_false, reduceIte, ite_true, ite_false, true_and, and_true, reduceCtorEq, Int.toNat_zero, Int.toNat_one, Int.cast_ofNat_Int, Int.reduceLT, Int.reduceLE, Int.reduceNeg, Int.reduceToNat, Int.reducePow, Int.reduceMul, Int.reduceAdd, Int.reduceSub, decide_true, decide_false, sp__few_digits_end, sp__check_read, sp__check_whole, sp_ratio_of]
  refine ⟨l, p + 1, by simp, by omega, hl, ?_⟩
  have ge := fEnd_ge l (p + 1)
  have le := fEnd_le (l := l) (b := p + 1) (by omega)
  have ed : fEnd l (p + 1) ≤ dend l (p + 1) := Nat.min_le_left _ _
  have e40 : fEnd l (p + 1) ≤ p + 1 + 40 := Nat.min_le_right _ _
  generalize fEnd l (p + 1) = e at *
  by_cases c : e = p + 1
  · rw [if_pos c] at h
    rw [if_pos (by omega)]
    exact ⟨by omega, by rw [show ((p : Int) + 1).toNat = p + 1 by omega]; exact h⟩
  rw [if_neg c] at h
  rw [if_neg (by omega)]
  refine ⟨l, e, rfl, hl, ?_⟩
  by_cases x : e < l.length
  · rw [if_pos x] at h ⊢
    exact h
  rw [if_neg x] at h ⊢
  have s1 := cut_tx (l := l) (b := b) (e := p) (by omega) (by omega)
  have s2 : cutS (tx l) (some ((p : Int) + 1)) (some (e : Int)) = tx (seg l (p + 1) e) := by
    have := cut_tx (l := l) (b := p + 1) (e := e) (by omega) le
    rw [← this]
    rfl
  have l1 := seg_len (l := l) (b := b) (e := p) (by omega) (by omega)
  have l2 := seg_len (l := l) (b := p + 1) (e := e) (by omega) le
  rw [s1, s2, tx_len, tx_len, tx_app, tx_len]
  have r1 : intText? (tx (seg l b p ++ seg l (p + 1) e)) = some ((PySem.NumText.digitsVal (seg l b p ++ seg l (p + 1) e) : Nat) : Int) := by
    refine PySem.intText_digits (dig_app (seg_dig hd) (seg_dig ed)) (fun z => ?_) (by rw [tx_len, List.length_append, l1, l2]; omega)
    have z' : seg l b p ++ seg l (p + 1) e = [] := by simpa using z
    have z2 := congrArg List.length z'
    rw [List.length_append, l1] at z2
    simp at z2
    omega
  have ek : ((e : Int) - (p : Int) - 1).toNat = e - (p + 1) := by omega
  have n0 : (Str.ofString "0").length = 1 := by decide +kernel
  have n1 : Str.ofString "1" = tx [49] := by decide +kernel
  have r2 := int_tens (k := e - (p + 1)) (by omega)
  have pw : ((10 ^ (e - (p + 1)) : Nat) : Int) = (10 : Int) ^ (e - (p + 1)) := by simp
  have p0 : (0 : Int) < (10 : Int) ^ (e - (p + 1)) := Int.pow_pos (by decide)
  have p1 : (10 : Int) ^ (e - (p + 1)) < 1606938044258990275541962092341162602522202993782792835301376 := by
    rw [← pw]
    have : 10 ^ (e - (p + 1)) ≤ 10 ^ 40 := Nat.pow_le_pow_right (by decide) (by omega)
    have e2 : (10 : Nat) ^ 40 = 10000000000000000000000000000000000000000 := by decide +kernel
    omega
  refine ⟨hl, hl, by rw [l1, l2]; omega, by rw [tx_len, List.length_append, l1, l2]; omega, ?_⟩
  rw [r1]
  simp only []
  rw [ek, n0, n1, rep0, r2, pw]
  have rl : (repS (Str.ofString "0") (e - (p + 1))).length = e - (p + 1) := by
    have := congrArg Str.length (rep0 (e - (p + 1)))
    have a2 : (tx [49] ++ repS (Str.ofString "0") (e - (p + 1))).length = 1 + (repS (Str.ofString "0") (e - (p + 1))).length := by
      show (([49] : List Nat).toArray ++ _).size = _
      rw [Array.size_append]
      rfl
    rw [a2, tx_len (49 :: List.replicate (e - (p + 1)) 48), List.length_cons, List.length_replicate] at this
    omega
  rw [rl, tx_len, tx_len]
  unfold sgn lowF at h
  by_cases b1 : b = 1
  · rw [if_pos b1] at h
    rw [if_pos (by omega)]
    exact ⟨⟨by omega, by omega, by decide⟩, by simp; omega, by simp; omega, ⟨p0, p1⟩, h⟩
  · rw [if_neg b1] at h
    rw [if_neg (by omega)]
    exact ⟨⟨by omega, by omega, by decide⟩, by simp; omega, by simp; omega, ⟨p0, p1⟩, h⟩
def sp_check_text : SpD :=
  fun ds R => match ds with
  | [.str _] => R .non
  | _ => False
set_option maxHeartbeats 0 in
theorem ok_check_text (T : Txt K mg) (D0 : Dfn K mg "check_text" "check_text" s_check_text ["text"] [])  : Cal P w K mg base tabs "check_text" 1 1 ["text"] [] sp_check_text := by
  refine cal_of D0 sc_check_text fun f cdv A outer s H E p ht hg hk hr => ⟨_, (pdss_one (pds_if (pdt_not (pdt_val (pd_callB cd_isi rfl T.b_isinstance PyProof.Rows.boot_isinstance (pda_cons (pd_var 0) (pda_cons (pd_ty rfl T.b_str PyProof.Rows.boot_str) pda_nil))))) (pdss_one pds_never) pdss_nil)), ?_⟩
  intro ds R hl h; unfold sp_check_text at h; split at h
  all_goals (try exact False.elim h)
  all_goals clear hl hg hr hk ht
  simp (implicitDefEqProofs := false) (maxSteps := 3000000) only [gAddS, gMulS, gSlS, gIxS, cLenS, gInS, cStrI, cIntS, dJoin, gJ, dReplC, dZfill, strsOf, xaCons, xaNil, xExpr, xSeq, xIf, xRet, xRaise, xOf, xB, xBK, xAsg, xTry, xTryIs, xHeard, mD0, mD1, mD2, startD, List.map_cons, List.map_nil, List.length_cons, List.length_nil, List.replicate, List.cons_append, List.nil_append, Nat.reduceAdd, Nat.reduceSub, Nat.zero_add, dSeq, dIfS, dOr, dAnd, dNot, dTst, dOp, dUn, dVar, dC, dB, dBK, dCons, dNil, dTup, dLst, dRet, dRetN, dRetF, dRetO, dBO, dFr, dRepL, dCatL, dRev, dRevL, dSlO, dCatO, cSorted, SpO.sp, dNext, dNever, dAsg, dPar, dPar3, dParO, dIf, dAndV, dOrV, dNotV, dCh, dCt, cLast, cLink, tLast, tLink, dDrop, dFor, dBrk, dCnt, dOwn, dApp, dExt, dFree, gPutO, dIxO, dLend, dLendT, dLcF, gN, gTu, gCn, gNl, gP0, gP1, gII, gIIc, gAdd, gNeg, gIx, gEq, gNe, gIs, gIsNot, gIn, gNotIn, gSl, oNone, oSome, gMt, gIndex, cTuple, cList, cI1, cI2, cInt, cLen, cMax, cMin, cMaxT, cMinT, dAug, cAll, cAny, cRepr, cSqrt, cIsi, tyN, isNon, kb_tt, kb_ii, kb_ib, kb_bi, kb_bb, kb_it, kb_bt, kb_nt, kb_ni, kb_lt, kb_li, kb_ti, kb_si, kb_st, kb_ss, rd, dTru, dRgN, dEnum, gMulT, gDivN, gDivNB, gEqF, dCallV, spOf, atD, ordD, dSq, dZip, dZipM, dZip3, zipD3_map, gShl, dParOO, zipD_map, ivD, dRg1, dRg2, dLc, dYes, dLcGo, dGen, dGenGo, wipeD, boolsOf, intsOf, maxL, minL, noL, noLs, Option.map_some, Option.bind_some, List.all_cons, List.all_nil, List.any_cons, List.any_nil, id_eq, List.set_cons_zero, List.set_cons_succ, List.getElem?_cons_zero, List.getElem?_cons_succ, List.getElem?_nil, List.getD_cons_zero, List.getD_cons_succ, decide_eq_true_eq, decide_eq_false_iff_not, Bool.not_eq_true', Bool.not_true, Bool.not_false, Bool.and_true, Bool.true_and, Bool.and_false, Bool.false_and, Bool.false_eq_true, if_true, if_false, reduceIte, ite_true, ite_false, true_and, and_true, reduceCtorEq, Int.toNat_zero, Int.toNat_one, Int.cast_ofNat_Int, Int.reduceLT, Int.reduceLE, Int.reduceNeg, Int.reduceToNat, Int.reducePow, Int.reduceMul, Int.reduceAdd, Int.reduceSub, decide_true, decide_false]
  exact h
def sp_parse_ratio : SpX :=
  fun ds R Rx => ∃ (l : List Nat), ds = [.str (tx l)] ∧ l.length ≤ 16777216 ∧ (match parR l with
    | .ok v => R (ivD v)
    | .error p => Rx (badX p))
set_option maxHeartbeats 0 in
theorem ok_parse_ratio (T : Txt K mg) (D0 : Dfn K mg "parse_ratio" "parse_ratio" s_parse_ratio ["text"] [(["text"], 0, [0])]) (C_check_text : Cal P w K mg base tabs "check_text" 1 1 ["text"] [] sp_check_text) (C__few_digits_end : Cal P w K mg base tabs "_few_digits_end" 2 2 ["text", "begin"] [] sp__few_digits_end) (C__check_read : CalX P w K mg base tabs "_check_read" 3 3 ["text", "begin", "end"] [] sp__check_read) (C_ratio_of : Cal P w K mg base tabs "ratio_of" 1 2 ["number", "under"] [] sp_ratio_of) (C__under_read : CalX P w K mg base tabs "_under_read" 4 2 ["text", "begin"] [] sp__under_read) (C__tenths_read : CalX P w K mg base tabs "_tenths_read" 4 3 ["text", "begin", "point"] [] sp__tenths_read) (C__check_whole : CalX P w K mg base tabs "_check_whole" 3 2 ["text", "end"] [] sp__check_whole) : CalX P w K mg base tabs "parse_ratio" 5 1 ["text"] [(["text"], 0, [0])] sp_parse_ratio := by
  refine calx_of D0 sc_parse_ratio fun f cdv A outer s H E p ht hg hk hr => ⟨_, (pdsxs_cons (pdsx_of (pds_expr (pdcC (C_check_text.cal ht) hg hr (pda_cons (pd_var 0) pda_nil))))
      (pdsxs_cons (pdsx_of (pds_set (i := 1) sc_parse_ratio.nd rfl (Or.inl rfl) (pd_ifx (pdt_cmp (opd_eq hr.units) (pd_slS (pd_var 0) pdo_none (pdo_some pd_int)) pd_str) pd_int pd_int)))
      (pdsxs_cons (pdsx_of (pds_set (i := 2) sc_parse_ratio.nd rfl (Or.inl rfl) (pdcC (C__few_digits_end.cal ht) hg hr (pda_cons (pd_var 0) (pda_cons (pd_var 1) pda_nil)))))
      (pdsxs_cons (pdsx_expr (pdxC (C__check_read.cal ht) (takes_of rfl rfl rfl rfl) hg hr (pda_cons (pd_var 0) (pda_cons (pd_var 1) (pda_cons (pd_var 2) pda_nil)))))
      (pdsxs_cons (pdsx_of (pds_set (i := 3) sc_parse_ratio.nd rfl (Or.inl rfl) (pd_callTy cd_intS rfl T.b_int PyProof.Rows.boot_int (pda_cons (pd_slS (pd_var 0) (pdo_some (pd_var 1)) (pdo_some (pd_var 2))) pda_nil))))
      (pdsxs_cons (pdsx_of (pds_if (pdt_cmp (opd_eq hr.units) (pd_var 1) pd_int) (pdss_one (pds_set (i := 3) sc_parse_ratio.nd rfl (Or.inl rfl) (pd_un und_neg (pd_var 3)))) pdss_nil))
      (pdsxs_cons (pdsx_if (pdt_cmp (opd_eq hr.units) (pd_slS (pd_var 0) (pdo_some (pd_var 2)) (pdo_some (pd_bin opd_add (pd_var 2) pd_int))) pd_str) (pdsxs_one (pdsx_ret (pdxCA (C_ratio_of.cal ht) hg hr (pdax_cons (pdx_of (pd_var 3)) (pdax_cons (pdxC (C__under_read.cal ht) (takes_of rfl rfl rfl rfl) hg hr (pda_cons (pd_var 0) (pda_cons (pd_bin opd_add (pd_var 2) pd_int) pda_nil))) pdax_nil))))) pdsxs_nil)
      (pdsxs_cons (pdsx_if (pdt_cmp (opd_eq hr.units) (pd_slS (pd_var 0) (pdo_some (pd_var 2)) (pdo_some (pd_bin opd_add (pd_var 2) pd_int))) pd_str) (pdsxs_one (pdsx_ret (pdxC (C__tenths_read.cal ht) (takes_of rfl rfl rfl rfl) hg hr (pda_cons (pd_var 0) (pda_cons (pd_var 1) (pda_cons (pd_var 2) pda_nil)))))) pdsxs_nil)
      (pdsxs_cons (pdsx_expr (pdxC (C__check_whole.cal ht) (takes_of rfl rfl rfl rfl) hg hr (pda_cons (pd_var 0) (pda_cons (pd_var 2) pda_nil))))
      (pdsxs_one (pdsx_of (pds_ret (pd_tup (pda_cons (pd_var 3) (pda_cons pd_int pda_nil))))))))))))))), ?_⟩
  intro ds R Rx hl h; unfold sp_parse_ratio at h
  clear hl hg hr hk ht
  obtain ⟨l, rfl, hl, h⟩ := h
  unfold parR at h
  have hb : (if l.take 1 = [45] then 1 else 0) ≤ l.length := by
    by_cases c : l.take 1 = [45]
    · rw [if_pos c]
      have := congrArg List.length c
      rw [List.length_take] at this
      simp at this
      omega
    · rw [if_neg c]
      omega
  have hd : (Str.ofString "-") = tx [45] := by decide +kernel
  refine xseqTo [some (.str (tx l)), none, none, none] (fun k hk => ?_) (xseqTo [some (.str (tx l)), some (.int ((if l.take 1 = [45] then 1 else 0 : Nat) : Int)), none, none] (fun k hk => ?_) ?_)
  · simp (implicitDefEqProofs := false) (maxSteps := 3000000) only [gAddS, gMulS, gSlS, gIxS, cLenS, gInS, cStrI, cIntS, dJoin, gJ, dReplC, dZfill, strsOf, xaCons, xaNil, xExpr, xSeq, xIf, xRet, xRaise, xOf, xB, xBK, xAsg, xTry, xTryIs, xHeard, mD0, mD1, mD2, startD, List.map_cons, List.map_nil, List.length_cons, List.length_nil, List.replicate, List.cons_append, List.nil_append, Nat.reduceAdd, Nat.reduceSub, Nat.zero_add, dSeq, dIfS, dOr, dAnd, dNot, dTst, dOp, dUn, dVar, dC, dB, dBK, dCons, dNil, dTup, dLst, dRet, dRetN, dRetF, dRetO, dBO, dFr, dRepL, dCatL, dRev, dRevL, dSlO, dCatO, cSorted, SpO.sp, dNext, dNever, dAsg, dPar, dPar3, dParO, dIf, dAndV, dOrV, dNotV, dCh, dCt, cLast, cLink, tLast, tLink, dDrop, dFor, dBrk, dCnt, dOwn, dApp, dExt, dFree, gPutO, dIxO, dLend, dLendT, dLcF, gN, gTu, gCn, gNl, gP0, gP1, gII, gIIc, gAdd, gNeg, gIx, gEq, gNe, gIs, gIsNot, gIn, gNotIn, gSl, oNone, oSome, gMt, gIndex, cTuple, cList, cI1, cI2, cInt, cLen, cMax, cMin, cMaxT, cMinT, dAug, cAll, cAny, cRepr, cSqrt, cIsi, tyN, isNon, kb_tt, kb_ii, kb_ib, kb_bi, kb_bb, kb_it, kb_bt, kb_nt, kb_ni, kb_lt, kb_li, kb_ti, kb_si, kb_st, kb_ss, rd, dTru, dRgN, dEnum, gMulT, gDivN, gDivNB, gEqF, dCallV, spOf, atD, ordD, dSq, dZip, dZipM, dZip3, zipD3_map, gShl, dParOO, zipD_map, ivD, dRg1, dRg2, dLc, dYes, dLcGo, dGen, dGenGo, wipeD, boolsOf, intsOf, maxL, minL, noL, noLs, Option.map_some, Option.bind_some, List.all_cons, List.all_nil, List.any_cons, List.any_nil, id_eq, List.set_cons_zero, List.set_cons_succ, List.getElem?_cons_zero, List.getElem?_cons_succ, List.getElem?_nil, List.getD_cons_zero, List.getD_cons_succ, decide_eq_true_eq, decide_eq_false_iff_not, Bool.not_eq_true', Bool.not_true, Bool.not_false, Bool.and_true, Bool.true_and, Bool.and_false, Bool.false_and, Bool.false_eq_true, if_true, if_false, reduceIte, ite_true, ite_false, true_and, and_true, reduceCtorEq, Int.toNat_zero, Int.toNat_one, Int.cast_ofNat_Int, Int.reduceLT, Int.reduceLE, Int.reduceNeg, Int.reduceToNat, Int.reducePow, Int.reduceMul, Int.reduceAdd, Int.reduceSub, decide_true, decide_false, sp_check_text, sp__few_digits_end, sp__check_read, sp_ratio_of, sp__under_read, sp__tenths_read, sp__check_whole]
    exact hk
  · simp (implicitDefEqProofs := false) (maxSteps := 3000000) only [gAddS, gMulS, gSlS, gIxS, cLenS, gInS, cStrI, cIntS, dJoin, gJ, dReplC, dZfill, strsOf, xaCons, xaNil, xExpr, xSeq, xIf, xRet, xRaise, xOf, xB, xBK, xAsg, xTry, xTryIs, xHeard, mD0, mD1, mD2, startD, List.map_cons, List.map_nil, List.length_cons, List.length_nil, List.replicate, List.cons_append, List.nil_append, Nat.reduceAdd, Nat.reduceSub, Nat.zero_add, dSeq, dIfS, dOr, dAnd, dNot, dTst, dOp, dUn, dVar, dC, dB, dBK, dCons, dNil, dTup, dLst, dRet, dRetN, dRetF, dRetO, dBO, dFr, dRepL, dCatL, dRev, dRevL, dSlO, dCatO, cSorted, SpO.sp, dNext, dNever, dAsg, dPar, dPar3, dParO, dIf, dAndV, dOrV, dNotV, dCh, dCt, cLast, cLink, tLast, tLink, dDrop, dFor, dBrk, dCnt, dOwn, dApp, dExt, dFree, gPutO, dIxO, dLend, dLendT, dLcF, gN, gTu, gCn, gNl, gP0, gP1, gII, gIIc, gAdd, gNeg, gIx, gEq, gNe, gIs, gIsNot, gIn, gNotIn, gSl, oNone, oSome, gMt, gIndex, cTuple, cList, cI1, cI2, cInt, cLen, cMax, cMin, cMaxT, cMinT, dAug, cAll, cAny, cRepr, cSqrt, cIsi, tyN, isNon, kb_tt, kb_ii, kb_ib, kb_bi, kb_bb, kb_it, kb_bt, kb_nt, kb_ni, kb_lt, kb_li, kb_ti, kb_si, kb_st, kb_ss, rd, dTru, dRgN, dEnum, gMulT, gDivN, gDivNB, gEqF, dCallV, spOf, atD, ordD, dSq, dZip, dZipM, dZip3, zipD3_map, gShl, dParOO, zipD_map, ivD, dRg1, dRg2, dLc, dYes, dLcGo, dGen, dGenGo, wipeD, boolsOf, intsOf, maxL, minL, noL, noLs, Option.map_some, Option.bind_some, List.all_cons, List.all_nil, List.any_cons, List.any_nil, id_eq, List.set_cons_zero, List.set_cons_succ, List.getElem?_cons_zero, List.getElem?_cons_succ, List.getElem?_nil, List.getD_cons_zero, List.getD_cons_succ, decide_eq_true_eq, decide_eq_false_iff_not, Bool.not_eq_true', Bool.not_true, Bool.not_false, Bool.and_true, Bool.true_and, Bool.and_false, Bool.false_and, Bool.false_eq_true, if_true, if_false, reduceIte, ite_true, ite_false, true_and, and_true, reduceCtorEq, Int.toNat_zero, Int.toNat_one, Int.cast_ofNat_Int, Int.reduceLT, Int.reduceLE, Int.reduceNeg, Int.reduceToNat, Int.reducePow, Int.reduceMul, Int.reduceAdd, Int.reduceSub, decide_true, decide_false, sp_check_text, sp__few_digits_end, sp__check_read, sp_ratio_of, sp__under_read, sp__tenths_read, sp__check_whole]
    rw [tx_len, cut0, hd]
    simp only [tx_inj]
    refine ⟨hl, ?_⟩
    by_cases c : l.take 1 = [45]
    · rw [if_pos c] at hk ⊢
      exact hk
    · rw [if_neg c] at hk ⊢
      exact hk
  generalize (if l.take 1 = [45] then 1 else 0) = b at *
  unfold parB at h
  have ge := fEnd_ge l b
  have le := fEnd_le hb
  have ed : fEnd l b ≤ dend l b := Nat.min_le_left _ _
  have e40 : fEnd l b ≤ b + 40 := Nat.min_le_right _ _
  refine xseqTo [some (.str (tx l)), some (.int (b : Int)), some (.int ((fEnd l b : Nat) : Int)), none] (fun k hk => ?_) ?_
  · simp (implicitDefEqProofs := false) (maxSteps := 3000000) only [gAddS, gMulS, gSlS, gIxS, cLenS, gInS, cStrI, cIntS, dJoin, gJ, dReplC, dZfill, strsOf, xaCons, xaNil, xExpr, xSeq, xIf, xRet, xRaise, xOf, xB, xBK, xAsg, xTry, xTryIs, xHeard, mD0, mD1, mD2, startD, List.map_cons, List.map_nil, List.length_cons, List.length_nil, List.replicate, List.cons_append, List.nil_append, Nat.reduceAdd, Nat.reduceSub, Nat.zero_add, dSeq, dIfS, dOr, dAnd, dNot, dTst, dOp, dUn, dVar, dC, dB, dBK, dCons, dNil, dTup, dLst, dRet, dRetN, dRetF, dRetO, dBO, dFr, dRepL, dCatL, dRev, dRevL, dSlO, dCatO, cSorted, SpO.sp, dNext, dNever, dAsg, dPar, dPar3, dParO, dIf, dAndV, dOrV, dNotV, dCh, dCt, cLast, cLink, tLast, tLink, dDrop, dFor, dBrk, dCnt, dOwn, dApp, dExt, dFree, gPutO, dIxO, dLend, dLendT, dLcF, gN, gTu, gCn, gNl, gP0, gP1, gII, gIIc, gAdd, gNeg, gIx, gEq, gNe, gIs, gIsNot, gIn, gNotIn, gSl, oNone, oSome, gMt, gIndex, cTuple, cList, cI1, cI2, cInt, cLen, cMax, cMin, cMaxT, cMinT, dAug, cAll, cAny, cRepr, cSqrt, cIsi, tyN, isNon, kb_tt, kb_ii, kb_ib, kb_bi, kb_bb, kb_it, kb_bt, kb_nt, kb_ni, kb_lt, kb_li, kb_ti, kb_si, kb_st, kb_ss, rd, dTru, dRgN, dEnum, gMulT, gDivN, gDivNB, gEqF, dCallV, spOf, atD, ordD, dSq, dZip, dZipM, dZip3, zipD3_map, gShl, dParOO, zipD_map, ivD, dRg1, dRg2, dLc, dYes, dLcGo, dGen, dGenGo, wipeD, boolsOf, intsOf, maxL, minL, noL, noLs, Option.map_some, Option.bind_some, List.all_cons, List.all_nil, List.any_cons, List.any_nil, id_eq, List.set_cons_zero, List.set_cons_succ, List.getElem?_cons_zero, List.getElem?_cons_succ, List.getElem?_nil, List.getD_cons_zero, List.getD_cons_succ, decide_eq_true_eq, decide_eq_false_iff_not, Bool.not_eq_true', Bool.not_true, Bool.not_false, Bool.and_true, Bool.true_and, Bool.and_false, Bool.false_and, Bool.false_eq_true, if_true, if_false, reduceIte, ite_true, ite_false, true_and, and_true, reduceCtorEq, Int.toNat_zero, Int.toNat_one, Int.cast_ofNat_Int, Int.reduceLT, Int.reduceLE, Int.reduceNeg, Int.reduceToNat, Int.reducePow, Int.reduceMul, Int.reduceAdd, Int.reduceSub, decide_true, decide_false, sp_check_text, sp__few_digits_end, sp__check_read, sp_ratio_of, sp__under_read, sp__tenths_read, sp__check_whole]
    exact ⟨l, b, rfl, hb, hl, hk⟩
  generalize fEnd l b = e at *
  simp (implicitDefEqProofs := false) (maxSteps := 3000000) only [gAddS, gMulS, gSlS, gIxS, cLenS, gInS, cStrI, cIntS, dJoin, gJ, dReplC, dZfill, strsOf, xaCons, xaNil, xExpr, xSeq, xIf, xRet, xRaise, xOf, xB, xBK, xAsg, xTry, xTryIs, xHeard, mD0, mD1, mD2, startD, List.map_cons, List.map_nil, List.length_cons, List.length_nil, List.replicate, List.cons_append, List.nil_append, Nat.reduceAdd, Nat.reduceSub, Nat.zero_add, dSeq, dIfS, dOr, dAnd, dNot, dTst, dOp, dUn, dVar, dC, dB, dBK, dCons, dNil, dTup, dLst, dRet, dRetN, dRetF, dRetO, dBO, dFr, dRepL, dCatL, dRev, dRevL, dSlO, dCatO, cSorted, SpO.sp, dNext, dNever, dAsg, dPar, dPar3, dParO, dIf, dAndV, dOrV, dNotV, dCh, dCt, cLast, cLink, tLast, tLink, dDrop, dFor, dBrk, dCnt, dOwn, dApp, dExt, dFree, gPutO, dIxO, dLend, dLendT, dLcF, gN, gTu, gCn, gNl, gP0, gP1, gII, gIIc, gAdd, gNeg, gIx, gEq, gNe, gIs, gIsNot, gIn, gNotIn, gSl, oNone, oSome, gMt, gIndex, cTuple, cList, cI1, cI2, cInt, cLen, cMax, cMin, cMaxT, cMinT, dAug, cAll, cAny, cRepr, cSqrt, cIsi, tyN, isNon, kb_tt, kb_ii, kb_ib, kb_bi, kb_bb, kb_it, kb_bt, kb_nt, kb_ni, kb_lt, kb_li, kb_ti, kb_si, kb_st, kb_ss, rd, dTru, dRgN, dEnum, gMulT, gDivN, gDivNB, gEqF, dCallV, spOf, atD, ordD, dSq, dZip, dZipM, dZip3, zipD3_map, gShl, dParOO, zipD_map, ivD, dRg1, dRg2, dLc, dYes, dLcGo, dGen, dGenGo, wipeD, boolsOf, intsOf, maxL, minL, noL, noLs, Option.map_some, Option.bind_some, List.all_cons, List.all_nil, List.any_cons, List.any_nil, id_eq, List.set_cons_zero, List.set_cons_succ, List.getElem?_cons_zero, List.getElem?_cons_succ, List.getElem?_nil, List.getD_cons_zero, List.getD_cons_succ, decide_eq_true_eq, decide_eq_false_iff_not, Bool.not_eq_true', Bool.not_true, Bool.not_false, Bool.and_true, Bool.true_and, Bool.and_false, Bool.false_and, Bool.false_eq_true, if_true, if_false, reduceIte, ite_true, ite_false, true_and, and_true, reduceCtorEq, Int.toNat_zero, Int.toNat_one, Int.cast_ofNat_Int, Int.reduceLT, Int.reduceLE, Int.reduceNeg, Int.reduceToNat, Int.reducePow, Int.reduceMul, Int.reduceAdd, Int.reduceSub, decide_true, decide_false, sp_check_text, sp__few_digits_end, sp__check_read, sp_ratio_of, sp__under_read, sp__tenths_read, sp__check_whole]
  by_cases c : e = b
  · rw [if_pos c] at h
    rw [if_pos (by omega)]
    exact ⟨by omega, by rw [Int.toNat_natCast]; exact h⟩
  rw [if_neg c] at h
  rw [if_neg (by omega)]
  have bl := int_seg ed (by omega) le e40
  have ln := seg_len ge le
  have slash : Str.ofString "/" = tx [47] := by decide +kernel
  have dot : Str.ofString "." = tx [46] := by decide +kernel
  refine ⟨by rw [tx_len]; exact hl, by rw [cut_tx hb le, tx_len, ln]; omega, ?_⟩
  rw [cut_tx hb le, bl, cut1 le, tx_len, slash, dot]
  simp only [tx_inj]
  generalize ((PySem.NumText.digitsVal (seg l b e) : Nat) : Int) = n at *
  unfold sgn at h
  by_cases b1 : b = 1
  · rw [if_pos b1] at h
    rw [if_pos (by omega)]
    refine ⟨hl, ?_⟩
    by_cases s : (l.drop e).take 1 = [47]
    · rw [if_pos s] at h ⊢
      have lt := take1_lt s
      refine ⟨l, e + 1, by simp, by omega, hl, ?_⟩
      cases hu : underR l (e + 1) with
      | ok v =>
        rw [hu] at h
        have := under_ok (by omega) hu
        exact ⟨⟨by omega, by omega⟩, h⟩
      | error p =>
        rw [hu] at h
        exact h
    · rw [if_neg s] at h ⊢
      refine ⟨hl, ?_⟩
      by_cases d : (l.drop e).take 1 = [46]
      · rw [if_pos d] at h ⊢
        exact ⟨l, b, e, rfl, ⟨by omega, take1_lt d, ed, e40, hl⟩, h⟩
      · rw [if_neg d] at h ⊢
        refine ⟨l, e, rfl, hl, ?_⟩
        by_cases x : e < l.length
        · rw [if_pos x] at h ⊢
          exact h
        · rw [if_neg x] at h ⊢
          exact h
  · rw [if_neg b1] at h
    rw [if_neg (by omega)]
    refine ⟨hl, ?_⟩
    by_cases s : (l.drop e).take 1 = [47]
    · rw [if_pos s] at h ⊢
      have lt := take1_lt s
      refine ⟨l, e + 1, by simp, by omega, hl, ?_⟩
      cases hu : underR l (e + 1) with
      | ok v =>
        rw [hu] at h
        have := under_ok (by omega) hu
        exact ⟨⟨by omega, by omega⟩, h⟩
      | error p =>
        rw [hu] at h
        exact h
    · rw [if_neg s] at h ⊢
      refine ⟨hl, ?_⟩
      by_cases d : (l.drop e).take 1 = [46]
      · rw [if_pos d] at h ⊢
        exact ⟨l, b, e, rfl, ⟨by omega, take1_lt d, ed, e40, hl⟩, h⟩
      · rw [if_neg d] at h ⊢
        refine ⟨l, e, rfl, hl, ?_⟩
        by_cases x : e < l.length
        · rw [if_pos x] at h ⊢
          exact h
        · rw [if_neg x] at h ⊢
          exact h
def sp_digits_ofpos : SpD :=
  fun ds R => match ds with
  | [.int n] => (0 ≤ n ∧ n < 1000000000000000000000000000000000000000000000000000000000000000000000000000000000000000000000000000000000000000000000000) ∧ R (.str (toString n))
  | _ => False
set_option maxHeartbeats 0 in
theorem ok_digits_ofpos (T : Txt K mg) (D0 : Dfn K mg "digits_of" "digits_of" s_digits_of ["number"] [])  : Cal P w K mg base tabs "digits_of" 1 1 ["number"] [] sp_digits_ofpos := by
  refine cal_of D0 sc_digits_of fun f cdv A outer s H E p ht hg hk hr => ⟨_, (pdss_cons (pds_if (pdt_cmp opd_lt (pd_var 0) pd_int) (pdss_one pds_never) pdss_nil)
      (pdss_cons (pds_own (i := 1) sc_digits_of.nd rfl (Or.inl rfl) (pdf_lst pda_nil))
      (pdss_cons (pds_while PassesOwn.never (pdt_cmp opd_ge (pd_var 0) (pd_gint rfl T.m__PIECE)) (pdss_cons (pds_asg (pd_callB cd_divmod rfl T.b_divmod PyProof.Rows.boot_divmod (pda_cons (pd_var 0) (pda_cons (pd_gint rfl T.m__PIECE) pda_nil))) (pdg_tup (n := 2) rfl (pdgs_cons (pdg_name (i := 0) sc_digits_of.nd rfl (Or.inl rfl)) (pdgs_cons (pdg_name (i := 2) sc_digits_of.nd rfl (Or.inl rfl)) pdgs_nil))))
      (pdss_one (pds_app (i := 1) (pd_zfill (pd_callTy cd_strI rfl T.b_str PyProof.Rows.boot_str (pda_cons (pd_var 2) pda_nil)) (pd_gint rfl T.m__PIECE_DIGITS))))))
      (pdss_cons (pds_app (i := 1) (pd_callTy cd_strI rfl T.b_str PyProof.Rows.boot_str (pda_cons (pd_var 0) pda_nil)))
      (pdss_one (pds_free 1 (pds_ret (pd_join pd_str (pd_revL (pd_var 1)))))))))), ?_⟩
  intro ds R hl h; unfold sp_digits_ofpos at h; split at h
  all_goals (try exact False.elim h)
  all_goals clear hl hg hr hk ht
  rename_i n
  obtain ⟨⟨h1, h2⟩, h⟩ := h
  simp (implicitDefEqProofs := false) (maxSteps := 3000000) only [gAddS, gMulS, gSlS, gIxS, cLenS, gInS, cStrI, cIntS, dJoin, gJ, dReplC, dZfill, strsOf, xaCons, xaNil, xExpr, xSeq, xIf, xRet, xRaise, xOf, xB, xBK, xAsg, xTry, xTryIs, xHeard, mD0, mD1, mD2, startD, List.map_cons, List.map_nil, List.length_cons, List.length_nil, List.replicate, List.cons_append, List.nil_append, Nat.reduceAdd, Nat.reduceSub, Nat.zero_add, dSeq, dIfS, dOr, dAnd, dNot, dTst, dOp, dUn, dVar, dC, dB, dBK, dCons, dNil, dTup, dLst, dRet, dRetN, dRetF, dRetO, dBO, dFr, dRepL, dCatL, dRev, dRevL, dSlO, dCatO, cSorted, SpO.sp, dNext, dNever, dAsg, dPar, dPar3, dParO, dIf, dAndV, dOrV, dNotV, dCh, dCt, cLast, cLink, tLast, tLink, dDrop, dFor, dBrk, dCnt, dOwn, dApp, dExt, dFree, gPutO, dIxO, dLend, dLendT, dLcF, gN, gTu, gCn, gNl, gP0, gP1, gII, gIIc, gAdd, gNeg, gIx, gEq, gNe, gIs, gIsNot, gIn, gNotIn, gSl, oNone, oSome, gMt, gIndex, cTuple, cList, cI1, cI2, cInt, cLen, cMax, cMin, cMaxT, cMinT, dAug, cAll, cAny, cRepr, cSqrt, cIsi, tyN, isNon, kb_tt, kb_ii, kb_ib, kb_bi, kb_bb, kb_it, kb_bt, kb_nt, kb_ni, kb_lt, kb_li, kb_ti, kb_si, kb_st, kb_ss, rd, dTru, dRgN, dEnum, gMulT, gDivN, gDivNB, gEqF, dCallV, spOf, atD, ordD, dSq, dZip, dZipM, dZip3, zipD3_map, gShl, dParOO, zipD_map, ivD, dRg1, dRg2, dLc, dYes, dLcGo, dGen, dGenGo, wipeD, boolsOf, intsOf, maxL, minL, noL, noLs, Option.map_some, Option.bind_some, List.all_cons, List.all_nil, List.any_cons, List.any_nil, id_eq, List.set_cons_zero, List.set_cons_succ, List.getElem?_cons_zero, List.getElem?_cons_succ, List.getElem?_nil, List.getD_cons_zero, List.getD_cons_succ, decide_eq_true_eq, decide_eq_false_iff_not, Bool.not_eq_true', Bool.not_true, Bool.not_false, Bool.and_true, Bool.true_and, Bool.and_false, Bool.false_and, Bool.false_eq_true, if_true, if_false, reduceIte, ite_true, ite_false, true_and, and_true, reduceCtorEq, Int.toNat_zero, Int.toNat_one, Int.cast_ofNat_Int, Int.reduceLT, Int.reduceLE, Int.reduceNeg, Int.reduceToNat, Int.reducePow, Int.reduceMul, Int.reduceAdd, Int.reduceSub, decide_true, decide_false]
  rw [if_neg (by omega)]
  by_cases c : n < 1000000000000000000000000000000000000000000000000000000000000
  · refine whileI (fun m τ => τ = [some (.int n), some (.own []), none] ∧ m = 0) 0 _ ⟨rfl, rfl⟩ ?_
    rintro m τ k hk ⟨rfl, rfl⟩
    simp (implicitDefEqProofs := false) (maxSteps := 3000000) only [gAddS, gMulS, gSlS, gIxS, cLenS, gInS, cStrI, cIntS, dJoin, gJ, dReplC, dZfill, strsOf, xaCons, xaNil, xExpr, xSeq, xIf, xRet, xRaise, xOf, xB, xBK, xAsg, xTry, xTryIs, xHeard, mD0, mD1, mD2, startD, List.map_cons, List.map_nil, List.length_cons, List.length_nil, List.replicate, List.cons_append, List.nil_append, Nat.reduceAdd, Nat.reduceSub, Nat.zero_add, dSeq, dIfS, dOr, dAnd, dNot, dTst, dOp, dUn, dVar, dC, dB, dBK, dCons, dNil, dTup, dLst, dRet, dRetN, dRetF, dRetO, dBO, dFr, dRepL, dCatL, dRev, dRevL, dSlO, dCatO, cSorted, SpO.sp, dNext, dNever, dAsg, dPar, dPar3, dParO, dIf, dAndV, dOrV, dNotV, dCh, dCt, cLast, cLink, tLast, tLink, dDrop, dFor, dBrk, dCnt, dOwn, dApp, dExt, dFree, gPutO, dIxO, dLend, dLendT, dLcF, gN, gTu, gCn, gNl, gP0, gP1, gII, gIIc, gAdd, gNeg, gIx, gEq, gNe, gIs, gIsNot, gIn, gNotIn, gSl, oNone, oSome, gMt, gIndex, cTuple, cList, cI1, cI2, cInt, cLen, cMax, cMin, cMaxT, cMinT, dAug, cAll, cAny, cRepr, cSqrt, cIsi, tyN, isNon, kb_tt, kb_ii, kb_ib, kb_bi, kb_bb, kb_it, kb_bt, kb_nt, kb_ni, kb_lt, kb_li, kb_ti, kb_si, kb_st, kb_ss, rd, dTru, dRgN, dEnum, gMulT, gDivN, gDivNB, gEqF, dCallV, spOf, atD, ordD, dSq, dZip, dZipM, dZip3, zipD3_map, gShl, dParOO, zipD_map, ivD, dRg1, dRg2, dLc, dYes, dLcGo, dGen, dGenGo, wipeD, boolsOf, intsOf, maxL, minL, noL, noLs, Option.map_some, Option.bind_some, List.all_cons, List.all_nil, List.any_cons, List.any_nil, id_eq, List.set_cons_zero, List.set_cons_succ, List.getElem?_cons_zero, List.getElem?_cons_succ, List.getElem?_nil, List.getD_cons_zero, List.getD_cons_succ, decide_eq_true_eq, decide_eq_false_iff_not, Bool.not_eq_true', Bool.not_true, Bool.not_false, Bool.and_true, Bool.true_and, Bool.and_false, Bool.false_and, Bool.false_eq_true, if_true, if_false, reduceIte, ite_true, ite_false, true_and, and_true, reduceCtorEq, Int.toNat_zero, Int.toNat_one, Int.cast_ofNat_Int, Int.reduceLT, Int.reduceLE, Int.reduceNeg, Int.reduceToNat, Int.reducePow, Int.reduceMul, Int.reduceAdd, Int.reduceSub, decide_true, decide_false]
    rw [if_neg (by omega)]
    have e : strsOf [D.str (nT n)].reverse = some [nT n] := rfl
    have ln := nT_len (n := n) (k := 59) h1 (by rw [p60]; omega)
    refine ⟨small_log (by omega) (by omega), by decide, ?_⟩
    show (match strsOf [D.str (nT n)].reverse with
      | some ys => (ys.map (·.length)).sum + ys.length * (Str.ofString "").length ≤ 16777216 ∧ R (.str (Txt.join (Str.ofString "") ys))
      | none => False)
    rw [e]
    refine ⟨?_, ?_⟩
    · simp only [List.map_cons, List.map_nil, List.sum_cons, List.sum_nil, List.length_cons, List.length_nil]
      have : (Str.ofString "").length = 0 := by decide +kernel
      omega
    · rw [join1]
      exact h
  · refine whileI (fun m τ => (τ = [some (.int n), some (.own []), none] ∧ m = 1) ∨ (∃ o, τ = [some (.int (n / 1000000000000000000000000000000000000000000000000000000000000)), some (.own [.str (tx (pad 60 (n % 1000000000000000000000000000000000000000000000000000000000000).toNat))]), o] ∧ m = 0)) 1 _ (.inl ⟨rfl, rfl⟩) ?_
    have q0 : 0 < n / 1000000000000000000000000000000000000000000000000000000000000 := by omega
    have q1 : n / 1000000000000000000000000000000000000000000000000000000000000 < 1000000000000000000000000000000000000000000000000000000000000 := by omega
    have r0 : 0 ≤ n % 1000000000000000000000000000000000000000000000000000000000000 := by omega
    have r1 : n % 1000000000000000000000000000000000000000000000000000000000000 < 1000000000000000000000000000000000000000000000000000000000000 := by omega
    rintro m τ k hk (⟨rfl, rfl⟩ | ⟨o, rfl, rfl⟩)
    · simp (implicitDefEqProofs := false) (maxSteps := 3000000) only [gAddS, gMulS, gSlS, gIxS, cLenS, gInS, cStrI, cIntS, dJoin, gJ, dReplC, dZfill, strsOf, xaCons, xaNil, xExpr, xSeq, xIf, xRet, xRaise, xOf, xB, xBK, xAsg, xTry, xTryIs, xHeard, mD0, mD1, mD2, startD, List.map_cons, List.map_nil, List.length_cons, List.length_nil, List.replicate, List.cons_append, List.nil_append, Nat.reduceAdd, Nat.reduceSub, Nat.zero_add, dSeq, dIfS, dOr, dAnd, dNot, dTst, dOp, dUn, dVar, dC, dB, dBK, dCons, dNil, dTup, dLst, dRet, dRetN, dRetF, dRetO, dBO, dFr, dRepL, dCatL, dRev, dRevL, dSlO, dCatO, cSorted, SpO.sp, dNext, dNever, dAsg, dPar, dPar3, dParO, dIf, dAndV, dOrV, dNotV, dCh, dCt, cLast, cLink, tLast, tLink, dDrop, dFor, dBrk, dCnt, dOwn, dApp, dExt, dFree, gPutO, dIxO, dLend, dLendT, dLcF, gN, gTu, gCn, gNl, gP0, gP1, gII, gIIc, gAdd, gNeg, gIx, gEq, gNe, gIs, gIsNot, gIn, gNotIn, gSl, oNone, oSome, gMt, gIndex, cTuple, cList, cI1, cI2, cInt, cLen, cMax, cMin, cMaxT, cMinT, dAug, cAll, cAny, cRepr, cSqrt, cIsi, tyN, isNon, kb_tt, kb_ii, kb_ib, kb_bi, kb_bb, kb_it, kb_bt, kb_nt, kb_ni, kb_lt, kb_li, kb_ti, kb_si, kb_st, kb_ss, rd, dTru, dRgN, dEnum, gMulT, gDivN, gDivNB, gEqF, dCallV, spOf, atD, ordD, dSq, dZip, dZipM, dZip3, zipD3_map, gShl, dParOO, zipD_map, ivD, dRg1, dRg2, dLc, dYes, dLcGo, dGen, dGenGo, wipeD, boolsOf, intsOf, maxL, minL, noL, noLs, Option.map_some, Option.bind_some, List.all_cons, List.all_nil, List.any_cons, List.any_nil, id_eq, List.set_cons_zero, List.set_cons_succ, List.getElem?_cons_zero, List.getElem?_cons_succ, List.getElem?_nil, List.getD_cons_zero, List.getD_cons_succ, decide_eq_true_eq, decide_eq_false_iff_not, Bool.not_eq_true', Bool.not_true, Bool.not_false, Bool.and_true, Bool.true_and, Bool.and_false, Bool.false_and, Bool.false_eq_true, if_true, if_false, reduceIte, ite_true, ite_false, true_and, and_true, reduceCtorEq, Int.toNat_zero, Int.toNat_one, Int.cast_ofNat_Int, Int.reduceLT, Int.reduceLE, Int.reduceNeg, Int.reduceToNat, Int.reducePow, Int.reduceMul, Int.reduceAdd, Int.reduceSub, decide_true, decide_false]
      rw [if_pos (by omega)]
      have z := zfill_pad (m := (n % 1000000000000000000000000000000000000000000000000000000000000).toNat)
      rw [show (((n % 1000000000000000000000000000000000000000000000000000000000000).toNat : Nat) : Int) = n % 1000000000000000000000000000000000000000000000000000000000000 by omega] at z
      have z' : Txt.zfill (Str.ofString (toString (n % 1000000000000000000000000000000000000000000000000000000000000))) 60 = _ := z
      rw [z']
      exact ⟨.of (by omega) (by omega), small_log (by omega) (by omega), by decide, by decide, hk _ 0 (by decide) (.inr ⟨_, rfl, rfl⟩)⟩
    · simp (implicitDefEqProofs := false) (maxSteps := 3000000) only [gAddS, gMulS, gSlS, gIxS, cLenS, gInS, cStrI, cIntS, dJoin, gJ, dReplC, dZfill, strsOf, xaCons, xaNil, xExpr, xSeq, xIf, xRet, xRaise, xOf, xB, xBK, xAsg, xTry, xTryIs, xHeard, mD0, mD1, mD2, startD, List.map_cons, List.map_nil, List.length_cons, List.length_nil, List.replicate, List.cons_append, List.nil_append, Nat.reduceAdd, Nat.reduceSub, Nat.zero_add, dSeq, dIfS, dOr, dAnd, dNot, dTst, dOp, dUn, dVar, dC, dB, dBK, dCons, dNil, dTup, dLst, dRet, dRetN, dRetF, dRetO, dBO, dFr, dRepL, dCatL, dRev, dRevL, dSlO, dCatO, cSorted, SpO.sp, dNext, dNever, dAsg, dPar, dPar3, dParO, dIf, dAndV, dOrV, dNotV, dCh, dCt, cLast, cLink, tLast, tLink, dDrop, dFor, dBrk, dCnt, dOwn, dApp, dExt, dFree, gPutO, dIxO, dLend, dLendT, dLcF, gN, gTu, gCn, gNl, gP0, gP1, gII, gIIc, gAdd, gNeg, gIx, gEq, gNe, gIs, gIsNot, gIn, gNotIn, gSl, oNone, oSome, gMt, gIndex, cTuple, cList, cI1, cI2, cInt, cLen, cMax, cMin, cMaxT, cMinT, dAug, cAll, cAny, cRepr, cSqrt, cIsi, tyN, isNon, kb_tt, kb_ii, kb_ib, kb_bi, kb_bb, kb_it, kb_bt, kb_nt, kb_ni, kb_lt, kb_li, kb_ti, kb_si, kb_st, kb_ss, rd, dTru, dRgN, dEnum, gMulT, gDivN, gDivNB, gEqF, dCallV, spOf, atD, ordD, dSq, dZip, dZipM, dZip3, zipD3_map, gShl, dParOO, zipD_map, ivD, dRg1, dRg2, dLc, dYes, dLcGo, dGen, dGenGo, wipeD, boolsOf, intsOf, maxL, minL, noL, noLs, Option.map_some, Option.bind_some, List.all_cons, List.all_nil, List.any_cons, List.any_nil, id_eq, List.set_cons_zero, List.set_cons_succ, List.getElem?_cons_zero, List.getElem?_cons_succ, List.getElem?_nil, List.getD_cons_zero, List.getD_cons_succ, decide_eq_true_eq, decide_eq_false_iff_not, Bool.not_eq_true', Bool.not_true, Bool.not_false, Bool.and_true, Bool.true_and, Bool.and_false, Bool.false_and, Bool.false_eq_true, if_true, if_false, reduceIte, ite_true, ite_false, true_and, and_true, reduceCtorEq, Int.toNat_zero, Int.toNat_one, Int.cast_ofNat_Int, Int.reduceLT, Int.reduceLE, Int.reduceNeg, Int.reduceToNat, Int.reducePow, Int.reduceMul, Int.reduceAdd, Int.reduceSub, decide_true, decide_false]
      rw [if_neg (by omega)]
      have e : strsOf [D.str (tx (pad 60 (n % 1000000000000000000000000000000000000000000000000000000000000).toNat)), D.str (nT (n / 1000000000000000000000000000000000000000000000000000000000000))].reverse = some [nT (n / 1000000000000000000000000000000000000000000000000000000000000), tx (pad 60 (n % 1000000000000000000000000000000000000000000000000000000000000).toNat)] := rfl
      have ln := nT_len (n := n / 1000000000000000000000000000000000000000000000000000000000000) (k := 59) (by omega) (by rw [p60]; omega)
      have lp := pad_len (m := (n % 1000000000000000000000000000000000000000000000000000000000000).toNat) (by omega)
      refine ⟨small_log (by omega) (by omega), by decide, ?_⟩
      show (match strsOf [D.str (tx (pad 60 (n % 1000000000000000000000000000000000000000000000000000000000000).toNat)), D.str (nT (n / 1000000000000000000000000000000000000000000000000000000000000))].reverse with
        | some ys => (ys.map (·.length)).sum + ys.length * (Str.ofString "").length ≤ 16777216 ∧ R (.str (Txt.join (Str.ofString "") ys))
        | none => False)
      rw [e]
      refine ⟨?_, ?_⟩
      · simp only [List.map_cons, List.map_nil, List.sum_cons, List.sum_nil, List.length_cons, List.length_nil]
        have lp' := (tx_len (pad 60 (n % 1000000000000000000000000000000000000000000000000000000000000).toNat)).trans lp
        have : (Str.ofString "").length = 0 := by decide +kernel
        omega
      · rw [join2, nT_pieces h1 (by omega)]
        exact h
def sp_digits_of : SpD :=
  fun ds R => match ds with
  | [.int n] => (-1000000000000000000000000000000000000000000000000000000000000000000000000000000000000000000000000000000000000000000000000 < n ∧ n < 1000000000000000000000000000000000000000000000000000000000000000000000000000000000000000000000000000000000000000000000000) ∧ R (.str (tx (sT n)))
  | _ => False
set_option maxHeartbeats 0 in
theorem ok_digits_of (T : Txt K mg) (D0 : Dfn K mg "digits_of" "digits_of" s_digits_of ["number"] []) (C_digits_of : Cal P w K mg base tabs "digits_of" 1 1 ["number"] [] sp_digits_ofpos) : Cal P w K mg base tabs "digits_of" 2 1 ["number"] [] sp_digits_of := by
  refine cal_of D0 sc_digits_of fun f cdv A outer s H E p ht hg hk hr => ⟨_, (pdss_cons (pds_if (pdt_cmp opd_lt (pd_var 0) pd_int) (pdss_one (pds_ret (pd_bin opd_addS pd_str (pdcC (C_digits_of.cal ht) hg hr (pda_cons (pd_un und_neg (pd_var 0)) pda_nil))))) pdss_nil)
      (pdss_cons (pds_own (i := 1) sc_digits_of.nd rfl (Or.inl rfl) (pdf_lst pda_nil))
      (pdss_cons (pds_while PassesOwn.never (pdt_cmp opd_ge (pd_var 0) (pd_gint rfl T.m__PIECE)) (pdss_cons (pds_asg (pd_callB cd_divmod rfl T.b_divmod PyProof.Rows.boot_divmod (pda_cons (pd_var 0) (pda_cons (pd_gint rfl T.m__PIECE) pda_nil))) (pdg_tup (n := 2) rfl (pdgs_cons (pdg_name (i := 0) sc_digits_of.nd rfl (Or.inl rfl)) (pdgs_cons (pdg_name (i := 2) sc_digits_of.nd rfl (Or.inl rfl)) pdgs_nil))))
      (pdss_one (pds_app (i := 1) (pd_zfill (pd_callTy cd_strI rfl T.b_str PyProof.Rows.boot_str (pda_cons (pd_var 2) pda_nil)) (pd_gint rfl T.m__PIECE_DIGITS))))))
      (pdss_cons (pds_app (i := 1) (pd_callTy cd_strI rfl T.b_str PyProof.Rows.boot_str (pda_cons (pd_var 0) pda_nil)))
      (pdss_one (pds_free 1 (pds_ret (pd_join pd_str (pd_revL (pd_var 1)))))))))), ?_⟩
  intro ds R hl h; unfold sp_digits_of at h; split at h
  all_goals (try exact False.elim h)
  all_goals clear hl hg hr hk ht
  rename_i n
  obtain ⟨⟨h1, h2⟩, h⟩ := h
  simp (implicitDefEqProofs := false) (maxSteps := 3000000) only [gAddS, gMulS, gSlS, gIxS, cLenS, gInS, cStrI, cIntS, dJoin, gJ, dReplC, dZfill, strsOf, xaCons, xaNil, xExpr, xSeq, xIf, xRet, xRaise, xOf, xB, xBK, xAsg, xTry, xTryIs, xHeard, mD0, mD1, mD2, startD, List.map_cons, List.map_nil, List.length_cons, List.length_nil, List.replicate, List.cons_append, List.nil_append, Nat.reduceAdd, Nat.reduceSub, Nat.zero_add, dSeq, dIfS, dOr, dAnd, dNot, dTst, dOp, dUn, dVar, dC, dB, dBK, dCons, dNil, dTup, dLst, dRet, dRetN, dRetF, dRetO, dBO, dFr, dRepL, dCatL, dRev, dRevL, dSlO, dCatO, cSorted, SpO.sp, dNext, dNever, dAsg, dPar, dPar3, dParO, dIf, dAndV, dOrV, dNotV, dCh, dCt, cLast, cLink, tLast, tLink, dDrop, dFor, dBrk, dCnt, dOwn, dApp, dExt, dFree, gPutO, dIxO, dLend, dLendT, dLcF, gN, gTu, gCn, gNl, gP0, gP1, gII, gIIc, gAdd, gNeg, gIx, gEq, gNe, gIs, gIsNot, gIn, gNotIn, gSl, oNone, oSome, gMt, gIndex, cTuple, cList, cI1, cI2, cInt, cLen, cMax, cMin, cMaxT, cMinT, dAug, cAll, cAny, cRepr, cSqrt, cIsi, tyN, isNon, kb_tt, kb_ii, kb_ib, kb_bi, kb_bb, kb_it, kb_bt, kb_nt, kb_ni, kb_lt, kb_li, kb_ti, kb_si, kb_st, kb_ss, rd, dTru, dRgN, dEnum, gMulT, gDivN, gDivNB, gEqF, dCallV, spOf, atD, ordD, dSq, dZip, dZipM, dZip3, zipD3_map, gShl, dParOO, zipD_map, ivD, dRg1, dRg2, dLc, dYes, dLcGo, dGen, dGenGo, wipeD, boolsOf, intsOf, maxL, minL, noL, noLs, Option.map_some, Option.bind_some, List.all_cons, List.all_nil, List.any_cons, List.any_nil, id_eq, List.set_cons_zero, List.set_cons_succ, List.getElem?_cons_zero, List.getElem?_cons_succ, List.getElem?_nil, List.getD_cons_zero, List.getD_cons_succ, decide_eq_true_eq, decide_eq_false_iff_not, Bool.not_eq_true', Bool.not_true, Bool.not_false, Bool.and_true, Bool.true_and, Bool.and_false, Bool.false_and, Bool.false_eq_true, if_true, if_false, reduceIte, ite_true, ite_false, true_and, and_true, reduceCtorEq, Int.toNat_zero, Int.toNat_one, Int.cast_ofNat_Int, Int.reduceLT, Int.reduceLE, Int.reduceNeg, Int.reduceToNat, Int.reducePow, Int.reduceMul, Int.reduceAdd, Int.reduceSub, decide_true, decide_false, sp_digits_ofpos]
  by_cases c : n < 0
  · rw [if_pos c]
    have ln := sT120 (n := -n) (by omega) (by omega)
    have e1 : (Str.ofString "-").length = 1 := by decide +kernel
    have en := nT_eq (-n)
    have en' : Str.ofString (toString (-n)) = _ := en
    rw [en', tx_len (sT (-n))]
    refine ⟨⟨by omega, by omega⟩, by omega, ?_⟩
    have e2 : sT n = 45 :: dg n.natAbs := if_pos c
    have e3 : sT (-n) = dg n.natAbs := by
      unfold sT
      rw [if_neg (by omega), Int.natAbs_neg]
    rw [e3, minus_tx, tx_app]
    rw [e2] at h
    exact h
  · rw [if_neg c]
    clear h1
    have h1 : 0 ≤ n := by omega
    rw [← nT_eq] at h
    clear c
    by_cases c : n < 1000000000000000000000000000000000000000000000000000000000000
    · refine whileI (fun m τ => τ = [some (.int n), some (.own []), none] ∧ m = 0) 0 _ ⟨rfl, rfl⟩ ?_
      rintro m τ k hk ⟨rfl, rfl⟩
      simp (implicitDefEqProofs := false) (maxSteps := 3000000) only [gAddS, gMulS, gSlS, gIxS, cLenS, gInS, cStrI, cIntS, dJoin, gJ, dReplC, dZfill, strsOf, xaCons, xaNil, xExpr, xSeq, xIf, xRet, xRaise, xOf, xB, xBK, xAsg, xTry, xTryIs, xHeard, mD0, mD1, mD2, startD, List.map_cons, List.map_nil, List.length_cons, List.length_nil, List.replicate, List.cons_append, List.nil_append, Nat.reduceAdd, Nat.reduceSub, Nat.zero_add, dSeq, dIfS, dOr, dAnd, dNot, dTst, dOp, dUn, dVar, dC, dB, dBK, dCons, dNil, dTup, dLst, dRet, dRetN, dRetF, dRetO, dBO, dFr, dRepL, dCatL, dRev, dRevL, dSlO, dCatO, cSorted, SpO.sp, dNext, dNever, dAsg, dPar, dPar3, dParO, dIf, dAndV, dOrV, dNotV, dCh, dCt, cLast, cLink, tLast, tLink, dDrop, dFor, dBrk, dCnt, dOwn, dApp, dExt, dFree, gPutO, dIxO, dLend, dLendT, dLcF, gN, gTu, gCn, gNl, gP0, gP1, gII, gIIc, gAdd, gNeg, gIx, gEq, gNe, gIs, gIsNot, gIn, gNotIn, gSl, oNone, oSome, gMt, gIndex, cTuple, cList, cI1, cI2, cInt, cLen, cMax, cMin, cMaxT, cMinT, dAug, cAll, cAny, cRepr, cSqrt, cIsi, tyN, isNon, kb_tt, kb_ii, kb_ib, kb_bi, kb_bb, kb_it, kb_bt, kb_nt, kb_ni, kb_lt, kb_li, kb_ti, kb_si, kb_st, kb_ss, rd, dTru, dRgN, dEnum, gMulT, gDivN, gDivNB, gEqF, dCallV, spOf, atD, ordD, dSq, dZip, dZipM, dZip3, zipD3_map, gShl, dParOO, zipD_map, ivD, dRg1, dRg2, dLc, dYes, dLcGo, dGen, dGenGo, wipeD, boolsOf, intsOf, maxL, minL, noL, noLs, Option.map_some, Option.bind_some, List.all_cons, List.all_nil, List.any_cons, List.any_nil, id_eq, List.set_cons_zero, List.set_cons_succ, List.getElem?_cons_zero, List.getElem?_cons_succ, List.getElem?_nil, List.getD_cons_zero, List.getD_cons_succ, decide_eq_true_eq, decide_eq_false_iff_not, Bool.not_eq_true', Bool.not_true, Bool.not_false, Bool.and_true, Bool.true_and, Bool.and_false, Bool.false_and, Bool.false_eq_true, if_true, if_false, reduceIte, ite_true, ite_false, true_and, and_true, reduceCtorEq, Int.toNat_zero, Int.toNat_one, Int.cast_ofNat_Int, Int.reduceLT, Int.reduceLE, Int.reduceNeg, Int.reduceToNat, Int.reducePow, Int.reduceMul, Int.reduceAdd, Int.reduceSub, decide_true, decide_false, sp_digits_ofpos]
      rw [if_neg (by omega)]
      have e : strsOf [D.str (nT n)].reverse = some [nT n] := rfl
      have ln := nT_len (n := n) (k := 59) h1 (by rw [p60]; omega)
      refine ⟨small_log (by omega) (by omega), by decide, ?_⟩
      show (match strsOf [D.str (nT n)].reverse with
        | some ys => (ys.map (·.length)).sum + ys.length * (Str.ofString "").length ≤ 16777216 ∧ R (.str (Txt.join (Str.ofString "") ys))
        | none => False)
      rw [e]
      refine ⟨?_, ?_⟩
      · simp only [List.map_cons, List.map_nil, List.sum_cons, List.sum_nil, List.length_cons, List.length_nil]
        have : (Str.ofString "").length = 0 := by decide +kernel
        omega
      · rw [join1]
        exact h
    · refine whileI (fun m τ => (τ = [some (.int n), some (.own []), none] ∧ m = 1) ∨ (∃ o, τ = [some (.int (n / 1000000000000000000000000000000000000000000000000000000000000)), some (.own [.str (tx (pad 60 (n % 1000000000000000000000000000000000000000000000000000000000000).toNat))]), o] ∧ m = 0)) 1 _ (.inl ⟨rfl, rfl⟩) ?_
      have q0 : 0 < n / 1000000000000000000000000000000000000000000000000000000000000 := by omega
      have q1 : n / 1000000000000000000000000000000000000000000000000000000000000 < 1000000000000000000000000000000000000000000000000000000000000 := by omega
      have r0 : 0 ≤ n % 1000000000000000000000000000000000000000000000000000000000000 := by omega
      have r1 : n % 1000000000000000000000000000000000000000000000000000000000000 < 1000000000000000000000000000000000000000000000000000000000000 := by omega
      rintro m τ k hk (⟨rfl, rfl⟩ | ⟨o, rfl, rfl⟩)
      · simp (implicitDefEqProofs := false) (maxSteps := 3000000) only [gAddS, gMulS, gSlS, gIxS, cLenS, gInS, cStrI, cIntS, dJoin, gJ, dReplC, dZfill, strsOf, xaCons, xaNil, xExpr, xSeq, xIf, xRet, xRaise, xOf, xB, xBK, xAsg, xTry, xTryIs, xHeard, mD0, mD1, mD2, startD, List.map_cons, List.map_nil, List.length_cons, List.length_nil, List.replicate, List.cons_append, List.nil_append, Nat.reduceAdd, Nat.reduceSub, Nat.zero_add, dSeq, dIfS, dOr, dAnd, dNot, dTst, dOp, dUn, dVar, dC, dB, dBK, dCons, dNil, dTup, dLst, dRet, dRetN, dRetF, dRetO, dBO, dFr, dRepL, dCatL, dRev, dRevL, dSlO, dCatO, cSorted, SpO.sp, dNext, dNever, dAsg, dPar, dPar3, dParO, dIf, dAndV, dOrV, dNotV, dCh, dCt, cLast, cLink, tLast, tLink, dDrop, dFor, dBrk, dCnt, dOwn, dApp, dExt, dFree, gPutO, dIxO, dLend, dLendT, dLcF, gN, gTu, gCn, gNl, gP0, gP1, gII, gIIc, gAdd, gNeg, gIx, gEq, gNe, gIs, gIsNot, gIn, gNotIn, gSl, oNone, oSome, gMt, gIndex, cTuple, cList, cI1, cI2, cInt, cLen, cMax, cMin, cMaxT, cMinT, dAug, cAll, cAny, cRepr, cSqrt, cIsi, tyN, isNon, kb_tt, kb_ii, kb_ib, kb_bi, kb_bb, kb_it, kb_bt, kb_nt, kb_ni, kb_lt, kb_li, kb_ti, kb_si, kb_st, kb_ss, rd, dTru, dRgN, dEnum, gMulT, gDivN, gDivNB, gEqF, dCallV, spOf, atD, ordD, dSq, dZip, dZipM, dZip3, zipD3_map, gShl, dParOO, zipD_map, ivD, dRg1, dRg2, dLc, dYes, dLcGo, dGen, dGenGo, wipeD, boolsOf, intsOf, maxL, minL, noL, noLs, Option.map_some, Option.bind_some, List.all_cons, List.all_nil, List.any_cons, List.any_nil, id_eq, List.set_cons_zero, List.set_cons_succ, List.getElem?_cons_zero, List.getElem?_cons_succ, List.getElem?_nil, List.getD_cons_zero, List.getD_cons_succ, decide_eq_true_eq, decide_eq_false_iff_not, Bool.not_eq_true', Bool.not_true, Bool.not_false, Bool.and_true, Bool.true_and, Bool.and_false, Bool.false_and, Bool.false_eq_true, if_true, if_false, reduceIte, ite_true, ite_false, true_and, and_true, reduceCtorEq, Int.toNat_zero, Int.toNat_one, Int.cast_ofNat_Int, Int.reduceLT, Int.reduceLE, Int.reduceNeg, Int.reduceToNat, Int.reducePow, Int.reduceMul, Int.reduceAdd, Int.reduceSub, decide_true, decide_false, sp_digits_ofpos]
        rw [if_pos (by omega)]
        have z := zfill_pad (m := (n % 1000000000000000000000000000000000000000000000000000000000000).toNat)
        rw [show (((n % 1000000000000000000000000000000000000000000000000000000000000).toNat : Nat) : Int) = n % 1000000000000000000000000000000000000000000000000000000000000 by omega] at z
        have z' : Txt.zfill (Str.ofString (toString (n % 1000000000000000000000000000000000000000000000000000000000000))) 60 = _ := z
        rw [z']
        exact ⟨.of (by omega) (by omega), small_log (by omega) (by omega), by decide, by decide, hk _ 0 (by decide) (.inr ⟨_, rfl, rfl⟩)⟩
      · simp (implicitDefEqProofs := false) (maxSteps := 3000000) only [gAddS, gMulS, gSlS, gIxS, cLenS, gInS, cStrI, cIntS, dJoin, gJ, dReplC, dZfill, strsOf, xaCons, xaNil, xExpr, xSeq, xIf, xRet, xRaise, xOf, xB, xBK, xAsg, xTry, xTryIs, xHeard, mD0, mD1, mD2, startD, List.map_cons, List.map_nil, List.length_cons, List.length_nil, List.replicate, List.cons_append, List.nil_append, Nat.reduceAdd, Nat.reduceSub, Nat.zero_add, dSeq, dIfS, dOr, dAnd, dNot, dTst, dOp, dUn, dVar, dC, dB, dBK, dCons, dNil, dTup, dLst, dRet, dRetN, dRetF, dRetO, dBO, dFr, dRepL, dCatL, dRev, dRevL, dSlO, dCatO, cSorted, SpO.sp, dNext, dNever, dAsg, dPar, dPar3, dParO, dIf, dAndV, dOrV, dNotV, dCh, dCt, cLast, cLink, tLast, tLink, dDrop, dFor, dBrk, dCnt, dOwn, dApp, dExt, dFree, gPutO, dIxO, dLend, dLendT, dLcF, gN, gTu, gCn, gNl, gP0, gP1, gII, gIIc, gAdd, gNeg, gIx, gEq, gNe, gIs, gIsNot, gIn, gNotIn, gSl, oNone, oSome, gMt, gIndex, cTuple, cList, cI1, cI2, cInt, cLen, cMax, cMin, cMaxT, cMinT, dAug, cAll, cAny, cRepr, cSqrt, cIsi, tyN, isNon, kb_tt, kb_ii, kb_ib, kb_bi, kb_bb, kb_it, kb_bt, kb_nt, kb_ni, kb_lt, kb_li, kb_ti, kb_si, kb_st, kb_ss, rd, dTru, dRgN, dEnum, gMulT, gDivN, gDivNB, gEqF, dCallV, spOf, atD, ordD, dSq, dZip, dZipM, dZip3, zipD3_map, gShl, dParOO, zipD_map, ivD, dRg1, dRg2, dLc, dYes, dLcGo, dGen, dGenGo, wipeD, boolsOf, intsOf, maxL, minL, noL, noLs, Option.map_some, Option.bind_some, List.all_cons, List.all_nil, List.any_cons, List.any_nil, id_eq, List.set_cons_zero, List.set_cons_succ, List.getElem?_cons_zero, List.getElem?_cons_succ, List.getElem?_nil, List.getD_cons_zero, List.getD_cons_succ, decide_eq_true_eq, decide_eq_false_iff_not, Bool.not_eq_true', Bool.not_true, Bool.not_false, Bool.and_true, Bool.true_and, Bool.and_false, Bool.false_and, Bool.false_eq_true, if_true, if_false, reduceIte, ite_true, ite_false, true_and, and_true, reduceCtorEq, Int.toNat_zero, Int.toNat_one, Int.cast_ofNat_Int, Int.reduceLT, Int.reduceLE, Int.reduceNeg, Int.reduceToNat, Int.reducePow, Int.reduceMul, Int.reduceAdd, Int.reduceSub, decide_true, decide_false, sp_digits_ofpos]
        rw [if_neg (by omega)]
        have e : strsOf [D.str (tx (pad 60 (n % 1000000000000000000000000000000000000000000000000000000000000).toNat)), D.str (nT (n / 1000000000000000000000000000000000000000000000000000000000000))].reverse = some [nT (n / 1000000000000000000000000000000000000000000000000000000000000), tx (pad 60 (n % 1000000000000000000000000000000000000000000000000000000000000).toNat)] := rfl
        have ln := nT_len (n := n / 1000000000000000000000000000000000000000000000000000000000000) (k := 59) (by omega) (by rw [p60]; omega)
        have lp := pad_len (m := (n % 1000000000000000000000000000000000000000000000000000000000000).toNat) (by omega)
        refine ⟨small_log (by omega) (by omega), by decide, ?_⟩
        show (match strsOf [D.str (tx (pad 60 (n % 1000000000000000000000000000000000000000000000000000000000000).toNat)), D.str (nT (n / 1000000000000000000000000000000000000000000000000000000000000))].reverse with
          | some ys => (ys.map (·.length)).sum + ys.length * (Str.ofString "").length ≤ 16777216 ∧ R (.str (Txt.join (Str.ofString "") ys))
          | none => False)
        rw [e]
        refine ⟨?_, ?_⟩
        · simp only [List.map_cons, List.map_nil, List.sum_cons, List.sum_nil, List.length_cons, List.length_nil]
          have lp' := (tx_len (pad 60 (n % 1000000000000000000000000000000000000000000000000000000000000).toNat)).trans lp
          have : (Str.ofString "").length = 0 := by decide +kernel
          omega
        · rw [join2, nT_pieces h1 (by omega)]
          exact h
def sp_text_of_ratio : SpD :=
  fun ds R => match ds with
  | [.tup [.int n, .int d]] => (-1000000000000000000000000000000000000000000000000000000000000000000000000000000000000000000000000000000000000000000000000 < n ∧ n < 1000000000000000000000000000000000000000000000000000000000000000000000000000000000000000000000000000000000000000000000000 ∧ 0 < d ∧ d < 1000000000000000000000000000000000000000000000000000000000000) ∧ R (.str (tx (rT (n, d))))
  | _ => False
set_option maxHeartbeats 0 in
theorem ok_text_of_ratio (T : Txt K mg) (D0 : Dfn K mg "text_of_ratio" "text_of_ratio" s_text_of_ratio ["ratio"] []) (C_digits_of : Cal P w K mg base tabs "digits_of" 2 1 ["number"] [] sp_digits_of) : Cal P w K mg base tabs "text_of_ratio" 3 1 ["ratio"] [] sp_text_of_ratio := by
  refine cal_of D0 sc_text_of_ratio fun f cdv A outer s H E p ht hg hk hr => ⟨_, (pdss_cons (pds_if (pdt_cmp (opd_eq hr.units) (pd_ix (pd_var 0) pd_int) pd_int) (pdss_one (pds_ret (pdcC (C_digits_of.cal ht) hg hr (pda_cons (pd_ix (pd_var 0) pd_int) pda_nil)))) pdss_nil)
      (pdss_one (pds_ret (pd_bin opd_addS (pd_bin opd_addS (pdcC (C_digits_of.cal ht) hg hr (pda_cons (pd_ix (pd_var 0) pd_int) pda_nil)) pd_str) (pdcC (C_digits_of.cal ht) hg hr (pda_cons (pd_ix (pd_var 0) pd_int) pda_nil)))))), ?_⟩
  intro ds R hl h; unfold sp_text_of_ratio at h; split at h
  all_goals (try exact False.elim h)
  all_goals clear hl hg hr hk ht
  rename_i n d
  obtain ⟨⟨h1, h2, h3, h4⟩, h⟩ := h
  have l1 := sT120 h1 h2
  have l2 := sT_len (n := d) (by omega) h4
  have slash : Str.ofString "/" = tx [47] := by decide +kernel
  unfold rT at h
  simp only [] at h
  simp (implicitDefEqProofs := false) (maxSteps := 3000000) only [gAddS, gMulS, gSlS, gIxS, cLenS, gInS, cStrI, cIntS, dJoin, gJ, dReplC, dZfill, strsOf, xaCons, xaNil, xExpr, xSeq, xIf, xRet, xRaise, xOf, xB, xBK, xAsg, xTry, xTryIs, xHeard, mD0, mD1, mD2, startD, List.map_cons, List.map_nil, List.length_cons, List.length_nil, List.replicate, List.cons_append, List.nil_append, Nat.reduceAdd, Nat.reduceSub, Nat.zero_add, dSeq, dIfS, dOr, dAnd, dNot, dTst, dOp, dUn, dVar, dC, dB, dBK, dCons, dNil, dTup, dLst, dRet, dRetN, dRetF, dRetO, dBO, dFr, dRepL, dCatL, dRev, dRevL, dSlO, dCatO, cSorted, SpO.sp, dNext, dNever, dAsg, dPar, dPar3, dParO, dIf, dAndV, dOrV, dNotV, dCh, dCt, cLast, cLink, tLast, tLink, dDrop, dFor, dBrk, dCnt, dOwn, dApp, dExt, dFree, gPutO, dIxO, dLend, dLendT, dLcF, gN, gTu, gCn, gNl, gP0, gP1, gII, gIIc, gAdd, gNeg, gIx, gEq, gNe, gIs, gIsNot, gIn, gNotIn, gSl, oNone, oSome, gMt, gIndex, cTuple, cList, cI1, cI2, cInt, cLen, cMax, cMin, cMaxT, cMinT, dAug, cAll, cAny, cRepr, cSqrt, cIsi, tyN, isNon, kb_tt, kb_ii, kb_ib, kb_bi, kb_bb, kb_it, kb_bt, kb_nt, kb_ni, kb_lt, kb_li, kb_ti, kb_si, kb_st, kb_ss, rd, dTru, dRgN, dEnum, gMulT, gDivN, gDivNB, gEqF, dCallV, spOf, atD, ordD, dSq, dZip, dZipM, dZip3, zipD3_map, gShl, dParOO, zipD_map, ivD, dRg1, dRg2, dLc, dYes, dLcGo, dGen, dGenGo, wipeD, boolsOf, intsOf, maxL, minL, noL, noLs, Option.map_some, Option.bind_some, List.all_cons, List.all_nil, List.any_cons, List.any_nil, id_eq, List.set_cons_zero, List.set_cons_succ, List.getElem?_cons_zero, List.getElem?_cons_succ, List.getElem?_nil, List.getD_cons_zero, List.getD_cons_succ, decide_eq_true_eq, decide_eq_false_iff_not, Bool.not_eq_true', Bool.not_true, Bool.not_false, Bool.and_true, Bool.true_and, Bool.and_false, Bool.false_and, Bool.false_eq_true, if_true, if_false, reduceIte, ite_true, ite_false, true_and, and_true, reduceCtorEq, Int.toNat_zero, Int.toNat_one, Int.cast_ofNat_Int, Int.reduceLT, Int.reduceLE, Int.reduceNeg, Int.reduceToNat, Int.reducePow, Int.reduceMul, Int.reduceAdd, Int.reduceSub, decide_true, decide_false, sp_digits_of]
  by_cases c : d = 1
  · subst c
    rw [if_pos rfl] at h ⊢
    exact ⟨⟨h1, h2⟩, h⟩
  · rw [if_neg c] at h ⊢
    rw [slash, tx_app, tx_app, tx_len, tx_len, tx_len, tx_len]
    simp only [List.length_append, List.length_cons, List.length_nil]
    exact ⟨⟨h1, h2⟩, by omega, ⟨by omega, by omega⟩, by omega, h⟩
def sp_ratio_text : SpD :=
  fun ds R => match ds with
  | [.tup [.int n, .int d]] => (Rt (n, d) ∧ -1000000000000000000000000000000000000000000000000000000000000000000000000000000000000000000000000000000000000000000000000 < n ∧ n < 1000000000000000000000000000000000000000000000000000000000000000000000000000000000000000000000000000000000000000000000000 ∧ d < 1000000000000000000000000000000000000000000000000000000000000) ∧ R (.str (tx (rT (n, d))))
  | _ => False
set_option maxHeartbeats 0 in
theorem ok_ratio_text (T : Txt K mg) (D0 : Dfn K mg "ratio_text" "ratio_text" s_ratio_text ["ratio"] [(["ratio"], 0, [0])]) (C_check_ratio : Cal P w K mg base tabs "check_ratio" 3 1 ["ratio"] [] sp_check_ratio) (C_text_of_ratio : Cal P w K mg base tabs "text_of_ratio" 3 1 ["ratio"] [] sp_text_of_ratio) : Cal P w K mg base tabs "ratio_text" 4 1 ["ratio"] [(["ratio"], 0, [0])] sp_ratio_text := by
  refine cal_of D0 sc_ratio_text fun f cdv A outer s H E p ht hg hk hr => ⟨_, (pdss_cons (pds_expr (pdcC (C_check_ratio.cal ht) hg hr (pda_cons (pd_var 0) pda_nil)))
      (pdss_one (pds_ret (pdcC (C_text_of_ratio.cal ht) hg hr (pda_cons (pd_var 0) pda_nil))))), ?_⟩
  intro ds R hl h; unfold sp_ratio_text at h; split at h
  all_goals (try exact False.elim h)
  all_goals clear hl hg hr hk ht
  rename_i n d
  obtain ⟨⟨h1, h2, h3, h4⟩, h⟩ := h
  have d0 : 1 ≤ d := h1.pos
  simp (implicitDefEqProofs := false) (maxSteps := 3000000) only [gAddS, gMulS, gSlS, gIxS, cLenS, gInS, cStrI, cIntS, dJoin, gJ, dReplC, dZfill, strsOf, xaCons, xaNil, xExpr, xSeq, xIf, xRet, xRaise, xOf, xB, xBK, xAsg, xTry, xTryIs, xHeard, mD0, mD1, mD2, startD, List.map_cons, List.map_nil, List.length_cons, List.length_nil, List.replicate, List.cons_append, List.nil_append, Nat.reduceAdd, Nat.reduceSub, Nat.zero_add, dSeq, dIfS, dOr, dAnd, dNot, dTst, dOp, dUn, dVar, dC, dB, dBK, dCons, dNil, dTup, dLst, dRet, dRetN, dRetF, dRetO, dBO, dFr, dRepL, dCatL, dRev, dRevL, dSlO, dCatO, cSorted, SpO.sp, dNext, dNever, dAsg, dPar, dPar3, dParO, dIf, dAndV, dOrV, dNotV, dCh, dCt, cLast, cLink, tLast, tLink, dDrop, dFor, dBrk, dCnt, dOwn, dApp, dExt, dFree, gPutO, dIxO, dLend, dLendT, dLcF, gN, gTu, gCn, gNl, gP0, gP1, gII, gIIc, gAdd, gNeg, gIx, gEq, gNe, gIs, gIsNot, gIn, gNotIn, gSl, oNone, oSome, gMt, gIndex, cTuple, cList, cI1, cI2, cInt, cLen, cMax, cMin, cMaxT, cMinT, dAug, cAll, cAny, cRepr, cSqrt, cIsi, tyN, isNon, kb_tt, kb_ii, kb_ib, kb_bi, kb_bb, kb_it, kb_bt, kb_nt, kb_ni, kb_lt, kb_li, kb_ti, kb_si, kb_st, kb_ss, rd, dTru, dRgN, dEnum, gMulT, gDivN, gDivNB, gEqF, dCallV, spOf, atD, ordD, dSq, dZip, dZipM, dZip3, zipD3_map, gShl, dParOO, zipD_map, ivD, dRg1, dRg2, dLc, dYes, dLcGo, dGen, dGenGo, wipeD, boolsOf, intsOf, maxL, minL, noL, noLs, Option.map_some, Option.bind_some, List.all_cons, List.all_nil, List.any_cons, List.any_nil, id_eq, List.set_cons_zero, List.set_cons_succ, List.getElem?_cons_zero, List.getElem?_cons_succ, List.getElem?_nil, List.getD_cons_zero, List.getD_cons_succ, decide_eq_true_eq, decide_eq_false_iff_not, Bool.not_eq_true', Bool.not_true, Bool.not_false, Bool.and_true, Bool.true_and, Bool.and_false, Bool.false_and, Bool.false_eq_true, if_true, if_false, reduceIte, ite_true, ite_false, true_and, and_true, reduceCtorEq, Int.toNat_zero, Int.toNat_one, Int.cast_ofNat_Int, Int.reduceLT, Int.reduceLE, Int.reduceNeg, Int.reduceToNat, Int.reducePow, Int.reduceMul, Int.reduceAdd, Int.reduceSub, decide_true, decide_false, sp_check_ratio, sp_text_of_ratio]
  exact ⟨⟨d0, h1.cop⟩, ⟨h2, h3, by omega, h4⟩, h⟩
def sp__law_text : SpD :=
  fun ds R => match ds with
  | [.tup [.int n, .int d]] => (-1000000000000000000000000000000000000000000000000000000000000000000000000000000000000000000000000000000000000000000000000 < n ∧ n < 1000000000000000000000000000000000000000000000000000000000000000000000000000000000000000000000000000000000000000000000000 ∧ 0 < d ∧ d < 1000000000000000000000000000000000000000000000000000000000000) ∧ R (.str (tx (rT (n, d))))
  | _ => False
set_option maxHeartbeats 0 in
theorem ok__law_text (T : Txt K mg) (D0 : Dfn K mg "_law_text" "_law_text" s__law_text ["told"] [])  : Cal P w K mg base tabs "_law_text" 1 1 ["told"] [] sp__law_text := by
  refine cal_of D0 sc__law_text fun f cdv A outer s H E p ht hg hk hr => ⟨_, (pdss_one (pds_ret (pd_ifx (pdt_cmp (opd_eq hr.units) (pd_ix (pd_var 0) pd_int) pd_int) (pd_callTy cd_strI rfl T.b_str PyProof.Rows.boot_str (pda_cons (pd_ix (pd_var 0) pd_int) pda_nil)) (pd_bin opd_addS (pd_bin opd_addS (pd_callTy cd_strI rfl T.b_str PyProof.Rows.boot_str (pda_cons (pd_ix (pd_var 0) pd_int) pda_nil)) pd_str) (pd_callTy cd_strI rfl T.b_str PyProof.Rows.boot_str (pda_cons (pd_ix (pd_var 0) pd_int) pda_nil)))))), ?_⟩
  intro ds R hl h; unfold sp__law_text at h; split at h
  all_goals (try exact False.elim h)
  all_goals clear hl hg hr hk ht
  rename_i n d
  obtain ⟨⟨h1, h2, h3, h4⟩, h⟩ := h
  have l1 := sT120 h1 h2
  have l2 := sT_len (n := d) (by omega) h4
  have slash : Str.ofString "/" = tx [47] := by decide +kernel
  have t1 : Str.ofString (toString n) = tx (sT n) := nT_eq n
  have t2 : Str.ofString (toString d) = tx (sT d) := nT_eq d
  unfold rT at h
  simp only [] at h
  simp (implicitDefEqProofs := false) (maxSteps := 3000000) only [gAddS, gMulS, gSlS, gIxS, cLenS, gInS, cStrI, cIntS, dJoin, gJ, dReplC, dZfill, strsOf, xaCons, xaNil, xExpr, xSeq, xIf, xRet, xRaise, xOf, xB, xBK, xAsg, xTry, xTryIs, xHeard, mD0, mD1, mD2, startD, List.map_cons, List.map_nil, List.length_cons, List.length_nil, List.replicate, List.cons_append, List.nil_append, Nat.reduceAdd, Nat.reduceSub, Nat.zero_add, dSeq, dIfS, dOr, dAnd, dNot, dTst, dOp, dUn, dVar, dC, dB, dBK, dCons, dNil, dTup, dLst, dRet, dRetN, dRetF, dRetO, dBO, dFr, dRepL, dCatL, dRev, dRevL, dSlO, dCatO, cSorted, SpO.sp, dNext, dNever, dAsg, dPar, dPar3, dParO, dIf, dAndV, dOrV, dNotV, dCh, dCt, cLast, cLink, tLast, tLink, dDrop, dFor, dBrk, dCnt, dOwn, dApp, dExt, dFree, gPutO, dIxO, dLend, dLendT, dLcF, gN, gTu, gCn, gNl, gP0, gP1, gII, gIIc, gAdd, gNeg, gIx, gEq, gNe, gIs, gIsNot, gIn, gNotIn, gSl, oNone, oSome, gMt, gIndex, cTuple, cList, cI1, cI2, cInt, cLen, cMax, cMin, cMaxT, cMinT, dAug, cAll, cAny, cRepr, cSqrt, cIsi, tyN, isNon, kb_tt, kb_ii, kb_ib, kb_bi, kb_bb, kb_it, kb_bt, kb_nt, kb_ni, kb_lt, kb_li, kb_ti, kb_si, kb_st, kb_ss, rd, dTru, dRgN, dEnum, gMulT, gDivN, gDivNB, gEqF, dCallV, spOf, atD, ordD, dSq, dZip, dZipM, dZip3, zipD3_map, gShl, dParOO, zipD_map, ivD, dRg1, dRg2, dLc, dYes, dLcGo, dGen, dGenGo, wipeD, boolsOf, intsOf, maxL, minL, noL, noLs, Option.map_some, Option.bind_some, List.all_cons, List.all_nil, List.any_cons, List.any_nil, id_eq, List.set_cons_zero, List.set_cons_succ, List.getElem?_cons_zero, List.getElem?_cons_succ, List.getElem?_nil, List.getD_cons_zero, List.getD_cons_succ, decide_eq_true_eq, decide_eq_false_iff_not, Bool.not_eq_true', Bool.not_true, Bool.not_false, Bool.and_true, Bool.true_and, Bool.and_false, Bool.false_and, Bool.false_eq_true, if_true, if_false, reduceIte, ite_true, ite_false, true_and, and_true, reduceCtorEq, Int.toNat_zero, Int.toNat_one, Int.cast_ofNat_Int, Int.reduceLT, Int.reduceLE, Int.reduceNeg, Int.reduceToNat, Int.reducePow, Int.reduceMul, Int.reduceAdd, Int.reduceSub, decide_true, decide_false]
  rw [t1, t2, slash]
  by_cases c : d = 1
  · subst c
    rw [if_pos rfl] at h ⊢
    exact ⟨log120 (by omega) (by omega), h⟩
  · rw [if_neg c] at h ⊢
    rw [tx_app, tx_app, tx_len, tx_len, tx_len, tx_len]
    simp only [List.length_append, List.length_cons, List.length_nil]
    exact ⟨log120 (by omega) (by omega), by omega, log120 (by omega) (by omega), by omega, h⟩
def sp__law_size : SpD :=
  fun ds R => match ds with
  | [.pot] => ∀ n : Int, 0 ≤ n → n ≤ 5497558138880000000 → R (.int n)
  | _ => False
set_option maxHeartbeats 0 in
theorem ok__law_size (T : Txt K mg) (D0 : Dfn K mg "_law_size" "_law_size" s__law_size ["pot"] []) (C__law_draw : Cal P w K mg base tabs "_law_draw" 1 2 ["pot", "room"] [] sp__law_draw) (C__law_pick : Cal P w K mg base tabs "_law_pick" 2 2 ["pot", "some"] [] sp__law_pick) (C__law_one : Cal P w K mg base tabs "_law_one" 1 0 [] [] sp__law_one) : Cal P w K mg base tabs "_law_size" 3 1 ["pot"] [] sp__law_size := by
  refine cal_of D0 sc__law_size fun f cdv A outer s H E p ht hg hk hr => ⟨_, (pdss_cons (pds_set (i := 1) sc__law_size.nd rfl (Or.inl rfl) (pdcC (C__law_draw.cal ht) hg hr (pda_cons (pd_var 0) (pda_cons pd_int pda_nil))))
      (pdss_cons (pds_if (pdt_cmp (opd_eq hr.units) (pd_var 1) pd_int) (pdss_one (pds_ret (pdcC (C__law_pick.cal ht) hg hr (pda_cons (pd_var 0) (pda_cons (pd_lst (pda_cons pd_int (pda_cons pd_int (pda_cons pd_int (pda_cons pd_int pda_nil))))) pda_nil))))) pdss_nil)
      (pdss_cons (pds_if (pdt_cmp (opd_eq hr.units) (pd_var 1) pd_int) (pdss_one (pds_ret (pd_bin opd_div (pd_bin opd_mul (pdcC (C__law_pick.cal ht) hg hr (pda_cons (pd_var 0) (pda_cons (pd_lst (pda_cons pd_int (pda_cons pd_int (pda_cons pd_int (pda_cons pd_int pda_nil))))) pda_nil))) (pdcC0 (C__law_one.cal ht) hg hr)) (pdcC (C__law_pick.cal ht) hg hr (pda_cons (pd_var 0) (pda_cons (pd_lst (pda_cons pd_int (pda_cons pd_int (pda_cons pd_int (pda_cons pd_int pda_nil))))) pda_nil)))))) pdss_nil)
      (pdss_cons (pds_if (pdt_cmp (opd_eq hr.units) (pd_var 1) pd_int) (pdss_one (pds_ret (pd_bin opd_add pd_int (pdcC (C__law_draw.cal ht) hg hr (pda_cons (pd_var 0) (pda_cons pd_int pda_nil)))))) pdss_nil)
      (pdss_cons (pds_if (pdt_cmp (opd_eq hr.units) (pd_var 1) pd_int) (pdss_one (pds_ret (pd_bin opd_mul (pdcC (C__law_draw.cal ht) hg hr (pda_cons (pd_var 0) (pda_cons pd_int pda_nil))) (pdcC (C__law_draw.cal ht) hg hr (pda_cons (pd_var 0) (pda_cons pd_int pda_nil)))))) pdss_nil)
      (pdss_one (pds_ret (pd_bin opd_add (pd_bin opd_mul (pdcC (C__law_draw.cal ht) hg hr (pda_cons (pd_var 0) (pda_cons pd_int pda_nil))) pd_int) (pdcC (C__law_draw.cal ht) hg hr (pda_cons (pd_var 0) (pda_cons pd_int pda_nil))))))))))), ?_⟩
  intro ds R hl h; unfold sp__law_size at h; split at h
  all_goals (try exact False.elim h)
  all_goals clear hl hg hr hk ht
  simp (implicitDefEqProofs := false) (maxSteps := 3000000) only [gAddS, gMulS, gSlS, gIxS, cLenS, gInS, cStrI, cIntS, dJoin, gJ, dReplC, dZfill, strsOf, xaCons, xaNil, xExpr, xSeq, xIf, xRet, xRaise, xOf, xB, xBK, xAsg, xTry, xTryIs, xHeard, mD0, mD1, mD2, startD, List.map_cons, List.map_nil, List.length_cons, List.length_nil, List.replicate, List.cons_append, List.nil_append, Nat.reduceAdd, Nat.reduceSub, Nat.zero_add, dSeq, dIfS, dOr, dAnd, dNot, dTst, dOp, dUn, dVar, dC, dB, dBK, dCons, dNil, dTup, dLst, dRet, dRetN, dRetF, dRetO, dBO, dFr, dRepL, dCatL, dRev, dRevL, dSlO, dCatO, cSorted, SpO.sp, dNext, dNever, dAsg, dPar, dPar3, dParO, dIf, dAndV, dOrV, dNotV, dCh, dCt, cLast, cLink, tLast, tLink, dDrop, dFor, dBrk, dCnt, dOwn, dApp, dExt, dFree, gPutO, dIxO, dLend, dLendT, dLcF, gN, gTu, gCn, gNl, gP0, gP1, gII, gIIc, gAdd, gNeg, gIx, gEq, gNe, gIs, gIsNot, gIn, gNotIn, gSl, oNone, oSome, gMt, gIndex, cTuple, cList, cI1, cI2, cInt, cLen, cMax, cMin, cMaxT, cMinT, dAug, cAll, cAny, cRepr, cSqrt, cIsi, tyN, isNon, kb_tt, kb_ii, kb_ib, kb_bi, kb_bb, kb_it, kb_bt, kb_nt, kb_ni, kb_lt, kb_li, kb_ti, kb_si, kb_st, kb_ss, rd, dTru, dRgN, dEnum, gMulT, gDivN, gDivNB, gEqF, dCallV, spOf, atD, ordD, dSq, dZip, dZipM, dZip3, zipD3_map, gShl, dParOO, zipD_map, ivD, dRg1, dRg2, dLc, dYes, dLcGo, dGen, dGenGo, wipeD, boolsOf, intsOf, maxL, minL, noL, noLs, Option.map_some, Option.bind_some, List.all_cons, List.all_nil, List.any_cons, List.any_nil, id_eq, List.set_cons_zero, List.set_cons_succ, List.getElem?_cons_zero, List.getElem?_cons_succ, List.getElem?_nil, List.getD_cons_zero, List.getD_cons_succ, decide_eq_true_eq, decide_eq_false_iff_not, Bool.not_eq_true', Bool.not_true, Bool.not_false, Bool.and_true, Bool.true_and, Bool.and_false, Bool.false_and, Bool.false_eq_true, if_true, if_false, reduceIte, ite_true, ite_false, true_and, and_true, reduceCtorEq, Int.toNat_zero, Int.toNat_one, Int.cast_ofNat_Int, Int.reduceLT, Int.reduceLE, Int.reduceNeg, Int.reduceToNat, Int.reducePow, Int.reduceMul, Int.reduceAdd, Int.reduceSub, decide_true, decide_false, sp__law_draw, sp__law_pick, sp__law_one]
  intro w w0 w1
  refine ite2P (fun e => ?_) fun e => ?_
  · refine ⟨⟨by omega, by omega⟩, fun x hx => ?_⟩
    have : x = .int 0 ∨ x = .int 1 ∨ x = .int 2 ∨ x = .int 3 := by simpa using hx
    rcases this with rfl | rfl | rfl | rfl <;> exact h _ (by omega) (by omega)
  refine ite2P (fun e => ?_) fun e => ?_
  · refine ⟨⟨by omega, by omega⟩, fun x hx => ?_⟩
    have : x = .int 1 ∨ x = .int 2 ∨ x = .int 3 ∨ x = .int 5 := by simpa using hx
    rcases this with rfl | rfl | rfl | rfl
    all_goals
      refine ⟨by (first | assumption | omega | (exact BD.of (by omega) (by omega)) | (exact BS.of (by omega) (by omega)) | (exact MulC.left (by omega) (by omega)) | (exact MulC.right (by omega) (by omega)) | (exact MulC.wide (by omega) (by omega) (by omega) (by omega)) | (exact em0 (by omega)) | (exact em1 (by omega)) | (exact ed0 (by omega) (by omega))), ⟨by omega, by omega⟩, fun y hy => ?_⟩
      have : y = .int 1 ∨ y = .int 2 ∨ y = .int 4 ∨ y = .int 3 := by simpa using hy
      rcases this with rfl | rfl | rfl | rfl <;> exact ⟨by (first | assumption | omega | (exact BD.of (by omega) (by omega)) | (exact BS.of (by omega) (by omega)) | (exact MulC.left (by omega) (by omega)) | (exact MulC.right (by omega) (by omega)) | (exact MulC.wide (by omega) (by omega) (by omega) (by omega)) | (exact em0 (by omega)) | (exact em1 (by omega)) | (exact ed0 (by omega) (by omega))), h _ (by omega) (by omega)⟩
  refine ite2P (fun e => ?_) fun e => ?_
  · intro a a0 a1
    exact h _ (by omega) (by omega)
  refine ite2P (fun e => ?_) fun e => ?_
  · intro a a0 a1 b b0 b1
    have m1 := Int.mul_nonneg a0 b0
    have m2 := Int.mul_le_mul (show a ≤ 1000000 by omega) (show b ≤ 1000000 by omega) b0 (by omega)
    exact ⟨by (first | assumption | omega | (exact BD.of (by omega) (by omega)) | (exact BS.of (by omega) (by omega)) | (exact MulC.left (by omega) (by omega)) | (exact MulC.right (by omega) (by omega)) | (exact MulC.wide (by omega) (by omega) (by omega) (by omega)) | (exact em0 (by omega)) | (exact em1 (by omega)) | (exact ed0 (by omega) (by omega))), h _ (by omega) (by omega)⟩
  · intro a a0 a1
    refine ⟨by (first | assumption | omega | (exact BD.of (by omega) (by omega)) | (exact BS.of (by omega) (by omega)) | (exact MulC.left (by omega) (by omega)) | (exact MulC.right (by omega) (by omega)) | (exact MulC.wide (by omega) (by omega) (by omega) (by omega)) | (exact em0 (by omega)) | (exact em1 (by omega)) | (exact ed0 (by omega) (by omega))), fun b b0 b1 => h _ (by omega) (by omega)⟩
def sp__law_number : SpD :=
  fun ds R => match ds with
  | [.pot] => ∀ n : Int, -5497558138880000000 ≤ n → n ≤ 5497558138880000000 → R (.int n)
  | _ => False
set_option maxHeartbeats 0 in
theorem ok__law_number (T : Txt K mg) (D0 : Dfn K mg "_law_number" "_law_number" s__law_number ["pot"] []) (C__law_size : Cal P w K mg base tabs "_law_size" 3 1 ["pot"] [] sp__law_size) (C__law_draw : Cal P w K mg base tabs "_law_draw" 1 2 ["pot", "room"] [] sp__law_draw) : Cal P w K mg base tabs "_law_number" 4 1 ["pot"] [] sp__law_number := by
  refine cal_of D0 sc__law_number fun f cdv A outer s H E p ht hg hk hr => ⟨_, (pdss_cons (pds_set (i := 1) sc__law_number.nd rfl (Or.inl rfl) (pdcC (C__law_size.cal ht) hg hr (pda_cons (pd_var 0) pda_nil)))
      (pdss_one (pds_ret (pd_ifx (pdt_cmp (opd_eq hr.units) (pdcC (C__law_draw.cal ht) hg hr (pda_cons (pd_var 0) (pda_cons pd_int pda_nil))) pd_int) (pd_un und_neg (pd_var 1)) (pd_var 1))))), ?_⟩
  intro ds R hl h; unfold sp__law_number at h; split at h
  all_goals (try exact False.elim h)
  all_goals clear hl hg hr hk ht
  simp (implicitDefEqProofs := false) (maxSteps := 3000000) only [gAddS, gMulS, gSlS, gIxS, cLenS, gInS, cStrI, cIntS, dJoin, gJ, dReplC, dZfill, strsOf, xaCons, xaNil, xExpr, xSeq, xIf, xRet, xRaise, xOf, xB, xBK, xAsg, xTry, xTryIs, xHeard, mD0, mD1, mD2, startD, List.map_cons, List.map_nil, List.length_cons, List.length_nil, List.replicate, List.cons_append, List.nil_append, Nat.reduceAdd, Nat.reduceSub, Nat.zero_add, dSeq, dIfS, dOr, dAnd, dNot, dTst, dOp, dUn, dVar, dC, dB, dBK, dCons, dNil, dTup, dLst, dRet, dRetN, dRetF, dRetO, dBO, dFr, dRepL, dCatL, dRev, dRevL, dSlO, dCatO, cSorted, SpO.sp, dNext, dNever, dAsg, dPar, dPar3, dParO, dIf, dAndV, dOrV, dNotV, dCh, dCt, cLast, cLink, tLast, tLink, dDrop, dFor, dBrk, dCnt, dOwn, dApp, dExt, dFree, gPutO, dIxO, dLend, dLendT, dLcF, gN, gTu, gCn, gNl, gP0, gP1, gII, gIIc, gAdd, gNeg, gIx, gEq, gNe, gIs, gIsNot, gIn, gNotIn, gSl, oNone, oSome, gMt, gIndex, cTuple, cList, cI1, cI2, cInt, cLen, cMax, cMin, cMaxT, cMinT, dAug, cAll, cAny, cRepr, cSqrt, cIsi, tyN, isNon, kb_tt, kb_ii, kb_ib, kb_bi, kb_bb, kb_it, kb_bt, kb_nt, kb_ni, kb_lt, kb_li, kb_ti, kb_si, kb_st, kb_ss, rd, dTru, dRgN, dEnum, gMulT, gDivN, gDivNB, gEqF, dCallV, spOf, atD, ordD, dSq, dZip, dZipM, dZip3, zipD3_map, gShl, dParOO, zipD_map, ivD, dRg1, dRg2, dLc, dYes, dLcGo, dGen, dGenGo, wipeD, boolsOf, intsOf, maxL, minL, noL, noLs, Option.map_some, Option.bind_some, List.all_cons, List.all_nil, List.any_cons, List.any_nil, id_eq, List.set_cons_zero, List.set_cons_succ, List.getElem?_cons_zero, List.getElem?_cons_succ, List.getElem?_nil, List.getD_cons_zero, List.getD_cons_succ, decide_eq_true_eq, decide_eq_false_iff_not, Bool.not_eq_true', Bool.not_true, Bool.not_false, Bool.and_true, Bool.true_and, Bool.and_false, Bool.false_and, Bool.false_eq_true, if_true, if_false, reduceIte, ite_true, ite_false, true_and, and_true, reduceCtorEq, Int.toNat_zero, Int.toNat_one, Int.cast_ofNat_Int, Int.reduceLT, Int.reduceLE, Int.reduceNeg, Int.reduceToNat, Int.reducePow, Int.reduceMul, Int.reduceAdd, Int.reduceSub, decide_true, decide_false, sp__law_size, sp__law_draw]
  intro n n0 n1 w w0 w1
  by_cases e : w = 0
  · rw [if_pos e]
    exact h _ (by omega) (by omega)
  · rw [if_neg e]
    exact h _ (by omega) (by omega)
def sp__law_figures : SpD :=
  fun ds R => match ds with
  | [.pot] => ∀ s : Str, s.length ≤ 61 → R (.str s)
  | _ => False
set_option maxHeartbeats 0 in
theorem ok__law_figures (T : Txt K mg) (D0 : Dfn K mg "_law_figures" "_law_figures" s__law_figures ["pot"] []) (C__law_draw : Cal P w K mg base tabs "_law_draw" 1 2 ["pot", "room"] [] sp__law_draw) (C__law_pick : Cal P w K mg base tabs "_law_pick" 2 2 ["pot", "some"] [] sp__law_pick) (C__law_size : Cal P w K mg base tabs "_law_size" 3 1 ["pot"] [] sp__law_size) : Cal P w K mg base tabs "_law_figures" 4 1 ["pot"] [] sp__law_figures := by
  refine cal_of D0 sc__law_figures fun f cdv A outer s H E p ht hg hk hr => ⟨_, (pdss_cons (pds_set (i := 1) sc__law_figures.nd rfl (Or.inl rfl) (pdcC (C__law_draw.cal ht) hg hr (pda_cons (pd_var 0) (pda_cons pd_int pda_nil))))
      (pdss_cons (pds_if (pdt_cmp (opd_eq hr.units) (pd_var 1) pd_int) (pdss_one (pds_ret (pdcC (C__law_pick.cal ht) hg hr (pda_cons (pd_var 0) (pda_cons (pd_lst (pda_cons pd_str (pda_cons pd_str (pda_cons pd_str (pda_cons pd_str (pda_cons pd_str pda_nil)))))) pda_nil))))) pdss_nil)
      (pdss_cons (pds_if (pdt_cmp (opd_eq hr.units) (pd_var 1) pd_int) (pdss_one (pds_ret (pdcC (C__law_pick.cal ht) hg hr (pda_cons (pd_var 0) (pda_cons (pd_lst (pda_cons (pd_bin opd_addS (pd_bin opd_mulS pd_str pd_int) pd_str) (pda_cons (pd_bin opd_mulS pd_str pd_int) (pda_cons (pd_bin opd_mulS pd_str pd_int) (pda_cons (pd_bin opd_addS pd_str (pd_bin opd_mulS pd_str pd_int)) (pda_cons (pd_bin opd_mulS pd_str pd_int) pda_nil)))))) pda_nil))))) pdss_nil)
      (pdss_one (pds_ret (pd_callTy cd_strI rfl T.b_str PyProof.Rows.boot_str (pda_cons (pdcC (C__law_size.cal ht) hg hr (pda_cons (pd_var 0) pda_nil)) pda_nil))))))), ?_⟩
  intro ds R hl h; unfold sp__law_figures at h; split at h
  all_goals (try exact False.elim h)
  all_goals clear hl hg hr hk ht
  simp (implicitDefEqProofs := false) (maxSteps := 3000000) only [gAddS, gMulS, gSlS, gIxS, cLenS, gInS, cStrI, cIntS, dJoin, gJ, dReplC, dZfill, strsOf, xaCons, xaNil, xExpr, xSeq, xIf, xRet, xRaise, xOf, xB, xBK, xAsg, xTry, xTryIs, xHeard, mD0, mD1, mD2, startD, List.map_cons, List.map_nil, List.length_cons, List.length_nil, List.replicate, List.cons_append, List.nil_append, Nat.reduceAdd, Nat.reduceSub, Nat.zero_add, dSeq, dIfS, dOr, dAnd, dNot, dTst, dOp, dUn, dVar, dC, dB, dBK, dCons, dNil, dTup, dLst, dRet, dRetN, dRetF, dRetO, dBO, dFr, dRepL, dCatL, dRev, dRevL, dSlO, dCatO, cSorted, SpO.sp, dNext, dNever, dAsg, dPar, dPar3, dParO, dIf, dAndV, dOrV, dNotV, dCh, dCt, cLast, cLink, tLast, tLink, dDrop, dFor, dBrk, dCnt, dOwn, dApp, dExt, dFree, gPutO, dIxO, dLend, dLendT, dLcF, gN, gTu, gCn, gNl, gP0, gP1, gII, gIIc, gAdd, gNeg, gIx, gEq, gNe, gIs, gIsNot, gIn, gNotIn, gSl, oNone, oSome, gMt, gIndex, cTuple, cList, cI1, cI2, cInt, cLen, cMax, cMin, cMaxT, cMinT, dAug, cAll, cAny, cRepr, cSqrt, cIsi, tyN, isNon, kb_tt, kb_ii, kb_ib, kb_bi, kb_bb, kb_it, kb_bt, kb_nt, kb_ni, kb_lt, kb_li, kb_ti, kb_si, kb_st, kb_ss, rd, dTru, dRgN, dEnum, gMulT, gDivN, gDivNB, gEqF, dCallV, spOf, atD, ordD, dSq, dZip, dZipM, dZip3, zipD3_map, gShl, dParOO, zipD_map, ivD, dRg1, dRg2, dLc, dYes, dLcGo, dGen, dGenGo, wipeD, boolsOf, intsOf, maxL, minL, noL, noLs, Option.map_some, Option.bind_some, List.all_cons, List.all_nil, List.any_cons, List.any_nil, id_eq, List.set_cons_zero, List.set_cons_succ, List.getElem?_cons_zero, List.getElem?_cons_succ, List.getElem?_nil, List.getD_cons_zero, List.getD_cons_succ, decide_eq_true_eq, decide_eq_false_iff_not, Bool.not_eq_true', Bool.not_true, Bool.not_false, Bool.and_true, Bool.true_and, Bool.and_false, Bool.false_and, Bool.false_eq_true, if_true, if_false, reduceIte, ite_true, ite_false, true_and, and_true, reduceCtorEq, Int.toNat_zero, Int.toNat_one, Int.cast_ofNat_Int, Int.reduceLT, Int.reduceLE, Int.reduceNeg, Int.reduceToNat, Int.reducePow, Int.reduceMul, Int.reduceAdd, Int.reduceSub, decide_true, decide_false, sp__law_draw, sp__law_pick, sp__law_size]
  have n0 : (Str.ofString "0").length = 1 := by decide +kernel
  have n9 : (Str.ofString "9").length = 1 := by decide +kernel
  have n1 : (Str.ofString "1").length = 1 := by decide +kernel
  have n7 : (Str.ofString "7").length = 1 := by decide +kernel
  intro w w0 w1
  refine ite2P (fun e => ?_) fun e => ?_
  · refine ⟨⟨by omega, by omega⟩, fun x hx => ?_⟩
    simp only [List.mem_cons, List.not_mem_nil, or_false] at hx
    rcases hx with rfl | rfl | rfl | rfl | rfl <;> exact h _ (by decide +kernel)
  refine ite2P (fun e => ?_) fun e => ?_
  · simp only [len_rep, n0, n9, n1, n7]
    refine ⟨by omega, by omega, by omega, by omega, by omega, by omega, by omega, ⟨by omega, by omega⟩, fun x hx => ?_⟩
    simp only [List.mem_cons, List.not_mem_nil, or_false] at hx
    rcases hx with rfl | rfl | rfl | rfl | rfl <;> exact h _ (by simp only [len_app, len_rep, n0, n9, n1, n7]; omega)
  · intro n a0 a1
    refine ⟨small_log (by omega) (by omega), h _ ?_⟩
    have := nT_len (n := n) (k := 59) a0 (by rw [p60]; omega)
    show (nT n).length ≤ _
    omega
def sp__law_drawn_text : SpD :=
  fun ds R => match ds with
  | [.pot] => ∀ s : Str, s.length ≤ 250 → R (.str s)
  | _ => False
set_option maxHeartbeats 0 in
theorem ok__law_drawn_text (T : Txt K mg) (D0 : Dfn K mg "_law_drawn_text" "_law_drawn_text" s__law_drawn_text ["pot"] []) (C__law_pick : Cal P w K mg base tabs "_law_pick" 2 2 ["pot", "some"] [] sp__law_pick) (C__law_figures : Cal P w K mg base tabs "_law_figures" 4 1 ["pot"] [] sp__law_figures) (C__law_draw : Cal P w K mg base tabs "_law_draw" 1 2 ["pot", "room"] [] sp__law_draw) : Cal P w K mg base tabs "_law_drawn_text" 5 1 ["pot"] [] sp__law_drawn_text := by
  refine cal_of D0 sc__law_drawn_text fun f cdv A outer s H E p ht hg hk hr => ⟨_, (pdss_cons (pds_set (i := 1) sc__law_drawn_text.nd rfl (Or.inl rfl) (pd_bin opd_addS (pdcC (C__law_pick.cal ht) hg hr (pda_cons (pd_var 0) (pda_cons (pd_lst (pda_cons pd_str (pda_cons pd_str (pda_cons pd_str pda_nil)))) pda_nil))) (pdcC (C__law_figures.cal ht) hg hr (pda_cons (pd_var 0) pda_nil))))
      (pdss_cons (pds_if (pdt_cmp opd_gt (pdcC (C__law_draw.cal ht) hg hr (pda_cons (pd_var 0) (pda_cons pd_int pda_nil))) pd_int) (pdss_one (pds_set (i := 1) sc__law_drawn_text.nd rfl (Or.inl rfl) (pd_bin opd_addS (pd_bin opd_addS (pd_var 1) (pdcC (C__law_pick.cal ht) hg hr (pda_cons (pd_var 0) (pda_cons (pd_lst (pda_cons pd_str (pda_cons pd_str (pda_cons pd_str pda_nil)))) pda_nil)))) (pdcC (C__law_figures.cal ht) hg hr (pda_cons (pd_var 0) pda_nil))))) pdss_nil)
      (pdss_cons (pds_par (i := 2) (j := 3) rfl sc__law_drawn_text.nd rfl rfl (by decide) rfl rfl (pda_cons (pdcC (C__law_draw.cal ht) hg hr (pda_cons (pd_var 0) (pda_cons pd_int pda_nil))) (pda_cons (pdcC (C__law_draw.cal ht) hg hr (pda_cons (pd_var 0) (pda_cons (pd_bin opd_addS (pd_callB cd_lenS rfl T.b_len PySem.boot_len (pda_cons (pd_var 1) pda_nil)) pd_int) pda_nil))) pda_nil)) (by rfl))
      (pdss_cons (pds_if (pdt_cmp (opd_eq hr.units) (pd_var 2) pd_int) (pdss_one (pds_ret (pd_bin opd_addS (pd_bin opd_addS (pd_slS (pd_var 1) pdo_none (pdo_some (pd_var 3))) (pdcC (C__law_pick.cal ht) hg hr (pda_cons (pd_var 0) (pda_cons (pd_lst (pda_cons pd_str (pda_cons pd_str (pda_cons pd_str (pda_cons pd_str (pda_cons pd_str (pda_cons pd_str (pda_cons pd_str (pda_cons pd_str (pda_cons pd_str (pda_cons pd_str pda_nil))))))))))) pda_nil)))) (pd_slS (pd_var 1) (pdo_some (pd_var 3)) pdo_none)))) pdss_nil)
      (pdss_cons (pds_if (pdt_cmp (opd_eq hr.units) (pd_var 2) pd_int) (pdss_one (pds_ret (pd_bin opd_addS (pd_slS (pd_var 1) pdo_none (pdo_some (pd_var 3))) (pd_slS (pd_var 1) (pdo_some (pd_bin opd_addS (pd_var 3) pd_int)) pdo_none)))) pdss_nil)
      (pdss_one (pds_ret (pd_ifx (pdt_cmp (opd_eq hr.units) (pd_var 2) pd_int) (pd_slS (pd_var 1) pdo_none (pdo_some (pd_var 3))) (pd_var 1))))))))), ?_⟩
  intro ds R hl h; unfold sp__law_drawn_text at h; split at h
  all_goals (try exact False.elim h)
  all_goals clear hl hg hr hk ht
  refine seqAsgP (fun d => ∃ s : Str, s.length ≤ 62 ∧ d = .str s) (fun Q hQ => ?_) ?_
  · simp (implicitDefEqProofs := false) (maxSteps := 3000000) only [gAddS, gMulS, gSlS, gIxS, cLenS, gInS, cStrI, cIntS, dJoin, gJ, dReplC, dZfill, strsOf, xaCons, xaNil, xExpr, xSeq, xIf, xRet, xRaise, xOf, xB, xBK, xAsg, xTry, xTryIs, xHeard, mD0, mD1, mD2, startD, List.map_cons, List.map_nil, List.length_cons, List.length_nil, List.replicate, List.cons_append, List.nil_append, Nat.reduceAdd, Nat.reduceSub, Nat.zero_add, dSeq, dIfS, dOr, dAnd, dNot, dTst, dOp, dUn, dVar, dC, dB, dBK, dCons, dNil, dTup, dLst, dRet, dRetN, dRetF, dRetO, dBO, dFr, dRepL, dCatL, dRev, dRevL, dSlO, dCatO, cSorted, SpO.sp, dNext, dNever, dAsg, dPar, dPar3, dParO, dIf, dAndV, dOrV, dNotV, dCh, dCt, cLast, cLink, tLast, tLink, dDrop, dFor, dBrk, dCnt, dOwn, dApp, dExt, dFree, gPutO, dIxO, dLend, dLendT, dLcF, gN, gTu, gCn, gNl, gP0, gP1, gII, gIIc, gAdd, gNeg, gIx, gEq, gNe, gIs, gIsNot, gIn, gNotIn, gSl, oNone, oSome, gMt, gIndex, cTuple, cList, cI1, cI2, cInt, cLen, cMax, cMin, cMaxT, cMinT, dAug, cAll, cAny, cRepr, cSqrt, cIsi, tyN, isNon, kb_tt, kb_ii, kb_ib, kb_bi, kb_bb, kb_it, kb_bt, kb_nt, kb_ni, kb_lt, kb_li, kb_ti, kb_si, kb_st, kb_ss, rd, dTru, dRgN, dEnum, gMulT, gDivN, gDivNB, gEqF, dCallV, spOf, atD, ordD, dSq, dZip, dZipM, dZip3, zipD3_map, gShl, dParOO, zipD_map, ivD, dRg1, dRg2, dLc, dYes, dLcGo, dGen, dGenGo, wipeD, boolsOf, intsOf, maxL, minL, noL, noLs, Option.map_some, Option.bind_some, List.all_cons, List.all_nil, List.any_cons, List.any_nil, id_eq, List.set_cons_zero, List.set_cons_succ, List.getElem?_cons_zero, List.getElem?_cons_succ, List.getElem?_nil, List.getD_cons_zero, List.getD_cons_succ, decide_eq_true_eq, decide_eq_false_iff_not, Bool.not_eq_true', Bool.not_true, Bool.not_false, Bool.and_true, Bool.true_and, Bool.and_false, Bool.false_and, Bool.false_eq_true, if_true, if_false, reduceIte, ite_true, ite_false, true_and, and_true, reduceCtorEq, Int.toNat_zero, Int.toNat_one, Int.cast_ofNat_Int, Int.reduceLT, Int.reduceLE, Int.reduceNeg, Int.reduceToNat, Int.reducePow, Int.reduceMul, Int.reduceAdd, Int.reduceSub, decide_true, decide_false, sp__law_pick, sp__law_figures, sp__law_draw]
    refine ⟨⟨by omega, by omega⟩, fun x hx => ?_⟩
    simp only [List.mem_cons, List.not_mem_nil, or_false] at hx
    have e0 : (Str.ofString "").length = 0 := by decide +kernel
    have e1 : (Str.ofString "-").length = 1 := by decide +kernel
    rcases hx with rfl | rfl | rfl <;> intro s hs <;> exact ⟨by omega, hQ _ ⟨_, by rw [len_app]; omega, rfl⟩⟩
  rintro _ ⟨s, hs, rfl⟩
  refine seqTo' (fun τ => ∃ s : Str, s.length ≤ 124 ∧ τ = [some .pot, some (.str s), none, none]) (fun k hk => ?_) ?_
  · simp (implicitDefEqProofs := false) (maxSteps := 3000000) only [gAddS, gMulS, gSlS, gIxS, cLenS, gInS, cStrI, cIntS, dJoin, gJ, dReplC, dZfill, strsOf, xaCons, xaNil, xExpr, xSeq, xIf, xRet, xRaise, xOf, xB, xBK, xAsg, xTry, xTryIs, xHeard, mD0, mD1, mD2, startD, List.map_cons, List.map_nil, List.length_cons, List.length_nil, List.replicate, List.cons_append, List.nil_append, Nat.reduceAdd, Nat.reduceSub, Nat.zero_add, dSeq, dIfS, dOr, dAnd, dNot, dTst, dOp, dUn, dVar, dC, dB, dBK, dCons, dNil, dTup, dLst, dRet, dRetN, dRetF, dRetO, dBO, dFr, dRepL, dCatL, dRev, dRevL, dSlO, dCatO, cSorted, SpO.sp, dNext, dNever, dAsg, dPar, dPar3, dParO, dIf, dAndV, dOrV, dNotV, dCh, dCt, cLast, cLink, tLast, tLink, dDrop, dFor, dBrk, dCnt, dOwn, dApp, dExt, dFree, gPutO, dIxO, dLend, dLendT, dLcF, gN, gTu, gCn, gNl, gP0, gP1, gII, gIIc, gAdd, gNeg, gIx, gEq, gNe, gIs, gIsNot, gIn, gNotIn, gSl, oNone, oSome, gMt, gIndex, cTuple, cList, cI1, cI2, cInt, cLen, cMax, cMin, cMaxT, cMinT, dAug, cAll, cAny, cRepr, cSqrt, cIsi, tyN, isNon, kb_tt, kb_ii, kb_ib, kb_bi, kb_bb, kb_it, kb_bt, kb_nt, kb_ni, kb_lt, kb_li, kb_ti, kb_si, kb_st, kb_ss, rd, dTru, dRgN, dEnum, gMulT, gDivN, gDivNB, gEqF, dCallV, spOf, atD, ordD, dSq, dZip, dZipM, dZip3, zipD3_map, gShl, dParOO, zipD_map, ivD, dRg1, dRg2, dLc, dYes, dLcGo, dGen, dGenGo, wipeD, boolsOf, intsOf, maxL, minL, noL, noLs, Option.map_some, Option.bind_some, List.all_cons, List.all_nil, List.any_cons, List.any_nil, id_eq, List.set_cons_zero, List.set_cons_succ, List.getElem?_cons_zero, List.getElem?_cons_succ, List.getElem?_nil, List.getD_cons_zero, List.getD_cons_succ, decide_eq_true_eq, decide_eq_false_iff_not, Bool.not_eq_true', Bool.not_true, Bool.not_false, Bool.and_true, Bool.true_and, Bool.and_false, Bool.false_and, Bool.false_eq_true, if_true, if_false, reduceIte, ite_true, ite_false, true_and, and_true, reduceCtorEq, Int.toNat_zero, Int.toNat_one, Int.cast_ofNat_Int, Int.reduceLT, Int.reduceLE, Int.reduceNeg, Int.reduceToNat, Int.reducePow, Int.reduceMul, Int.reduceAdd, Int.reduceSub, decide_true, decide_false, sp__law_pick, sp__law_figures, sp__law_draw]
    intro w w0 w1
    refine ite2P (fun e => ?_) fun e => ?_
    · refine ⟨⟨by omega, by omega⟩, fun x hx => ?_⟩
      simp only [List.mem_cons, List.not_mem_nil, or_false] at hx
      have e0 : (Str.ofString "/").length = 1 := by decide +kernel
      have e1 : (Str.ofString ".").length = 1 := by decide +kernel
      rcases hx with rfl | rfl | rfl <;> refine ⟨by omega, fun r hr => ⟨by rw [len_app]; omega, hk _ ⟨_, ?_, rfl⟩⟩⟩ <;> rw [len_app, len_app] <;> omega
    · exact hk _ ⟨s, by omega, rfl⟩
  rintro _ ⟨s, hs, rfl⟩
  refine seqParP (fun x y => ∃ w a : Int, 0 ≤ a ∧ x = .int w ∧ y = .int a) (fun Q hQ => ?_) ?_
  · simp (implicitDefEqProofs := false) (maxSteps := 3000000) only [gAddS, gMulS, gSlS, gIxS, cLenS, gInS, cStrI, cIntS, dJoin, gJ, dReplC, dZfill, strsOf, xaCons, xaNil, xExpr, xSeq, xIf, xRet, xRaise, xOf, xB, xBK, xAsg, xTry, xTryIs, xHeard, mD0, mD1, mD2, startD, List.map_cons, List.map_nil, List.length_cons, List.length_nil, List.replicate, List.cons_append, List.nil_append, Nat.reduceAdd, Nat.reduceSub, Nat.zero_add, dSeq, dIfS, dOr, dAnd, dNot, dTst, dOp, dUn, dVar, dC, dB, dBK, dCons, dNil, dTup, dLst, dRet, dRetN, dRetF, dRetO, dBO, dFr, dRepL, dCatL, dRev, dRevL, dSlO, dCatO, cSorted, SpO.sp, dNext, dNever, dAsg, dPar, dPar3, dParO, dIf, dAndV, dOrV, dNotV, dCh, dCt, cLast, cLink, tLast, tLink, dDrop, dFor, dBrk, dCnt, dOwn, dApp, dExt, dFree, gPutO, dIxO, dLend, dLendT, dLcF, gN, gTu, gCn, gNl, gP0, gP1, gII, gIIc, gAdd, gNeg, gIx, gEq, gNe, gIs, gIsNot, gIn, gNotIn, gSl, oNone, oSome, gMt, gIndex, cTuple, cList, cI1, cI2, cInt, cLen, cMax, cMin, cMaxT, cMinT, dAug, cAll, cAny, cRepr, cSqrt, cIsi, tyN, isNon, kb_tt, kb_ii, kb_ib, kb_bi, kb_bb, kb_it, kb_bt, kb_nt, kb_ni, kb_lt, kb_li, kb_ti, kb_si, kb_st, kb_ss, rd, dTru, dRgN, dEnum, gMulT, gDivN, gDivNB, gEqF, dCallV, spOf, atD, ordD, dSq, dZip, dZipM, dZip3, zipD3_map, gShl, dParOO, zipD_map, ivD, dRg1, dRg2, dLc, dYes, dLcGo, dGen, dGenGo, wipeD, boolsOf, intsOf, maxL, minL, noL, noLs, Option.map_some, Option.bind_some, List.all_cons, List.all_nil, List.any_cons, List.any_nil, id_eq, List.set_cons_zero, List.set_cons_succ, List.getElem?_cons_zero, List.getElem?_cons_succ, List.getElem?_nil, List.getD_cons_zero, List.getD_cons_succ, decide_eq_true_eq, decide_eq_false_iff_not, Bool.not_eq_true', Bool.not_true, Bool.not_false, Bool.and_true, Bool.true_and, Bool.and_false, Bool.false_and, Bool.false_eq_true, if_true, if_false, reduceIte, ite_true, ite_false, true_and, and_true, reduceCtorEq, Int.toNat_zero, Int.toNat_one, Int.cast_ofNat_Int, Int.reduceLT, Int.reduceLE, Int.reduceNeg, Int.reduceToNat, Int.reducePow, Int.reduceMul, Int.reduceAdd, Int.reduceSub, decide_true, decide_false, sp__law_pick, sp__law_figures, sp__law_draw]
    intro w w0 w1
    refine ⟨by omega, ⟨by omega, by omega⟩, fun a a0 a1 => hQ _ _ ⟨w, a, a0, rfl, rfl⟩⟩
  rintro _ _ ⟨w, a, a0, rfl, rfl⟩
  simp (implicitDefEqProofs := false) (maxSteps := 3000000) only [gAddS, gMulS, gSlS, gIxS, cLenS, gInS, cStrI, cIntS, dJoin, gJ, dReplC, dZfill, strsOf, xaCons, xaNil, xExpr, xSeq, xIf, xRet, xRaise, xOf, xB, xBK, xAsg, xTry, xTryIs, xHeard, mD0, mD1, mD2, startD, List.map_cons, List.map_nil, List.length_cons, List.length_nil, List.replicate, List.cons_append, List.nil_append, Nat.reduceAdd, Nat.reduceSub, Nat.zero_add, dSeq, dIfS, dOr, dAnd, dNot, dTst, dOp, dUn, dVar, dC, dB, dBK, dCons, dNil, dTup, dLst, dRet, dRetN, dRetF, dRetO, dBO, dFr, dRepL, dCatL, dRev, dRevL, dSlO, dCatO, cSorted, SpO.sp, dNext, dNever, dAsg, dPar, dPar3, dParO, dIf, dAndV, dOrV, dNotV, dCh, dCt, cLast, cLink, tLast, tLink, dDrop, dFor, dBrk, dCnt, dOwn, dApp, dExt, dFree, gPutO, dIxO, dLend, dLendT, dLcF, gN, gTu, gCn, gNl, gP0, gP1, gII, gIIc, gAdd, gNeg, gIx, gEq, gNe, gIs, gIsNot, gIn, gNotIn, gSl, oNone, oSome, gMt, gIndex, cTuple, cList, cI1, cI2, cInt, cLen, cMax, cMin, cMaxT, cMinT, dAug, cAll, cAny, cRepr, cSqrt, cIsi, tyN, isNon, kb_tt, kb_ii, kb_ib, kb_bi, kb_bb, kb_it, kb_bt, kb_nt, kb_ni, kb_lt, kb_li, kb_ti, kb_si, kb_st, kb_ss, rd, dTru, dRgN, dEnum, gMulT, gDivN, gDivNB, gEqF, dCallV, spOf, atD, ordD, dSq, dZip, dZipM, dZip3, zipD3_map, gShl, dParOO, zipD_map, ivD, dRg1, dRg2, dLc, dYes, dLcGo, dGen, dGenGo, wipeD, boolsOf, intsOf, maxL, minL, noL, noLs, Option.map_some, Option.bind_some, List.all_cons, List.all_nil, List.any_cons, List.any_nil, id_eq, List.set_cons_zero, List.set_cons_succ, List.getElem?_cons_zero, List.getElem?_cons_succ, List.getElem?_nil, List.getD_cons_zero, List.getD_cons_succ, decide_eq_true_eq, decide_eq_false_iff_not, Bool.not_eq_true', Bool.not_true, Bool.not_false, Bool.and_true, Bool.true_and, Bool.and_false, Bool.false_and, Bool.false_eq_true, if_true, if_false, reduceIte, ite_true, ite_false, true_and, and_true, reduceCtorEq, Int.toNat_zero, Int.toNat_one, Int.cast_ofNat_Int, Int.reduceLT, Int.reduceLE, Int.reduceNeg, Int.reduceToNat, Int.reducePow, Int.reduceMul, Int.reduceAdd, Int.reduceSub, decide_true, decide_false, sp__law_pick, sp__law_figures, sp__law_draw]
  have c1 := len_cut s none (some a)
  have c2 := len_cut s (some a) none
  have c3 := len_cut s (some (a + 1)) none
  refine ite2P (fun e => ?_) fun e => ?_
  · refine ⟨by omega, ⟨by omega, by omega⟩, fun x hx => ?_⟩
    have hx' : ∃ b : Str, b.length ≤ 1 ∧ x = .str b := by
      simp only [List.mem_cons, List.not_mem_nil, or_false] at hx
      rcases hx with rfl | rfl | rfl | rfl | rfl | rfl | rfl | rfl | rfl | rfl <;> exact ⟨_, by decide +kernel, rfl⟩
    obtain ⟨b, hb, rfl⟩ := hx'
    exact ⟨by omega, by omega, by rw [len_app]; omega, h _ (by rw [len_app, len_app]; omega)⟩
  refine ite2P (fun e => ?_) fun e => ?_
  · exact ⟨by omega, by omega, by omega, h _ (by rw [len_app]; omega)⟩
  refine ite2P (fun e => ?_) fun e => ?_
  · exact ⟨by omega, h _ (by omega)⟩
  · exact h _ (by omega)
def sp__law_heard : SpD :=
  fun ds R => ∃ (l : List Nat), ds = [.str (tx l)] ∧ l.length ≤ 16777216 ∧ R (hearD l)
set_option maxHeartbeats 0 in
theorem ok__law_heard (T : Txt K mg) (D0 : Dfn K mg "_law_heard" "_law_heard" s__law_heard ["text"] []) (hF : tabs.fns = mg) (C_parse_ratio : CalX P w K mg base tabs "parse_ratio" 5 1 ["text"] [(["text"], 0, [0])] sp_parse_ratio) (CI_BadText : CatchIs K mg "BadText" "CourseError" "position" ["BadText"]) : Cal P w K mg base tabs "_law_heard" 6 1 ["text"] [] sp__law_heard := by
  refine cal_of D0 sc__law_heard fun f cdv A outer s H E p ht hg hk hr => ⟨_, (pdss_cons (pds_set (i := 1) sc__law_heard.nd rfl (Or.inl rfl) pd_non)
      (pdss_cons (pds_ofX (pd_tryIs (i := 2) (ih := 1) CI_BadText (by rw [ht]; exact hF) LamX.takes0 sc__law_heard.nd (fun E1 pn xe tk => (pdsxs_one (pdsx_set (i := 1) sc__law_heard.nd rfl (Or.inl rfl) (pdx_tup (pdax_cons (pdxCK0 (ks := ["text"]) (perm := [0]) (C_parse_ratio.cal ht) tk hg hr (by decide) (pdk_cons (pd_var 0) pdk_nil)) (pdax_cons (pdx_of pd_non) pdax_nil))))))))
      (pdss_one (pds_ret (pd_var 1))))), ?_⟩
  intro ds R hl h; unfold sp__law_heard at h
  clear hl hg hr hk ht
  obtain ⟨l, rfl, hl, h⟩ := h
  refine seqAsg .non (fun Q hQ => hQ) ?_
  have pr : ∀ (R' : D → Prop) (Rx : XD → Prop), (match parR l with
      | .ok v => R' (ivD v)
      | .error p => Rx (badX p)) → xBK sp_parse_ratio [0] dNil (dCons (dVar 0) dNil) [some (.str (tx l)), some .non, none] R' Rx := fun R' Rx h' => by
    simp (implicitDefEqProofs := false) (maxSteps := 3000000) only [gAddS, gMulS, gSlS, gIxS, cLenS, gInS, cStrI, cIntS, dJoin, gJ, dReplC, dZfill, strsOf, xaCons, xaNil, xExpr, xSeq, xIf, xRet, xRaise, xOf, xB, xBK, xAsg, xTry, xTryIs, xHeard, mD0, mD1, mD2, startD, List.map_cons, List.map_nil, List.length_cons, List.length_nil, List.replicate, List.cons_append, List.nil_append, Nat.reduceAdd, Nat.reduceSub, Nat.zero_add, dSeq, dIfS, dOr, dAnd, dNot, dTst, dOp, dUn, dVar, dC, dB, dBK, dCons, dNil, dTup, dLst, dRet, dRetN, dRetF, dRetO, dBO, dFr, dRepL, dCatL, dRev, dRevL, dSlO, dCatO, cSorted, SpO.sp, dNext, dNever, dAsg, dPar, dPar3, dParO, dIf, dAndV, dOrV, dNotV, dCh, dCt, cLast, cLink, tLast, tLink, dDrop, dFor, dBrk, dCnt, dOwn, dApp, dExt, dFree, gPutO, dIxO, dLend, dLendT, dLcF, gN, gTu, gCn, gNl, gP0, gP1, gII, gIIc, gAdd, gNeg, gIx, gEq, gNe, gIs, gIsNot, gIn, gNotIn, gSl, oNone, oSome, gMt, gIndex, cTuple, cList, cI1, cI2, cInt, cLen, cMax, cMin, cMaxT, cMinT, dAug, cAll, cAny, cRepr, cSqrt, cIsi, tyN, isNon, kb_tt, kb_ii, kb_ib, kb_bi, kb_bb, kb_it, kb_bt, kb_nt, kb_ni, kb_lt, kb_li, kb_ti, kb_si, kb_st, kb_ss, rd, dTru, dRgN, dEnum, gMulT, gDivN, gDivNB, gEqF, dCallV, spOf, atD, ordD, dSq, dZip, dZipM, dZip3, zipD3_map, gShl, dParOO, zipD_map, ivD, dRg1, dRg2, dLc, dYes, dLcGo, dGen, dGenGo, wipeD, boolsOf, intsOf, maxL, minL, noL, noLs, Option.map_some, Option.bind_some, List.all_cons, List.all_nil, List.any_cons, List.any_nil, id_eq, List.set_cons_zero, List.set_cons_succ, List.getElem?_cons_zero, List.getElem?_cons_succ, List.getElem?_nil, List.getD_cons_zero, List.getD_cons_succ, decide_eq_true_eq, decide_eq_false_iff_not, Bool.not_eq_true', Bool.not_true, Bool.not_false, Bool.and_true, Bool.true_and, Bool.and_false, Bool.false_and, Bool.false_eq_true, if_true, if_false, reduceIte, ite_true, ite_false, true_and, and_true, reduceCtorEq, Int.toNat_zero, Int.toNat_one, Int.cast_ofNat_Int, Int.reduceLT, Int.reduceLE, Int.reduceNeg, Int.reduceToNat, Int.reducePow, Int.reduceMul, Int.reduceAdd, Int.reduceSub, decide_true, decide_false, sp_parse_ratio]
    exact ⟨l, rfl, hl, h'⟩
  refine seqTo' (fun τ => τ = [some (.str (tx l)), some (hearD l), none]) (fun k hk => ?_) ?_
  · unfold xTryIs xAsg xaCons xaNil
    refine pr _ _ ?_
    unfold hearD at hk
    cases e : parR l with
    | ok v =>
      rw [e] at hk
      exact hk _ rfl
    | error p =>
      rw [e] at hk
      refine ⟨by simp [badX], ifT rfl ⟨.int p, rfl, (show 2 < 3 by decide), (show 1 < 3 by decide), hk _ rfl⟩⟩
  rintro _ rfl
  have ho : isOwn (hearD l) = false := by
    unfold hearD
    split <;> rfl
  unfold dRet dVar
  simp only [List.getElem?_cons_succ, List.getElem?_cons_zero]
  generalize hearD l = x at *
  cases x with
  | own l => cases ho
  | _ => exact h
def sp__law_read : SpD :=
  fun ds R => ∃ (l : List Nat), ds = [.str (tx l)] ∧ l.length ≤ 400 ∧ R (hearD l)
set_option maxHeartbeats 0 in
theorem ok__law_read (T : Txt K mg) (D0 : Dfn K mg "_law_read" "_law_read" s__law_read ["text"] []) (C__law_ratio : Cal P w K mg base tabs "_law_ratio" 2 2 ["number", "under"] [] sp__law_ratio) : Cal P w K mg base tabs "_law_read" 3 1 ["text"] [] sp__law_read := by
  refine cal_of D0 sc__law_read fun f cdv A outer s H E p ht hg hk hr => ⟨_, (pdss_tok (i := 1) sc__law_read.nd rfl (Or.inl rfl) (pdt_cmp (opd_eq hr.units) (pd_slS (pd_var 0) pdo_none (pdo_some pd_int)) pd_str)
      (pdsst_cons (pdst_of (pds_par (i := 2) (j := 3) rfl sc__law_read.nd rfl rfl (by decide) rfl rfl (pda_cons (pd_var 1) (pda_cons pd_str pda_nil)) (by rfl)))
      (pdsst_cons (pdst_of (pds_while PassesOwn.never (pdt_cmp opd_lt (pd_var 1) (pd_callB cd_lenS rfl T.b_len PySem.boot_len (pda_cons (pd_var 0) pda_nil))) (pdss_cons (pds_set (i := 4) sc__law_read.nd rfl (Or.inl rfl) (pd_ixS (pd_var 0) (pd_var 1)))
      (pdss_cons (pds_if (pdt_cmp opd_inS (pd_var 4) pd_str) (pdss_cons (pds_set (i := 5) sc__law_read.nd rfl (Or.inl rfl) (pd_bin opd_addS (pd_bin opd_sub (pd_var 1) (pd_var 2)) pd_int))
      (pdss_one (pds_if (pdw_t (pdw_or (pdt_cmp opd_gt (pd_var 5) pd_int) (pdw_or1 (pdw_t (pdw_and (pdt_cmp (opd_eq hr.units) (pd_var 3) pd_str) (pdw_and (pdt_cmp (opd_eq hr.units) (pd_var 5) pd_int) (pdw_and (pdt_cmp (opd_eq hr.units) (pd_var 4) pd_str) (pdw_and1 (pdt_cmp (opd_eq hr.units) (pd_slS (pd_var 0) (pdo_some (pd_var 2)) (pdo_some (pd_var 1))) (pd_bin opd_mulS pd_str pd_int)))))))))) (pdss_one (pds_ret (pd_tup (pda_cons pd_non (pda_cons (pd_var 1) pda_nil))))) pdss_nil))) (pdss_one (pds_if (pdw_t (pdw_and (pdt_cmp opd_inS (pd_var 4) pd_str) (pdw_and (pdt_cmp (opd_eq hr.units) (pd_var 3) pd_str) (pdw_and1 (pdt_cmp opd_gt (pd_var 1) (pd_var 2)))))) (pdss_one (pds_par (i := 3) (j := 2) rfl sc__law_read.nd rfl rfl (by decide) rfl rfl (pda_cons (pd_var 4) (pda_cons (pd_bin opd_addS (pd_var 1) pd_int) pda_nil)) (by rfl))) (pdss_one (pds_ret (pd_tup (pda_cons pd_non (pda_cons (pd_var 1) pda_nil))))))))
      (pdss_one (pds_set (i := 1) sc__law_read.nd rfl (Or.inl rfl) (pd_bin opd_addS (pd_var 1) pd_int)))))))
      (pdsst_cons (pdst_of (pds_if (pdw_t (pdw_or (pdt_cmp (opd_eq hr.units) (pd_var 1) (pd_var 2)) (pdw_or1 (pdw_t (pdw_and (pdt_cmp (opd_eq hr.units) (pd_var 3) pd_str) (pdw_and1 (pdt_cmp (opd_eq hr.units) (pd_slS (pd_var 0) (pdo_some (pd_var 2)) pdo_none) (pd_bin opd_mulS pd_str (pd_bin opd_sub (pd_var 1) (pd_var 2)))))))))) (pdss_one (pds_ret (pd_tup (pda_cons pd_non (pda_cons (pd_callB cd_lenS rfl T.b_len PySem.boot_len (pda_cons (pd_var 0) pda_nil)) pda_nil))))) pdss_nil))
      (pdsst_cons (pdst_of (pds_set (i := 6) sc__law_read.nd rfl (Or.inl rfl) (pd_ifx (pdt_cmp (opd_ne hr.units) (pd_var 3) pd_str) (pd_slS (pd_var 0) pdo_none (pdo_some (pd_bin opd_sub (pd_var 2) pd_int))) (pd_var 0))))
      (pdsst_cons (pdst_of (pds_set (i := 7) sc__law_read.nd rfl (Or.inl rfl) (pd_ifx (pdt_cmp (opd_eq hr.units) (pd_ixS (pd_var 0) pd_int) pd_str) (pd_un und_neg pd_int) pd_int)))
      (pdsst_cons (pdst_par (i := 8) (j := 9) rfl sc__law_read.nd rfl rfl (by decide) rfl rfl (pdat_cons (pdt_callTy cd_intS rfl T.b_int PyProof.Rows.boot_int (pdat_cons (pdt_replC (pd_var 6)) pdat_nil)) (pdat_cons (pdt_of (pd_ifx (pdt_cmp (opd_ne hr.units) (pd_var 3) pd_str) (pd_slS (pd_var 0) (pdo_some (pd_var 2)) pdo_none) pd_str)) pdat_nil)) (by rfl))
      (pdsst_of (pdss_cons (pds_if (pdt_cmp (opd_eq hr.units) (pd_var 3) pd_str) (pdss_one (pds_ret (pd_tup (pda_cons (pdcC (C__law_ratio.cal ht) hg hr (pda_cons (pd_bin opd_mulS (pd_var 7) (pd_callTy cd_intS rfl T.b_int PyProof.Rows.boot_int (pda_cons (pd_bin opd_addS (pd_callTy cd_strI rfl T.b_str PyProof.Rows.boot_str (pda_cons (pd_var 8) pda_nil)) (pd_var 9)) pda_nil))) (pda_cons (pd_callTy cd_intS rfl T.b_int PyProof.Rows.boot_int (pda_cons (pd_bin opd_addS pd_str (pd_bin opd_mulS pd_str (pd_callB cd_lenS rfl T.b_len PySem.boot_len (pda_cons (pd_var 9) pda_nil)))) pda_nil)) pda_nil))) (pda_cons pd_non pda_nil))))) pdss_nil)
      (pdss_one (pds_ret (pd_tup (pda_cons (pdcC (C__law_ratio.cal ht) hg hr (pda_cons (pd_bin opd_mulS (pd_var 7) (pd_var 8)) (pda_cons (pd_callTy cd_intS rfl T.b_int PyProof.Rows.boot_int (pda_cons (pd_var 9) pda_nil)) pda_nil))) (pda_cons pd_non pda_nil)))))))))))))), ?_⟩
  intro ds R hl h; unfold sp__law_read at h
  clear hl hg hr hk ht
  obtain ⟨l, rfl, hl, h⟩ := h
  rw [hearD_eq] at h
  unfold parR at h
  have hb : (if l.take 1 = [45] then 1 else 0) ≤ l.length := by
    by_cases c : l.take 1 = [45]
    · rw [if_pos c]
      have := congrArg List.length c
      rw [List.length_take] at this
      simp at this
      omega
    · rw [if_neg c]
      omega
  have dash : Str.ofString "-" = tx [45] := by decide +kernel
  have emp : Str.ofString "" = tx [] := by decide +kernel
  have slash : Str.ofString "/" = tx [47] := by decide +kernel
  have dot : Str.ofString "." = tx [46] := by decide +kernel
  have nou : Str.ofString "0" = tx [48] := by decide +kernel
  refine seqTo' (fun τ => τ = [some (.str (tx l)), some (.int ((if l.take 1 = [45] then 1 else 0 : Nat) : Int)), none, none, none, none, none, none, none, none]) (fun k hk => ?_) ?_
  · simp (implicitDefEqProofs := false) (maxSteps := 3000000) only [gAddS, gMulS, gSlS, gIxS, cLenS, gInS, cStrI, cIntS, dJoin, gJ, dReplC, dZfill, strsOf, xaCons, xaNil, xExpr, xSeq, xIf, xRet, xRaise, xOf, xB, xBK, xAsg, xTry, xTryIs, xHeard, mD0, mD1, mD2, startD, List.map_cons, List.map_nil, List.length_cons, List.length_nil, List.replicate, List.cons_append, List.nil_append, Nat.reduceAdd, Nat.reduceSub, Nat.zero_add, dSeq, dIfS, dOr, dAnd, dNot, dTst, dOp, dUn, dVar, dC, dB, dBK, dCons, dNil, dTup, dLst, dRet, dRetN, dRetF, dRetO, dBO, dFr, dRepL, dCatL, dRev, dRevL, dSlO, dCatO, cSorted, SpO.sp, dNext, dNever, dAsg, dPar, dPar3, dParO, dIf, dAndV, dOrV, dNotV, dCh, dCt, cLast, cLink, tLast, tLink, dDrop, dFor, dBrk, dCnt, dOwn, dApp, dExt, dFree, gPutO, dIxO, dLend, dLendT, dLcF, gN, gTu, gCn, gNl, gP0, gP1, gII, gIIc, gAdd, gNeg, gIx, gEq, gNe, gIs, gIsNot, gIn, gNotIn, gSl, oNone, oSome, gMt, gIndex, cTuple, cList, cI1, cI2, cInt, cLen, cMax, cMin, cMaxT, cMinT, dAug, cAll, cAny, cRepr, cSqrt, cIsi, tyN, isNon, kb_tt, kb_ii, kb_ib, kb_bi, kb_bb, kb_it, kb_bt, kb_nt, kb_ni, kb_lt, kb_li, kb_ti, kb_si, kb_st, kb_ss, rd, dTru, dRgN, dEnum, gMulT, gDivN, gDivNB, gEqF, dCallV, spOf, atD, ordD, dSq, dZip, dZipM, dZip3, zipD3_map, gShl, dParOO, zipD_map, ivD, dRg1, dRg2, dLc, dYes, dLcGo, dGen, dGenGo, wipeD, boolsOf, intsOf, maxL, minL, noL, noLs, Option.map_some, Option.bind_some, List.all_cons, List.all_nil, List.any_cons, List.any_nil, id_eq, List.set_cons_zero, List.set_cons_succ, List.getElem?_cons_zero, List.getElem?_cons_succ, List.getElem?_nil, List.getD_cons_zero, List.getD_cons_succ, decide_eq_true_eq, decide_eq_false_iff_not, Bool.not_eq_true', Bool.not_true, Bool.not_false, Bool.and_true, Bool.true_and, Bool.and_false, Bool.false_and, Bool.false_eq_true, if_true, if_false, reduceIte, ite_true, ite_false, true_and, and_true, reduceCtorEq, Int.toNat_zero, Int.toNat_one, Int.cast_ofNat_Int, Int.reduceLT, Int.reduceLE, Int.reduceNeg, Int.reduceToNat, Int.reducePow, Int.reduceMul, Int.reduceAdd, Int.reduceSub, decide_true, decide_false, sp__law_ratio]
    rw [tx_len, cut0, dash]
    simp only [tx_inj]
    refine ⟨by omega, ?_⟩
    by_cases c : l.take 1 = [45]
    · rw [if_pos c] at hk ⊢
      exact hk _ rfl
    · rw [if_neg c] at hk ⊢
      exact hk _ rfl
  rintro _ rfl
  generalize hbe : (if l.take 1 = [45] then 1 else 0) = b at *
  refine seqTo' (fun τ => τ = [some (.str (tx l)), some (.int (b : Int)), some (.int (b : Int)), some (.str (tx [])), none, none, none, none, none, none]) (fun k hk => ?_) ?_
  · simp (implicitDefEqProofs := false) (maxSteps := 3000000) only [gAddS, gMulS, gSlS, gIxS, cLenS, gInS, cStrI, cIntS, dJoin, gJ, dReplC, dZfill, strsOf, xaCons, xaNil, xExpr, xSeq, xIf, xRet, xRaise, xOf, xB, xBK, xAsg, xTry, xTryIs, xHeard, mD0, mD1, mD2, startD, List.map_cons, List.map_nil, List.length_cons, List.length_nil, List.replicate, List.cons_append, List.nil_append, Nat.reduceAdd, Nat.reduceSub, Nat.zero_add, dSeq, dIfS, dOr, dAnd, dNot, dTst, dOp, dUn, dVar, dC, dB, dBK, dCons, dNil, dTup, dLst, dRet, dRetN, dRetF, dRetO, dBO, dFr, dRepL, dCatL, dRev, dRevL, dSlO, dCatO, cSorted, SpO.sp, dNext, dNever, dAsg, dPar, dPar3, dParO, dIf, dAndV, dOrV, dNotV, dCh, dCt, cLast, cLink, tLast, tLink, dDrop, dFor, dBrk, dCnt, dOwn, dApp, dExt, dFree, gPutO, dIxO, dLend, dLendT, dLcF, gN, gTu, gCn, gNl, gP0, gP1, gII, gIIc, gAdd, gNeg, gIx, gEq, gNe, gIs, gIsNot, gIn, gNotIn, gSl, oNone, oSome, gMt, gIndex, cTuple, cList, cI1, cI2, cInt, cLen, cMax, cMin, cMaxT, cMinT, dAug, cAll, cAny, cRepr, cSqrt, cIsi, tyN, isNon, kb_tt, kb_ii, kb_ib, kb_bi, kb_bb, kb_it, kb_bt, kb_nt, kb_ni, kb_lt, kb_li, kb_ti, kb_si, kb_st, kb_ss, rd, dTru, dRgN, dEnum, gMulT, gDivN, gDivNB, gEqF, dCallV, spOf, atD, ordD, dSq, dZip, dZipM, dZip3, zipD3_map, gShl, dParOO, zipD_map, ivD, dRg1, dRg2, dLc, dYes, dLcGo, dGen, dGenGo, wipeD, boolsOf, intsOf, maxL, minL, noL, noLs, Option.map_some, Option.bind_some, List.all_cons, List.all_nil, List.any_cons, List.any_nil, id_eq, List.set_cons_zero, List.set_cons_succ, List.getElem?_cons_zero, List.getElem?_cons_succ, List.getElem?_nil, List.getD_cons_zero, List.getD_cons_succ, decide_eq_true_eq, decide_eq_false_iff_not, Bool.not_eq_true', Bool.not_true, Bool.not_false, Bool.and_true, Bool.true_and, Bool.and_false, Bool.false_and, Bool.false_eq_true, if_true, if_false, reduceIte, ite_true, ite_false, true_and, and_true, reduceCtorEq, Int.toNat_zero, Int.toNat_one, Int.cast_ofNat_Int, Int.reduceLT, Int.reduceLE, Int.reduceNeg, Int.reduceToNat, Int.reducePow, Int.reduceMul, Int.reduceAdd, Int.reduceSub, decide_true, decide_false, sp__law_ratio]
    rw [emp]
    exact hk _ rfl
  rintro _ rfl
  refine seqTo' (fun τ => ∃ (s : Nat) (sg : List Nat) (o1 o2 : Option D), τ = [some (.str (tx l)), some (.int (l.length : Int)), some (.int (s : Int)), some (.str (tx sg)), o1, o2, none, none, none, none] ∧ Ph l b l.length s sg) (fun k hk => ?_) ?_
  · refine whileI (fun m τ => ∃ (i s : Nat) (sg : List Nat) (o1 o2 : Option D), τ = [some (.str (tx l)), some (.int (i : Int)), some (.int (s : Int)), some (.str (tx sg)), o1, o2, none, none, none, none] ∧ Ph l b i s sg ∧ m = l.length - i) _ _ ⟨b, b, [], none, none, rfl, .one (Nat.le_refl _) hb rfl (by omega), rfl⟩ ?_
    rintro m τ k' hk' ⟨i, s, sg, o1, o2, rfl, ph, rfl⟩
    obtain ⟨b1, b2, b3, b4⟩ := ph_bounds ph
    simp (implicitDefEqProofs := false) (maxSteps := 3000000) only [gAddS, gMulS, gSlS, gIxS, cLenS, gInS, cStrI, cIntS, dJoin, gJ, dReplC, dZfill, strsOf, xaCons, xaNil, xExpr, xSeq, xIf, xRet, xRaise, xOf, xB, xBK, xAsg, xTry, xTryIs, xHeard, mD0, mD1, mD2, startD, List.map_cons, List.map_nil, List.length_cons, List.length_nil, List.replicate, List.cons_append, List.nil_append, Nat.reduceAdd, Nat.reduceSub, Nat.zero_add, dSeq, dIfS, dOr, dAnd, dNot, dTst, dOp, dUn, dVar, dC, dB, dBK, dCons, dNil, dTup, dLst, dRet, dRetN, dRetF, dRetO, dBO, dFr, dRepL, dCatL, dRev, dRevL, dSlO, dCatO, cSorted, SpO.sp, dNext, dNever, dAsg, dPar, dPar3, dParO, dIf, dAndV, dOrV, dNotV, dCh, dCt, cLast, cLink, tLast, tLink, dDrop, dFor, dBrk, dCnt, dOwn, dApp, dExt, dFree, gPutO, dIxO, dLend, dLendT, dLcF, gN, gTu, gCn, gNl, gP0, gP1, gII, gIIc, gAdd, gNeg, gIx, gEq, gNe, gIs, gIsNot, gIn, gNotIn, gSl, oNone, oSome, gMt, gIndex, cTuple, cList, cI1, cI2, cInt, cLen, cMax, cMin, cMaxT, cMinT, dAug, cAll, cAny, cRepr, cSqrt, cIsi, tyN, isNon, kb_tt, kb_ii, kb_ib, kb_bi, kb_bb, kb_it, kb_bt, kb_nt, kb_ni, kb_lt, kb_li, kb_ti, kb_si, kb_st, kb_ss, rd, dTru, dRgN, dEnum, gMulT, gDivN, gDivNB, gEqF, dCallV, spOf, atD, ordD, dSq, dZip, dZipM, dZip3, zipD3_map, gShl, dParOO, zipD_map, ivD, dRg1, dRg2, dLc, dYes, dLcGo, dGen, dGenGo, wipeD, boolsOf, intsOf, maxL, minL, noL, noLs, Option.map_some, Option.bind_some, List.all_cons, List.all_nil, List.any_cons, List.any_nil, id_eq, List.set_cons_zero, List.set_cons_succ, List.getElem?_cons_zero, List.getElem?_cons_succ, List.getElem?_nil, List.getD_cons_zero, List.getD_cons_succ, decide_eq_true_eq, decide_eq_false_iff_not, Bool.not_eq_true', Bool.not_true, Bool.not_false, Bool.and_true, Bool.true_and, Bool.and_false, Bool.false_and, Bool.false_eq_true, if_true, if_false, reduceIte, ite_true, ite_false, true_and, and_true, reduceCtorEq, Int.toNat_zero, Int.toNat_one, Int.cast_ofNat_Int, Int.reduceLT, Int.reduceLE, Int.reduceNeg, Int.reduceToNat, Int.reducePow, Int.reduceMul, Int.reduceAdd, Int.reduceSub, decide_true, decide_false, sp__law_ratio]
    rw [tx_len]
    refine ⟨by omega, ?_⟩
    by_cases c : (i : Int) < (l.length : Nat)
    · rw [if_pos c]
      have hi : i < l.length := by omega
      refine ⟨by omega, ?_⟩
      rw [L2.atI_nat (List.getElem?_eq_getElem hi)]
      have one : ∀ c : Nat, ({ cps := #[c] } : Str) = tx [c] := fun _ => rfl
      have rp : ∀ k : Nat, repS (tx [48]) k = tx (List.replicate k 48) := fun k => by rw [← nou]; exact rep0' k
      simp only [slash, emp, nou, one, rp, tx_inj, List.cons.injEq, and_true]
      by_cases d : l[i] ∈ ("0123456789" : Str).cps.toList
      · have d' : isD l[i] = true := decide_eq_true d
        rw [if_pos d]
        by_cases far : 40 < (i : Int) - s + 1
        · rw [if_pos far]
          rw [ph_far ph hi d' (by omega)] at h
          exact h
        rw [if_neg far]
        have go : (sg = [47] → i + 1 = s + 40 → PySem.NumText.digitsVal (seg l s (i + 1)) ≠ 0) → k' [some (D.str (tx l)), some (D.int (↑i + 1)), some (D.int ↑s), some (D.str (tx sg)), some (D.str (tx [l[i]])), some (D.int (↑i - ↑s + 1)), none, none, none, none] := fun z =>
          hk' _ (l.length - (i + 1)) (by omega) ⟨i + 1, s, sg, _, _, rfl, ph_step ph hi d' (by omega) z, rfl⟩
        by_cases sl : sg = [47]
        · rw [if_pos sl]
          by_cases m40 : (i : Int) - s + 1 = 40
          · rw [if_pos m40]
            by_cases z : l[i] = 48
            · rw [if_pos z, tx_len]
              refine ⟨by omega, by decide, ?_⟩
              rw [cut_tx (by omega) (by omega)]
              by_cases w : seg l s i = List.replicate 39 48
              · rw [if_pos (tx_inj.mpr w)]
                subst sl
                rw [ph_zero ph hi d' (by omega) z w] at h
                exact h
              · rw [if_neg fun z => w (tx_inj.mp z)]
                exact go fun _ e => nz_seg e hi d' b4 fun q => w q.2
            · rw [if_neg z]
              exact go fun _ e => nz_seg e hi d' b4 fun q => z q.1
          · rw [if_neg m40]
            exact go fun _ e => absurd e (by omega)
        · rw [if_neg sl]
          exact go fun e => absurd e sl
      · have d' : isD l[i] = false := decide_eq_false d
        have sd : l[i] ∈ (Str.ofString "/.").cps.toList ↔ (l[i] = 47 ∨ l[i] = 46) := by
          have e : (Str.ofString "/.").cps.toList = [47, 46] := by decide +kernel
          rw [e]
          simp
        rw [if_neg d]
        by_cases q : l[i] ∈ (Str.ofString "/.").cps.toList
        · rw [if_pos q]
          by_cases e : sg = []
          · rw [if_pos e]
            subst e
            have sb := ph_one ph
            by_cases w : (s : Int) < i
            · rw [if_pos w]
              exact hk' _ (l.length - (i + 1)) (by omega) ⟨i + 1, i + 1, [l[i]], _, _, rfl, ph_turn ph hi d' (sd.mp q) (by omega), rfl⟩
            · rw [if_neg w]
              rw [ph_bad ph hi d' fun _ => .inl (by omega)] at h
              exact h
          · rw [if_neg e]
            rw [ph_bad ph hi d' fun z => absurd z e] at h
            exact h
        · rw [if_neg q]
          rw [ph_bad ph hi d' fun _ => .inr ⟨fun z => q (sd.mpr (.inl z)), fun z => q (sd.mpr (.inr z))⟩] at h
          exact h
    · rw [if_neg c]
      have e : i = l.length := by omega
      subst e
      exact hk _ ⟨s, sg, o1, o2, rfl, ph⟩
  rintro _ ⟨s, sg, o1, o2, rfl, ph⟩
  obtain ⟨b1, b2, b3, b4⟩ := ph_bounds ph
  by_cases z : l.length = s
  · rw [ph_none ph z] at h
    simp (implicitDefEqProofs := false) (maxSteps := 3000000) only [gAddS, gMulS, gSlS, gIxS, cLenS, gInS, cStrI, cIntS, dJoin, gJ, dReplC, dZfill, strsOf, xaCons, xaNil, xExpr, xSeq, xIf, xRet, xRaise, xOf, xB, xBK, xAsg, xTry, xTryIs, xHeard, mD0, mD1, mD2, startD, List.map_cons, List.map_nil, List.length_cons, List.length_nil, List.replicate, List.cons_append, List.nil_append, Nat.reduceAdd, Nat.reduceSub, Nat.zero_add, dSeq, dIfS, dOr, dAnd, dNot, dTst, dOp, dUn, dVar, dC, dB, dBK, dCons, dNil, dTup, dLst, dRet, dRetN, dRetF, dRetO, dBO, dFr, dRepL, dCatL, dRev, dRevL, dSlO, dCatO, cSorted, SpO.sp, dNext, dNever, dAsg, dPar, dPar3, dParO, dIf, dAndV, dOrV, dNotV, dCh, dCt, cLast, cLink, tLast, tLink, dDrop, dFor, dBrk, dCnt, dOwn, dApp, dExt, dFree, gPutO, dIxO, dLend, dLendT, dLcF, gN, gTu, gCn, gNl, gP0, gP1, gII, gIIc, gAdd, gNeg, gIx, gEq, gNe, gIs, gIsNot, gIn, gNotIn, gSl, oNone, oSome, gMt, gIndex, cTuple, cList, cI1, cI2, cInt, cLen, cMax, cMin, cMaxT, cMinT, dAug, cAll, cAny, cRepr, cSqrt, cIsi, tyN, isNon, kb_tt, kb_ii, kb_ib, kb_bi, kb_bb, kb_it, kb_bt, kb_nt, kb_ni, kb_lt, kb_li, kb_ti, kb_si, kb_st, kb_ss, rd, dTru, dRgN, dEnum, gMulT, gDivN, gDivNB, gEqF, dCallV, spOf, atD, ordD, dSq, dZip, dZipM, dZip3, zipD3_map, gShl, dParOO, zipD_map, ivD, dRg1, dRg2, dLc, dYes, dLcGo, dGen, dGenGo, wipeD, boolsOf, intsOf, maxL, minL, noL, noLs, Option.map_some, Option.bind_some, List.all_cons, List.all_nil, List.any_cons, List.any_nil, id_eq, List.set_cons_zero, List.set_cons_succ, List.getElem?_cons_zero, List.getElem?_cons_succ, List.getElem?_nil, List.getD_cons_zero, List.getD_cons_succ, decide_eq_true_eq, decide_eq_false_iff_not, Bool.not_eq_true', Bool.not_true, Bool.not_false, Bool.and_true, Bool.true_and, Bool.and_false, Bool.false_and, Bool.false_eq_true, if_true, if_false, reduceIte, ite_true, ite_false, true_and, and_true, reduceCtorEq, Int.toNat_zero, Int.toNat_one, Int.cast_ofNat_Int, Int.reduceLT, Int.reduceLE, Int.reduceNeg, Int.reduceToNat, Int.reducePow, Int.reduceMul, Int.reduceAdd, Int.reduceSub, decide_true, decide_false, sp__law_ratio]
    rw [if_pos (by omega), tx_len]
    exact ⟨by omega, h⟩
  have one : ∀ c : Nat, ({ cps := #[c] } : Str) = tx [c] := fun _ => rfl
  obtain ⟨c0, t0, hl0⟩ : ∃ c0 t0, l = c0 :: t0 := by
    cases l with
    | nil => have : ([] : List Nat).length = 0 := rfl; omega
    | cons c t => exact ⟨c, t, rfl⟩
  have at0 : L2.atI l 0 = some c0 := by
    show L2.atI l ((0 : Nat) : Int) = some c0
    exact L2.atI_nat (by rw [hl0]; rfl)
  have bel : c0 = 45 ↔ b = 1 := by
    rw [← hbe, hl0]
    show _ ↔ (if [c0] = [45] then 1 else 0) = 1
    by_cases c : c0 = 45
    · subst c
      simp
    · simp [c]
  have v1 := val40 hb
  have rp : ∀ k : Nat, repS (tx [48]) k = tx (List.replicate k 48) := fun k => by rw [← nou]; exact rep0' k
  have strk : ∀ m : List Nat, Txt.replace (tx m) (tx [45]) (tx []) = tx (m.filter (· != 45)) := fun m => by
    have := strike (l := m)
    rw [dash, emp] at this
    exact this
  have i1 : intText? (Str.ofString "1") = some 1 := by
    have := int_tens (k := 0) (by omega)
    rw [show Str.ofString "1" = tx (49 :: List.replicate 0 48) by decide +kernel, this]
    rfl
  have n1 : (Str.ofString "1").length = 1 := by decide +kernel
  have t0 : (tx []).length = 0 := rfl
  cases ph with
  | one h1 h2 h3 h4 =>
    have f := f_stop h3 h4
    have hd : l.length ≤ dend l b := by rw [← h3]; exact dend_ge _ _
    rw [par_end f (by omega)] at h
    rw [f] at v1
    have st : Txt.replace (tx l) (tx [45]) (tx []) = tx (seg l b l.length) := by
      have sd := strike_dig (l := l) (b := b) (p := l.length) hbe.symm hd hb
      rw [List.take_length] at sd
      rw [strk, sd]
    have iv := int_seg (l := l) (b := b) (e := l.length) hd (by omega) (Nat.le_refl _) h4
    have sl := seg_len (l := l) (b := b) (e := l.length) hb (Nat.le_refl _)
    simp (implicitDefEqProofs := false) (maxSteps := 3000000) only [gAddS, gMulS, gSlS, gIxS, cLenS, gInS, cStrI, cIntS, dJoin, gJ, dReplC, dZfill, strsOf, xaCons, xaNil, xExpr, xSeq, xIf, xRet, xRaise, xOf, xB, xBK, xAsg, xTry, xTryIs, xHeard, mD0, mD1, mD2, startD, List.map_cons, List.map_nil, List.length_cons, List.length_nil, List.replicate, List.cons_append, List.nil_append, Nat.reduceAdd, Nat.reduceSub, Nat.zero_add, dSeq, dIfS, dOr, dAnd, dNot, dTst, dOp, dUn, dVar, dC, dB, dBK, dCons, dNil, dTup, dLst, dRet, dRetN, dRetF, dRetO, dBO, dFr, dRepL, dCatL, dRev, dRevL, dSlO, dCatO, cSorted, SpO.sp, dNext, dNever, dAsg, dPar, dPar3, dParO, dIf, dAndV, dOrV, dNotV, dCh, dCt, cLast, cLink, tLast, tLink, dDrop, dFor, dBrk, dCnt, dOwn, dApp, dExt, dFree, gPutO, dIxO, dLend, dLendT, dLcF, gN, gTu, gCn, gNl, gP0, gP1, gII, gIIc, gAdd, gNeg, gIx, gEq, gNe, gIs, gIsNot, gIn, gNotIn, gSl, oNone, oSome, gMt, gIndex, cTuple, cList, cI1, cI2, cInt, cLen, cMax, cMin, cMaxT, cMinT, dAug, cAll, cAny, cRepr, cSqrt, cIsi, tyN, isNon, kb_tt, kb_ii, kb_ib, kb_bi, kb_bb, kb_it, kb_bt, kb_nt, kb_ni, kb_lt, kb_li, kb_ti, kb_si, kb_st, kb_ss, rd, dTru, dRgN, dEnum, gMulT, gDivN, gDivNB, gEqF, dCallV, spOf, atD, ordD, dSq, dZip, dZipM, dZip3, zipD3_map, gShl, dParOO, zipD_map, ivD, dRg1, dRg2, dLc, dYes, dLcGo, dGen, dGenGo, wipeD, boolsOf, intsOf, maxL, minL, noL, noLs, Option.map_some, Option.bind_some, List.all_cons, List.all_nil, List.any_cons, List.any_nil, id_eq, List.set_cons_zero, List.set_cons_succ, List.getElem?_cons_zero, List.getElem?_cons_succ, List.getElem?_nil, List.getD_cons_zero, List.getD_cons_succ, decide_eq_true_eq, decide_eq_false_iff_not, Bool.not_eq_true', Bool.not_true, Bool.not_false, Bool.and_true, Bool.true_and, Bool.and_false, Bool.false_and, Bool.false_eq_true, if_true, if_false, reduceIte, ite_true, ite_false, true_and, and_true, reduceCtorEq, Int.toNat_zero, Int.toNat_one, Int.cast_ofNat_Int, Int.reduceLT, Int.reduceLE, Int.reduceNeg, Int.reduceToNat, Int.reducePow, Int.reduceMul, Int.reduceAdd, Int.reduceSub, decide_true, decide_false, sp__law_ratio]
    simp only [slash, emp, dot, dash, nou, one, tx_inj, reduceCtorEq, List.cons.injEq, Nat.reduceEqDiff, and_true, not_true_eq_false, not_false_eq_true, if_true, if_false]
    rw [if_neg (by omega), at0]
    simp only [st, iv, i1, tx_len, n1, t0, sl]
    generalize PySem.NumText.digitsVal (seg l b l.length) = V at *
    refine ⟨by omega, ?_⟩
    unfold sgn hD ivD at h
    by_cases b1 : b = 1
    · rw [if_pos (bel.mpr b1)]
      rw [if_pos b1] at h
      refine ⟨by omega, by omega, .left (by omega) (by omega), by omega, ⟨by decide, by decide, by decide⟩, fun q hq e _ _ => ?_⟩
      have := rt_eq (p := q) (q := (-(V : Int), 1)) hq ⟨Int.le_refl 1, Nat.gcd_one_right _, (by decide : (1 : Int) < 1606938044258990275541962092341162602522202993782792835301376)⟩ (by show q.1 * 1 = -(V : Int) * q.2; rw [e]; simp)
      subst this
      exact h
    · rw [if_neg (fun z => b1 (bel.mp z))]
      rw [if_neg b1] at h
      refine ⟨by omega, by omega, .left (by omega) (by omega), by omega, ⟨by decide, by decide, by decide⟩, fun q hq e _ _ => ?_⟩
      have := rt_eq (p := q) (q := ((V : Int), 1)) hq ⟨Int.le_refl 1, Nat.gcd_one_right _, (by decide : (1 : Int) < 1606938044258990275541962092341162602522202993782792835301376)⟩ (by show q.1 * 1 = (V : Int) * q.2; rw [e]; simp)
      subst this
      exact h
  | two h1 h2 h3 h4 h5 h6 h7 h8 h9 h10 =>
    rename_i p c
    have f := f_stop h8 h9
    have ed : p ≤ dend l b := by rw [← h2]; exact Nat.min_le_left _ _
    have e40 : p ≤ b + 40 := by rw [← h2]; exact Nat.min_le_right _ _
    have hd2 : l.length ≤ dend l (p + 1) := by rw [← h8]; exact dend_ge _ _
    rw [h2] at v1
    have st : Txt.replace (tx (l.take p)) (tx [45]) (tx []) = tx (seg l b p) := by rw [strk, strike_dig (l := l) (b := b) (p := p) hbe.symm ed (by omega)]
    have iv := int_seg (l := l) (b := b) (e := p) ed (by omega) (by omega) e40
    have sl := seg_len (l := l) (b := b) (e := p) (by omega) (by omega)
    have c1 : cutS (tx l) none (some (((p + 1 : Nat) : Int) - 1)) = tx (l.take p) := by
      rw [show ((p + 1 : Nat) : Int) - 1 = (p : Int) by omega]
      exact cut_to (by omega)
    have c2 : cutS (tx l) (some ((p + 1 : Nat) : Int)) none = tx (l.drop (p + 1)) := cut_on (by omega)
    have se := seg_end l (p + 1)
    have sl2 := seg_len (l := l) (b := p + 1) (e := l.length) (by omega) (Nat.le_refl _)
    have sdg := seg_dig hd2
    have lt : (l.take p).length = p := by rw [List.length_take]; omega
    have tn : ((l.length : Int) - ((p + 1 : Nat) : Int)).toNat = l.length - (p + 1) := by omega
    have t48 : (tx [48]).length = 1 := rfl
    have v2 : PySem.NumText.digitsVal (seg l (p + 1) l.length) < 10000000000000000000000000000000000000000 := by
      have := val40 (l := l) (b := p + 1) (by omega)
      rw [f] at this
      exact this
    rcases h1 with rfl | rfl
    · rw [par_slash h2 h3 h4 h5] at h
      have iv2 := int_seg (l := l) (b := p + 1) (e := l.length) hd2 (by omega) (Nat.le_refl _) h9
      simp (implicitDefEqProofs := false) (maxSteps := 3000000) only [gAddS, gMulS, gSlS, gIxS, cLenS, gInS, cStrI, cIntS, dJoin, gJ, dReplC, dZfill, strsOf, xaCons, xaNil, xExpr, xSeq, xIf, xRet, xRaise, xOf, xB, xBK, xAsg, xTry, xTryIs, xHeard, mD0, mD1, mD2, startD, List.map_cons, List.map_nil, List.length_cons, List.length_nil, List.replicate, List.cons_append, List.nil_append, Nat.reduceAdd, Nat.reduceSub, Nat.zero_add, dSeq, dIfS, dOr, dAnd, dNot, dTst, dOp, dUn, dVar, dC, dB, dBK, dCons, dNil, dTup, dLst, dRet, dRetN, dRetF, dRetO, dBO, dFr, dRepL, dCatL, dRev, dRevL, dSlO, dCatO, cSorted, SpO.sp, dNext, dNever, dAsg, dPar, dPar3, dParO, dIf, dAndV, dOrV, dNotV, dCh, dCt, cLast, cLink, tLast, tLink, dDrop, dFor, dBrk, dCnt, dOwn, dApp, dExt, dFree, gPutO, dIxO, dLend, dLendT, dLcF, gN, gTu, gCn, gNl, gP0, gP1, gII, gIIc, gAdd, gNeg, gIx, gEq, gNe, gIs, gIsNot, gIn, gNotIn, gSl, oNone, oSome, gMt, gIndex, cTuple, cList, cI1, cI2, cInt, cLen, cMax, cMin, cMaxT, cMinT, dAug, cAll, cAny, cRepr, cSqrt, cIsi, tyN, isNon, kb_tt, kb_ii, kb_ib, kb_bi, kb_bb, kb_it, kb_bt, kb_nt, kb_ni, kb_lt, kb_li, kb_ti, kb_si, kb_st, kb_ss, rd, dTru, dRgN, dEnum, gMulT, gDivN, gDivNB, gEqF, dCallV, spOf, atD, ordD, dSq, dZip, dZipM, dZip3, zipD3_map, gShl, dParOO, zipD_map, ivD, dRg1, dRg2, dLc, dYes, dLcGo, dGen, dGenGo, wipeD, boolsOf, intsOf, maxL, minL, noL, noLs, Option.map_some, Option.bind_some, List.all_cons, List.all_nil, List.any_cons, List.any_nil, id_eq, List.set_cons_zero, List.set_cons_succ, List.getElem?_cons_zero, List.getElem?_cons_succ, List.getElem?_nil, List.getD_cons_zero, List.getD_cons_succ, decide_eq_true_eq, decide_eq_false_iff_not, Bool.not_eq_true', Bool.not_true, Bool.not_false, Bool.and_true, Bool.true_and, Bool.and_false, Bool.false_and, Bool.false_eq_true, if_true, if_false, reduceIte, ite_true, ite_false, true_and, and_true, reduceCtorEq, Int.toNat_zero, Int.toNat_one, Int.cast_ofNat_Int, Int.reduceLT, Int.reduceLE, Int.reduceNeg, Int.reduceToNat, Int.reducePow, Int.reduceMul, Int.reduceAdd, Int.reduceSub, decide_true, decide_false, sp__law_ratio]
      simp only [slash, emp, dot, dash, nou, one, tx_inj, reduceCtorEq, List.cons.injEq, Nat.reduceEqDiff, and_true, not_true_eq_false, not_false_eq_true, if_true, if_false]
      rw [if_neg (by omega), at0]
      simp only [c1, c2, st, iv, rp, tn, tx_inj, tx_len, t0, t48, lt, sl]
      refine ⟨by omega, ⟨by omega, by omega, by omega⟩, ?_⟩
      have vz := val_zero _ _ sl2 sdg
      rw [se] at vz
      by_cases w : l.drop (p + 1) = List.replicate (l.length - (p + 1)) 48
      · rw [if_pos w]
        rw [un_end0 f (by omega) (h10 rfl) (by rw [se]; exact vz.mpr w)] at h
        exact ⟨by omega, h⟩
      rw [if_neg w]
      have v0 : PySem.NumText.digitsVal (l.drop (p + 1)) ≠ 0 := fun z => w (vz.mp z)
      rw [un_end f (by omega) (by rw [se]; exact v0)] at h
      rw [← se] at v0
      simp only [← se, iv2, tx_len, sl2]
      generalize PySem.NumText.digitsVal (seg l b p) = V at *
      generalize PySem.NumText.digitsVal (seg l (p + 1) l.length) = U at *
      refine ⟨by omega, by omega, ?_⟩
      unfold sgn hD ivD at h
      by_cases b1 : b = 1
      · rw [if_pos (bel.mpr b1)]
        rw [if_pos b1] at h
        refine ⟨by omega, by omega, by omega, .left (by omega) (by omega), by omega, ⟨by omega, by omega, by omega⟩, fun q hq e _ _ => ?_⟩
        have := low_is (n := -(V : Int)) (u := (U : Int)) (by omega) (by omega) hq (by rw [e]; simp)
        subst this
        exact h
      · rw [if_neg (fun z => b1 (bel.mp z))]
        rw [if_neg b1] at h
        refine ⟨by omega, by omega, by omega, .left (by omega) (by omega), by omega, ⟨by omega, by omega, by omega⟩, fun q hq e _ _ => ?_⟩
        have := low_is (n := (V : Int)) (u := (U : Int)) (by omega) (by omega) hq (by rw [e]; simp)
        subst this
        exact h
    · rw [par_dot h2 h3 h4 h5, ten_end f (by omega)] at h
      simp (implicitDefEqProofs := false) (maxSteps := 3000000) only [gAddS, gMulS, gSlS, gIxS, cLenS, gInS, cStrI, cIntS, dJoin, gJ, dReplC, dZfill, strsOf, xaCons, xaNil, xExpr, xSeq, xIf, xRet, xRaise, xOf, xB, xBK, xAsg, xTry, xTryIs, xHeard, mD0, mD1, mD2, startD, List.map_cons, List.map_nil, List.length_cons, List.length_nil, List.replicate, List.cons_append, List.nil_append, Nat.reduceAdd, Nat.reduceSub, Nat.zero_add, dSeq, dIfS, dOr, dAnd, dNot, dTst, dOp, dUn, dVar, dC, dB, dBK, dCons, dNil, dTup, dLst, dRet, dRetN, dRetF, dRetO, dBO, dFr, dRepL, dCatL, dRev, dRevL, dSlO, dCatO, cSorted, SpO.sp, dNext, dNever, dAsg, dPar, dPar3, dParO, dIf, dAndV, dOrV, dNotV, dCh, dCt, cLast, cLink, tLast, tLink, dDrop, dFor, dBrk, dCnt, dOwn, dApp, dExt, dFree, gPutO, dIxO, dLend, dLendT, dLcF, gN, gTu, gCn, gNl, gP0, gP1, gII, gIIc, gAdd, gNeg, gIx, gEq, gNe, gIs, gIsNot, gIn, gNotIn, gSl, oNone, oSome, gMt, gIndex, cTuple, cList, cI1, cI2, cInt, cLen, cMax, cMin, cMaxT, cMinT, dAug, cAll, cAny, cRepr, cSqrt, cIsi, tyN, isNon, kb_tt, kb_ii, kb_ib, kb_bi, kb_bb, kb_it, kb_bt, kb_nt, kb_ni, kb_lt, kb_li, kb_ti, kb_si, kb_st, kb_ss, rd, dTru, dRgN, dEnum, gMulT, gDivN, gDivNB, gEqF, dCallV, spOf, atD, ordD, dSq, dZip, dZipM, dZip3, zipD3_map, gShl, dParOO, zipD_map, ivD, dRg1, dRg2, dLc, dYes, dLcGo, dGen, dGenGo, wipeD, boolsOf, intsOf, maxL, minL, noL, noLs, Option.map_some, Option.bind_some, List.all_cons, List.all_nil, List.any_cons, List.any_nil, id_eq, List.set_cons_zero, List.set_cons_succ, List.getElem?_cons_zero, List.getElem?_cons_succ, List.getElem?_nil, List.getD_cons_zero, List.getD_cons_succ, decide_eq_true_eq, decide_eq_false_iff_not, Bool.not_eq_true', Bool.not_true, Bool.not_false, Bool.and_true, Bool.true_and, Bool.and_false, Bool.false_and, Bool.false_eq_true, if_true, if_false, reduceIte, ite_true, ite_false, true_and, and_true, reduceCtorEq, Int.toNat_zero, Int.toNat_one, Int.cast_ofNat_Int, Int.reduceLT, Int.reduceLE, Int.reduceNeg, Int.reduceToNat, Int.reducePow, Int.reduceMul, Int.reduceAdd, Int.reduceSub, decide_true, decide_false, sp__law_ratio]
      simp only [slash, emp, dot, dash, nou, one, tx_inj, reduceCtorEq, List.cons.injEq, Nat.reduceEqDiff, and_true, not_true_eq_false, not_false_eq_true, if_true, if_false]
      rw [if_neg (by omega), at0]
      have tV : ∀ V : Nat, Str.ofString (toString (V : Int)) = tx (dg V) := fun V => by
        have := nT_eq (V : Int)
        unfold sT nT at this
        rw [if_neg (by omega)] at this
        exact this
      have t1 : Str.ofString "1" = tx [49] := by decide +kernel
      have dl := dg40 v1
      have p40' : l.length - (p + 1) ≤ 40 := by omega
      have iv2 : intText? (tx (dg (PySem.NumText.digitsVal (seg l b p)) ++ seg l (p + 1) l.length)) = some ((PySem.NumText.digitsVal (seg l b p ++ seg l (p + 1) l.length) : Nat) : Int) := by
        have r := PySem.intText_digits (x := tx (dg (PySem.NumText.digitsVal (seg l b p)) ++ seg l (p + 1) l.length)) (dig_app (dg_dig _) sdg) (fun z => by
          have z' : dg (PySem.NumText.digitsVal (seg l b p)) ++ seg l (p + 1) l.length = [] := by simpa using z
          have z2 := congrArg List.length z'
          rw [List.length_append, sl2] at z2
          simp at z2
          omega) (by rw [tx_len, List.length_append, sl2]; omega)
        rw [r]
        refine congrArg (fun z : Nat => some (z : Int)) ?_
        show PySem.NumText.digitsVal (dg (PySem.NumText.digitsVal (seg l b p)) ++ seg l (p + 1) l.length) = _
        rw [val_app2, dg_val, ← val_app2]
      have it := int_tens p40'
      have pw : ((10 ^ (l.length - (p + 1)) : Nat) : Int) = (10 : Int) ^ (l.length - (p + 1)) := by simp
      rw [← pw] at h
      have pu : 10 ^ (l.length - (p + 1)) ≤ 10 ^ 40 := Nat.pow_le_pow_right (by decide) p40'
      have pp : 0 < 10 ^ (l.length - (p + 1)) := Nat.pow_pos (by decide)
      rw [p40] at pu
      simp only [c1, c2, st, iv, rp, tn, tx_inj, tx_len, t0, t48, lt, sl, ← se, sl2, tV, t1, tx_app, Int.toNat_natCast, List.length_append, List.length_replicate, List.length_cons, List.length_nil, List.cons_append, List.nil_append, iv2, it]
      generalize 10 ^ (l.length - (p + 1)) = U at *
      have vl : PySem.NumText.digitsVal (seg l b p) < 10000000000000000000000000000000000000000 := v1
      generalize PySem.NumText.digitsVal (seg l b p ++ seg l (p + 1) l.length) = W at *
      generalize PySem.NumText.digitsVal (seg l b p) = V at *
      refine ⟨by omega, by omega, ?_⟩
      unfold sgn hD ivD at h
      by_cases b1 : b = 1
      · rw [if_pos (bel.mpr b1)]
        rw [if_pos b1] at h
        refine ⟨by omega, by omega, by omega, small_log (by omega) (by omega), by omega, by omega, .left (by omega) (by omega), by omega, ⟨by omega, by omega, by omega⟩, by omega, by omega, ⟨by omega, by omega, by omega⟩, fun q hq e _ _ => ?_⟩
        have := low_is (n := -(W : Int)) (u := (U : Int)) (by omega) (by omega) hq (by rw [e]; simp)
        subst this
        exact h
      · rw [if_neg (fun z => b1 (bel.mp z))]
        rw [if_neg b1] at h
        refine ⟨by omega, by omega, by omega, small_log (by omega) (by omega), by omega, by omega, .left (by omega) (by omega), by omega, ⟨by omega, by omega, by omega⟩, by omega, by omega, ⟨by omega, by omega, by omega⟩, fun q hq e _ _ => ?_⟩
        have := low_is (n := (W : Int)) (u := (U : Int)) (by omega) (by omega) hq (by rw [e]; simp)
        subst this
        exact h
def sp__law_right : SpD :=
  fun ds R => match ds with
  | [.pot] => R (.bl true)
  | _ => False
set_option maxHeartbeats 0 in
theorem ok__law_right (T : Txt K mg) (D0 : Dfn K mg "_law_right" "_law_right" s__law_right ["pot"] []) (C__law_number : Cal P w K mg base tabs "_law_number" 4 1 ["pot"] [] sp__law_number) (C_ratio : Cal P w K mg base tabs "ratio" 3 2 ["number", "under"] [(["under", "number"], 0, [1, 0])] sp_ratio) (C__law_ratio : Cal P w K mg base tabs "_law_ratio" 2 2 ["number", "under"] [] sp__law_ratio) (C_parse_ratio : CalX P w K mg base tabs "parse_ratio" 5 1 ["text"] [(["text"], 0, [0])] sp_parse_ratio) (C_ratio_text : Cal P w K mg base tabs "ratio_text" 4 1 ["ratio"] [(["ratio"], 0, [0])] sp_ratio_text) (C__law_text : Cal P w K mg base tabs "_law_text" 1 1 ["told"] [] sp__law_text) (C__law_drawn_text : Cal P w K mg base tabs "_law_drawn_text" 5 1 ["pot"] [] sp__law_drawn_text) (C__law_heard : Cal P w K mg base tabs "_law_heard" 6 1 ["text"] [] sp__law_heard) (C__law_read : Cal P w K mg base tabs "_law_read" 3 1 ["text"] [] sp__law_read) : Cal P w K mg base tabs "_law_right" 7 1 ["pot"] [] sp__law_right := by
  refine cal_of D0 sc__law_right fun f cdv A outer s H E p ht hg hk hr => ⟨_, (pdss_cons (pds_for rfl PassesOwn.never (pdi_rg1 T.b_range (pda_cons pd_int pda_nil)) (pdg_name (i := 1) sc__law_right.nd rfl (Or.inl rfl)) (pdss_cons (pds_par (i := 2) (j := 3) rfl sc__law_right.nd rfl rfl (by decide) rfl rfl (pda_cons (pdcC (C__law_number.cal ht) hg hr (pda_cons (pd_var 0) pda_nil)) (pda_cons (pdcC (C__law_number.cal ht) hg hr (pda_cons (pd_var 0) pda_nil)) pda_nil)) (by rfl))
      (pdss_cons (pds_set (i := 3) sc__law_right.nd rfl (Or.inl rfl) (pd_ifx (pdt_cmp (opd_ne hr.units) (pd_var 3) pd_int) (pd_var 3) (pd_un und_neg pd_int)))
      (pdss_cons (pds_set (i := 4) sc__law_right.nd rfl (Or.inl rfl) (pdcC (C_ratio.cal ht) hg hr (pda_cons (pd_var 2) (pda_cons (pd_var 3) pda_nil))))
      (pdss_cons (pds_if (pdw_t (pdw_or (pdt_cmp (opd_ne hr.units) (pd_callB (cd_repr hg hr.units) rfl T.b_repr PyProof.Rows.boot_repr (pda_cons (pd_var 4) pda_nil)) (pd_callB (cd_repr hg hr.units) rfl T.b_repr PyProof.Rows.boot_repr (pda_cons (pdcC (C__law_ratio.cal ht) hg hr (pda_cons (pd_var 2) (pda_cons (pd_var 3) pda_nil))) pda_nil))) (pdw_or1 (pdt_cmp (opd_ne hr.units) (pdcCK0 (ks := ["under", "number"]) (perm := [1, 0]) (C_ratio.cal ht) hg hr (by decide) (pdk_cons (pd_var 3) (pdk_cons (pd_var 2) pdk_nil))) (pd_var 4))))) (pdss_one (pds_ret pd_bl)) pdss_nil)
      (pdss_one (pds_if (pdw_t (pdw_or (pdt_cmp (opd_ne hr.units) (pdcC (C_ratio_text.cal ht) hg hr (pda_cons (pd_var 4) pda_nil)) (pdcC (C__law_text.cal ht) hg hr (pda_cons (pd_var 4) pda_nil))) (pdw_or1 (pdt_cmp (opd_ne hr.units) (pd_ofX (pdxC (C_parse_ratio.cal ht) LamX.takes0 hg hr (pda_cons (pdcCK0 (ks := ["ratio"]) (perm := [0]) (C_ratio_text.cal ht) hg hr (by decide) (pdk_cons (pd_var 4) pdk_nil)) pda_nil))) (pd_var 4))))) (pdss_one (pds_ret pd_bl)) pdss_nil)))))))
      (pdss_cons (pds_for rfl PassesOwn.never (pdi_rg1 T.b_range (pda_cons pd_int pda_nil)) (pdg_name (i := 1) sc__law_right.nd rfl (Or.inl rfl)) (pdss_cons (pds_set (i := 5) sc__law_right.nd rfl (Or.inl rfl) (pdcC (C__law_drawn_text.cal ht) hg hr (pda_cons (pd_var 0) pda_nil)))
      (pdss_cons (pds_set (i := 6) sc__law_right.nd rfl (Or.inl rfl) (pdcC (C__law_heard.cal ht) hg hr (pda_cons (pd_var 5) pda_nil)))
      (pdss_cons (pds_if (pdt_cmp (opd_ne hr.units) (pd_callB (cd_repr hg hr.units) rfl T.b_repr PyProof.Rows.boot_repr (pda_cons (pd_var 6) pda_nil)) (pd_callB (cd_repr hg hr.units) rfl T.b_repr PyProof.Rows.boot_repr (pda_cons (pdcC (C__law_read.cal ht) hg hr (pda_cons (pd_var 5) pda_nil)) pda_nil))) (pdss_one (pds_ret pd_bl)) pdss_nil)
      (pdss_one (pds_if (pdw_t (pdw_and (pdt_cmp opd_isnot (pd_var 6) pd_non) (pdw_and (pdt_cmp opd_isnot (pd_ix (pd_var 6) pd_int) pd_non) (pdw_and1 (pdt_cmp (opd_ne hr.units) (pdcC (C_ratio_text.cal ht) hg hr (pda_cons (pd_ix (pd_var 6) pd_int) pda_nil)) (pdcC (C__law_text.cal ht) hg hr (pda_cons (pd_ix (pd_var 6) pd_int) pda_nil))))))) (pdss_one (pds_ret pd_bl)) pdss_nil))))))
      (pdss_one (pds_ret (pd_and (pd_cmp (opd_eq hr.units) (pdcC (C__law_heard.cal ht) hg hr (pda_cons pd_str pda_nil)) (pd_tup (pda_cons pd_non (pda_cons pd_int pda_nil)))) (pd_one (pd_cmp (opd_eq hr.units) (pdcC (C__law_heard.cal ht) hg hr (pda_cons pd_str pda_nil)) (pd_tup (pda_cons pd_non (pda_cons pd_int pda_nil)))))))))), ?_⟩
  intro ds R hl h; unfold sp__law_right at h; split at h
  all_goals (try exact False.elim h)
  all_goals clear hl hg hr hk ht
  refine seqFor ((List.range 4).map fun i : Nat => .int (i : Int)) (fun Q hQ => ?_) ?_
  · simp (implicitDefEqProofs := false) (maxSteps := 3000000) only [gAddS, gMulS, gSlS, gIxS, cLenS, gInS, cStrI, cIntS, dJoin, gJ, dReplC, dZfill, strsOf, xaCons, xaNil, xExpr, xSeq, xIf, xRet, xRaise, xOf, xB, xBK, xAsg, xTry, xTryIs, xHeard, mD0, mD1, mD2, startD, List.map_cons, List.map_nil, List.length_cons, List.length_nil, List.replicate, List.cons_append, List.nil_append, Nat.reduceAdd, Nat.reduceSub, Nat.zero_add, dSeq, dIfS, dOr, dAnd, dNot, dTst, dOp, dUn, dVar, dC, dB, dBK, dCons, dNil, dTup, dLst, dRet, dRetN, dRetF, dRetO, dBO, dFr, dRepL, dCatL, dRev, dRevL, dSlO, dCatO, cSorted, SpO.sp, dNext, dNever, dAsg, dPar, dPar3, dParO, dIf, dAndV, dOrV, dNotV, dCh, dCt, cLast, cLink, tLast, tLink, dDrop, dFor, dBrk, dCnt, dOwn, dApp, dExt, dFree, gPutO, dIxO, dLend, dLendT, dLcF, gN, gTu, gCn, gNl, gP0, gP1, gII, gIIc, gAdd, gNeg, gIx, gEq_nn, gEq_nb, gEq_ni, gEq_ns, gEq_nt, gEq_nl, gEq_bn, gEq_bb, gEq_bi, gEq_bs, gEq_bt, gEq_bl, gEq_in, gEq_ib, gEq_ii, gEq_is, gEq_it, gEq_il, gEq_sn, gEq_sb, gEq_si, gEq_ss, gEq_st, gEq_sl, gEq_tn, gEq_tb, gEq_ti, gEq_ts, gEq_tt, gEq_tl, gEq_ln, gEq_lb, gEq_li, gEq_ls, gEq_lt, gEq_ll, gNe_nn, gNe_nb, gNe_ni, gNe_ns, gNe_nt, gNe_nl, gNe_bn, gNe_bb, gNe_bi, gNe_bs, gNe_bt, gNe_bl, gNe_in, gNe_ib, gNe_ii, gNe_is, gNe_it, gNe_il, gNe_sn, gNe_sb, gNe_si, gNe_ss, gNe_st, gNe_sl, gNe_tn, gNe_tb, gNe_ti, gNe_ts, gNe_tt, gNe_tl, gNe_ln, gNe_lb, gNe_li, gNe_ls, gNe_lt, gNe_ll, gIs, gIsNot, gIn, gNotIn, gSl, oNone, oSome, gMt, gIndex, cTuple, cList, cI1, cI2, cInt, cLen, cMax, cMin, cMaxT, cMinT, dAug, cAll, cAny, cRepr, cSqrt, cIsi, tyN, isNon, kb_tt, kb_ii, kb_ib, kb_bi, kb_bb, kb_it, kb_bt, kb_nt, kb_ni, kb_lt, kb_li, kb_ti, kb_si, kb_st, kb_ss, rd, dTru, dRgN, dEnum, gMulT, gDivN, gDivNB, gEqF, dCallV, spOf, atD, ordD, dSq, dZip, dZipM, dZip3, zipD3_map, gShl, dParOO, zipD_map, ivD, dRg1, dRg2, dLc, dYes, dLcGo, dGen, dGenGo, wipeD, boolsOf, intsOf, maxL, minL, noL, noLs, Option.map_some, Option.bind_some, List.all_cons, List.all_nil, List.any_cons, List.any_nil, id_eq, List.set_cons_zero, List.set_cons_succ, List.getElem?_cons_zero, List.getElem?_cons_succ, List.getElem?_nil, List.getD_cons_zero, List.getD_cons_succ, decide_eq_true_eq, decide_eq_false_iff_not, Bool.not_eq_true', Bool.not_true, Bool.not_false, Bool.and_true, Bool.true_and, Bool.and_false, Bool.false_and, Bool.false_eq_true, if_true, if_false, reduceIte, ite_true, ite_false, true_and, and_true, reduceCtorEq, Int.toNat_zero, Int.toNat_one, Int.cast_ofNat_Int, Int.reduceLT, Int.reduceLE, Int.reduceNeg, Int.reduceToNat, Int.reducePow, Int.reduceMul, Int.reduceAdd, Int.reduceSub, decide_true, decide_false, sp__law_number, sp_ratio, sp__law_ratio, sp_parse_ratio, sp_ratio_text, sp__law_text, sp__law_drawn_text, sp__law_heard, sp__law_read]
    exact hQ
  refine forInv (fun i τ => ∃ o1 o2 o3 o4, τ = [some .pot, o1, o2, o3, o4, none, none]) _ _ ⟨none, none, none, none, rfl⟩ ?_ ?_
  · rintro k i x τ hx hk ⟨o1, o2, o3, o4, rfl⟩
    refine seqParP (fun x y => ∃ n u : Int, (-5497558138880000000 ≤ n ∧ n ≤ 5497558138880000000 ∧ -5497558138880000000 ≤ u ∧ u ≤ 5497558138880000000) ∧ x = .int n ∧ y = .int u) (fun Q hQ => ?_) ?_
    · simp (implicitDefEqProofs := false) (maxSteps := 3000000) only [gAddS, gMulS, gSlS, gIxS, cLenS, gInS, cStrI, cIntS, dJoin, gJ, dReplC, dZfill, strsOf, xaCons, xaNil, xExpr, xSeq, xIf, xRet, xRaise, xOf, xB, xBK, xAsg, xTry, xTryIs, xHeard, mD0, mD1, mD2, startD, List.map_cons, List.map_nil, List.length_cons, List.length_nil, List.replicate, List.cons_append, List.nil_append, Nat.reduceAdd, Nat.reduceSub, Nat.zero_add, dSeq, dIfS, dOr, dAnd, dNot, dTst, dOp, dUn, dVar, dC, dB, dBK, dCons, dNil, dTup, dLst, dRet, dRetN, dRetF, dRetO, dBO, dFr, dRepL, dCatL, dRev, dRevL, dSlO, dCatO, cSorted, SpO.sp, dNext, dNever, dAsg, dPar, dPar3, dParO, dIf, dAndV, dOrV, dNotV, dCh, dCt, cLast, cLink, tLast, tLink, dDrop, dFor, dBrk, dCnt, dOwn, dApp, dExt, dFree, gPutO, dIxO, dLend, dLendT, dLcF, gN, gTu, gCn, gNl, gP0, gP1, gII, gIIc, gAdd, gNeg, gIx, gEq_nn, gEq_nb, gEq_ni, gEq_ns, gEq_nt, gEq_nl, gEq_bn, gEq_bb, gEq_bi, gEq_bs, gEq_bt, gEq_bl, gEq_in, gEq_ib, gEq_ii, gEq_is, gEq_it, gEq_il, gEq_sn, gEq_sb, gEq_si, gEq_ss, gEq_st, gEq_sl, gEq_tn, gEq_tb, gEq_ti, gEq_ts, gEq_tt, gEq_tl, gEq_ln, gEq_lb, gEq_li, gEq_ls, gEq_lt, gEq_ll, gNe_nn, gNe_nb, gNe_ni, gNe_ns, gNe_nt, gNe_nl, gNe_bn, gNe_bb, gNe_bi, gNe_bs, gNe_bt, gNe_bl, gNe_in, gNe_ib, gNe_ii, gNe_is, gNe_it, gNe_il, gNe_sn, gNe_sb, gNe_si, gNe_ss, gNe_st, gNe_sl, gNe_tn, gNe_tb, gNe_ti, gNe_ts, gNe_tt, gNe_tl, gNe_ln, gNe_lb, gNe_li, gNe_ls, gNe_lt, gNe_ll, gIs, gIsNot, gIn, gNotIn, gSl, oNone, oSome, gMt, gIndex, cTuple, cList, cI1, cI2, cInt, cLen, cMax, cMin, cMaxT, cMinT, dAug, cAll, cAny, cRepr, cSqrt, cIsi, tyN, isNon, kb_tt, kb_ii, kb_ib, kb_bi, kb_bb, kb_it, kb_bt, kb_nt, kb_ni, kb_lt, kb_li, kb_ti, kb_si, kb_st, kb_ss, rd, dTru, dRgN, dEnum, gMulT, gDivN, gDivNB, gEqF, dCallV, spOf, atD, ordD, dSq, dZip, dZipM, dZip3, zipD3_map, gShl, dParOO, zipD_map, ivD, dRg1, dRg2, dLc, dYes, dLcGo, dGen, dGenGo, wipeD, boolsOf, intsOf, maxL, minL, noL, noLs, Option.map_some, Option.bind_some, List.all_cons, List.all_nil, List.any_cons, List.any_nil, id_eq, List.set_cons_zero, List.set_cons_succ, List.getElem?_cons_zero, List.getElem?_cons_succ, List.getElem?_nil, List.getD_cons_zero, List.getD_cons_succ, decide_eq_true_eq, decide_eq_false_iff_not, Bool.not_eq_true', Bool.not_true, Bool.not_false, Bool.and_true, Bool.true_and, Bool.and_false, Bool.false_and, Bool.false_eq_true, if_true, if_false, reduceIte, ite_true, ite_false, true_and, and_true, reduceCtorEq, Int.toNat_zero, Int.toNat_one, Int.cast_ofNat_Int, Int.reduceLT, Int.reduceLE, Int.reduceNeg, Int.reduceToNat, Int.reducePow, Int.reduceMul, Int.reduceAdd, Int.reduceSub, decide_true, decide_false, sp__law_number, sp_ratio, sp__law_ratio, sp_parse_ratio, sp_ratio_text, sp__law_text, sp__law_drawn_text, sp__law_heard, sp__law_read]
      intro n n1 n2 u u1 u2
      exact hQ _ _ ⟨n, u, ⟨n1, n2, u1, u2⟩, rfl, rfl⟩
    rintro _ _ ⟨n, u, ⟨n1, n2, u1, u2⟩, rfl, rfl⟩
    refine seqTo' (fun τ => ∃ u : Int, (u ≠ 0 ∧ -5497558138880000000 ≤ u ∧ u ≤ 5497558138880000000) ∧ τ = [some .pot, some x, some (.int n), some (.int u), o4, none, none]) (fun k hk => ?_) ?_
    · simp (implicitDefEqProofs := false) (maxSteps := 3000000) only [gAddS, gMulS, gSlS, gIxS, cLenS, gInS, cStrI, cIntS, dJoin, gJ, dReplC, dZfill, strsOf, xaCons, xaNil, xExpr, xSeq, xIf, xRet, xRaise, xOf, xB, xBK, xAsg, xTry, xTryIs, xHeard, mD0, mD1, mD2, startD, List.map_cons, List.map_nil, List.length_cons, List.length_nil, List.replicate, List.cons_append, List.nil_append, Nat.reduceAdd, Nat.reduceSub, Nat.zero_add, dSeq, dIfS, dOr, dAnd, dNot, dTst, dOp, dUn, dVar, dC, dB, dBK, dCons, dNil, dTup, dLst, dRet, dRetN, dRetF, dRetO, dBO, dFr, dRepL, dCatL, dRev, dRevL, dSlO, dCatO, cSorted, SpO.sp, dNext, dNever, dAsg, dPar, dPar3, dParO, dIf, dAndV, dOrV, dNotV, dCh, dCt, cLast, cLink, tLast, tLink, dDrop, dFor, dBrk, dCnt, dOwn, dApp, dExt, dFree, gPutO, dIxO, dLend, dLendT, dLcF, gN, gTu, gCn, gNl, gP0, gP1, gII, gIIc, gAdd, gNeg, gIx, gEq_nn, gEq_nb, gEq_ni, gEq_ns, gEq_nt, gEq_nl, gEq_bn, gEq_bb, gEq_bi, gEq_bs, gEq_bt, gEq_bl, gEq_in, gEq_ib, gEq_ii, gEq_is, gEq_it, gEq_il, gEq_sn, gEq_sb, gEq_si, gEq_ss, gEq_st, gEq_sl, gEq_tn, gEq_tb, gEq_ti, gEq_ts, gEq_tt, gEq_tl, gEq_ln, gEq_lb, gEq_li, gEq_ls, gEq_lt, gEq_ll, gNe_nn, gNe_nb, gNe_ni, gNe_ns, gNe_nt, gNe_nl, gNe_bn, gNe_bb, gNe_bi, gNe_bs, gNe_bt, gNe_bl, gNe_in, gNe_ib, gNe_ii, gNe_is, gNe_it, gNe_il, gNe_sn, gNe_sb, gNe_si, gNe_ss, gNe_st, gNe_sl, gNe_tn, gNe_tb, gNe_ti, gNe_ts, gNe_tt, gNe_tl, gNe_ln, gNe_lb, gNe_li, gNe_ls, gNe_lt, gNe_ll, gIs, gIsNot, gIn, gNotIn, gSl, oNone, oSome, gMt, gIndex, cTuple, cList, cI1, cI2, cInt, cLen, cMax, cMin, cMaxT, cMinT, dAug, cAll, cAny, cRepr, cSqrt, cIsi, tyN, isNon, kb_tt, kb_ii, kb_ib, kb_bi, kb_bb, kb_it, kb_bt, kb_nt, kb_ni, kb_lt, kb_li, kb_ti, kb_si, kb_st, kb_ss, rd, dTru, dRgN, dEnum, gMulT, gDivN, gDivNB, gEqF, dCallV, spOf, atD, ordD, dSq, dZip, dZipM, dZip3, zipD3_map, gShl, dParOO, zipD_map, ivD, dRg1, dRg2, dLc, dYes, dLcGo, dGen, dGenGo, wipeD, boolsOf, intsOf, maxL, minL, noL, noLs, Option.map_some, Option.bind_some, List.all_cons, List.all_nil, List.any_cons, List.any_nil, id_eq, List.set_cons_zero, List.set_cons_succ, List.getElem?_cons_zero, List.getElem?_cons_succ, List.getElem?_nil, List.getD_cons_zero, List.getD_cons_succ, decide_eq_true_eq, decide_eq_false_iff_not, Bool.not_eq_true', Bool.not_true, Bool.not_false, Bool.and_true, Bool.true_and, Bool.and_false, Bool.false_and, Bool.false_eq_true, if_true, if_false, reduceIte, ite_true, ite_false, true_and, and_true, reduceCtorEq, Int.toNat_zero, Int.toNat_one, Int.cast_ofNat_Int, Int.reduceLT, Int.reduceLE, Int.reduceNeg, Int.reduceToNat, Int.reducePow, Int.reduceMul, Int.reduceAdd, Int.reduceSub, decide_true, decide_false, sp__law_number, sp_ratio, sp__law_ratio, sp_parse_ratio, sp_ratio_text, sp__law_text, sp__law_drawn_text, sp__law_heard, sp__law_read]
      by_cases c : u = 0
      · rw [if_neg (by omega)]
        exact hk _ ⟨-7, by omega, rfl⟩
      · rw [if_pos c]
        exact hk _ ⟨u, by omega, rfl⟩
    rintro _ ⟨u, ⟨u0, u1, u2⟩, rfl⟩
    have lo := lowF_ok (n := if u < 0 then -n else n) (u := if u < 0 then -u else u) (by split <;> omega) (by split <;> omega)
    have un : ∀ q : Int × Int, Rt q → q.1 * u = n * q.2 → q = lowF (if u < 0 then -n else n) (if u < 0 then -u else u) := fun q hq e => low_is (by split <;> omega) (by split <;> omega) hq (by
      split
      · rw [Int.mul_neg, Int.neg_mul, e]
      · exact e)
    generalize hT : lowF (if u < 0 then -n else n) (if u < 0 then -u else u) = V at *
    have d0 := lo.1.pos
    have bn : V.1.natAbs ≤ 5497558138880000000 := by have := lo.2.2.2; split at this <;> omega
    have bd : V.2 ≤ 5497558138880000000 := by have := lo.2.2.1; split at this <;> omega
    refine seqAsg (ivD V) (fun Q hQ => ?_) ?_
    · simp (implicitDefEqProofs := false) (maxSteps := 3000000) only [gAddS, gMulS, gSlS, gIxS, cLenS, gInS, cStrI, cIntS, dJoin, gJ, dReplC, dZfill, strsOf, xaCons, xaNil, xExpr, xSeq, xIf, xRet, xRaise, xOf, xB, xBK, xAsg, xTry, xTryIs, xHeard, mD0, mD1, mD2, startD, List.map_cons, List.map_nil, List.length_cons, List.length_nil, List.replicate, List.cons_append, List.nil_append, Nat.reduceAdd, Nat.reduceSub, Nat.zero_add, dSeq, dIfS, dOr, dAnd, dNot, dTst, dOp, dUn, dVar, dC, dB, dBK, dCons, dNil, dTup, dLst, dRet, dRetN, dRetF, dRetO, dBO, dFr, dRepL, dCatL, dRev, dRevL, dSlO, dCatO, cSorted, SpO.sp, dNext, dNever, dAsg, dPar, dPar3, dParO, dIf, dAndV, dOrV, dNotV, dCh, dCt, cLast, cLink, tLast, tLink, dDrop, dFor, dBrk, dCnt, dOwn, dApp, dExt, dFree, gPutO, dIxO, dLend, dLendT, dLcF, gN, gTu, gCn, gNl, gP0, gP1, gII, gIIc, gAdd, gNeg, gIx, gEq_nn, gEq_nb, gEq_ni, gEq_ns, gEq_nt, gEq_nl, gEq_bn, gEq_bb, gEq_bi, gEq_bs, gEq_bt, gEq_bl, gEq_in, gEq_ib, gEq_ii, gEq_is, gEq_it, gEq_il, gEq_sn, gEq_sb, gEq_si, gEq_ss, gEq_st, gEq_sl, gEq_tn, gEq_tb, gEq_ti, gEq_ts, gEq_tt, gEq_tl, gEq_ln, gEq_lb, gEq_li, gEq_ls, gEq_lt, gEq_ll, gNe_nn, gNe_nb, gNe_ni, gNe_ns, gNe_nt, gNe_nl, gNe_bn, gNe_bb, gNe_bi, gNe_bs, gNe_bt, gNe_bl, gNe_in, gNe_ib, gNe_ii, gNe_is, gNe_it, gNe_il, gNe_sn, gNe_sb, gNe_si, gNe_ss, gNe_st, gNe_sl, gNe_tn, gNe_tb, gNe_ti, gNe_ts, gNe_tt, gNe_tl, gNe_ln, gNe_lb, gNe_li, gNe_ls, gNe_lt, gNe_ll, gIs, gIsNot, gIn, gNotIn, gSl, oNone, oSome, gMt, gIndex, cTuple, cList, cI1, cI2, cInt, cLen, cMax, cMin, cMaxT, cMinT, dAug, cAll, cAny, cRepr, cSqrt, cIsi, tyN, isNon, kb_tt, kb_ii, kb_ib, kb_bi, kb_bb, kb_it, kb_bt, kb_nt, kb_ni, kb_lt, kb_li, kb_ti, kb_si, kb_st, kb_ss, rd, dTru, dRgN, dEnum, gMulT, gDivN, gDivNB, gEqF, dCallV, spOf, atD, ordD, dSq, dZip, dZipM, dZip3, zipD3_map, gShl, dParOO, zipD_map, ivD, dRg1, dRg2, dLc, dYes, dLcGo, dGen, dGenGo, wipeD, boolsOf, intsOf, maxL, minL, noL, noLs, Option.map_some, Option.bind_some, List.all_cons, List.all_nil, List.any_cons, List.any_nil, id_eq, List.set_cons_zero, List.set_cons_succ, List.getElem?_cons_zero, List.getElem?_cons_succ, List.getElem?_nil, List.getD_cons_zero, List.getD_cons_succ, decide_eq_true_eq, decide_eq_false_iff_not, Bool.not_eq_true', Bool.not_true, Bool.not_false, Bool.and_true, Bool.true_and, Bool.and_false, Bool.false_and, Bool.false_eq_true, if_true, if_false, reduceIte, ite_true, ite_false, true_and, and_true, reduceCtorEq, Int.toNat_zero, Int.toNat_one, Int.cast_ofNat_Int, Int.reduceLT, Int.reduceLE, Int.reduceNeg, Int.reduceToNat, Int.reducePow, Int.reduceMul, Int.reduceAdd, Int.reduceSub, decide_true, decide_false, sp__law_number, sp_ratio, sp__law_ratio, sp_parse_ratio, sp_ratio_text, sp__law_text, sp__law_drawn_text, sp__law_heard, sp__law_read]
      rw [hT]
      exact ⟨by omega, hQ⟩
    have ok : okR (ivD V) := ⟨rfl, ⟨small_log (by omega) (by omega), small_log (by omega) (by omega), trivial⟩, (show 3 ≤ _ by decide)⟩
    have rf : PyData.eqv (toP (ivD V)) (toP (ivD V)) = true := eqv_self rfl
    refine seqIf false (fun Q hQ => ?_) ?_
    · simp (implicitDefEqProofs := false) (maxSteps := 3000000) only [gAddS, gMulS, gSlS, gIxS, cLenS, gInS, cStrI, cIntS, dJoin, gJ, dReplC, dZfill, strsOf, xaCons, xaNil, xExpr, xSeq, xIf, xRet, xRaise, xOf, xB, xBK, xAsg, xTry, xTryIs, xHeard, mD0, mD1, mD2, startD, List.map_cons, List.map_nil, List.length_cons, List.length_nil, List.replicate, List.cons_append, List.nil_append, Nat.reduceAdd, Nat.reduceSub, Nat.zero_add, dSeq, dIfS, dOr, dAnd, dNot, dTst, dOp, dUn, dVar, dC, dB, dBK, dCons, dNil, dTup, dLst, dRet, dRetN, dRetF, dRetO, dBO, dFr, dRepL, dCatL, dRev, dRevL, dSlO, dCatO, cSorted, SpO.sp, dNext, dNever, dAsg, dPar, dPar3, dParO, dIf, dAndV, dOrV, dNotV, dCh, dCt, cLast, cLink, tLast, tLink, dDrop, dFor, dBrk, dCnt, dOwn, dApp, dExt, dFree, gPutO, dIxO, dLend, dLendT, dLcF, gN, gTu, gCn, gNl, gP0, gP1, gII, gIIc, gAdd, gNeg, gIx, gEq_nn, gEq_nb, gEq_ni, gEq_ns, gEq_nt, gEq_nl, gEq_bn, gEq_bb, gEq_bi, gEq_bs, gEq_bt, gEq_bl, gEq_in, gEq_ib, gEq_ii, gEq_is, gEq_it, gEq_il, gEq_sn, gEq_sb, gEq_si, gEq_ss, gEq_st, gEq_sl, gEq_tn, gEq_tb, gEq_ti, gEq_ts, gEq_tt, gEq_tl, gEq_ln, gEq_lb, gEq_li, gEq_ls, gEq_lt, gEq_ll, gNe_nn, gNe_nb, gNe_ni, gNe_ns, gNe_nt, gNe_nl, gNe_bn, gNe_bb, gNe_bi, gNe_bs, gNe_bt, gNe_bl, gNe_in, gNe_ib, gNe_ii, gNe_is, gNe_it, gNe_il, gNe_sn, gNe_sb, gNe_si, gNe_ss, gNe_st, gNe_sl, gNe_tn, gNe_tb, gNe_ti, gNe_ts, gNe_tt, gNe_tl, gNe_ln, gNe_lb, gNe_li, gNe_ls, gNe_lt, gNe_ll, gIs, gIsNot, gIn, gNotIn, gSl, oNone, oSome, gMt, gIndex, cTuple, cList, cI1, cI2, cInt, cLen, cMax, cMin, cMaxT, cMinT, dAug, cAll, cAny, cRepr, cSqrt, cIsi, tyN, isNon, kb_tt, kb_ii, kb_ib, kb_bi, kb_bb, kb_it, kb_bt, kb_nt, kb_ni, kb_lt, kb_li, kb_ti, kb_si, kb_st, kb_ss, rd, dTru, dRgN, dEnum, gMulT, gDivN, gDivNB, gEqF, dCallV, spOf, atD, ordD, dSq, dZip, dZipM, dZip3, zipD3_map, gShl, dParOO, zipD_map, ivD, dRg1, dRg2, dLc, dYes, dLcGo, dGen, dGenGo, wipeD, boolsOf, intsOf, maxL, minL, noL, noLs, Option.map_some, Option.bind_some, List.all_cons, List.all_nil, List.any_cons, List.any_nil, id_eq, List.set_cons_zero, List.set_cons_succ, List.getElem?_cons_zero, List.getElem?_cons_succ, List.getElem?_nil, List.getD_cons_zero, List.getD_cons_succ, decide_eq_true_eq, decide_eq_false_iff_not, Bool.not_eq_true', Bool.not_true, Bool.not_false, Bool.and_true, Bool.true_and, Bool.and_false, Bool.false_and, Bool.false_eq_true, if_true, if_false, reduceIte, ite_true, ite_false, true_and, and_true, reduceCtorEq, Int.toNat_zero, Int.toNat_one, Int.cast_ofNat_Int, Int.reduceLT, Int.reduceLE, Int.reduceNeg, Int.reduceToNat, Int.reducePow, Int.reduceMul, Int.reduceAdd, Int.reduceSub, decide_true, decide_false, sp__law_number, sp_ratio, sp__law_ratio, sp_parse_ratio, sp_ratio_text, sp__law_text, sp__law_drawn_text, sp__law_heard, sp__law_read]
      refine ⟨ok, ⟨by omega, by omega, by omega⟩, fun q hq e _ _ => ?_⟩
      rw [un q hq e]
      refine ⟨ok, ?_⟩
      rw [if_neg (fun z => z rfl), hT]
      refine ⟨⟨by omega, by omega, by omega, by omega, by omega⟩, ⟨rfl, rfl⟩, ?_⟩
      have rf' : (toP (D.tup [D.int V.1, D.int V.2])).eqv (toP (D.tup [D.int V.1, D.int V.2])) = true := rf
      rw [rf']
      exact hQ
    rw [if_neg Bool.false_ne_true]
    refine ofNext ?_
    refine lastIf false (fun Q hQ => ?_) ?_
    · simp (implicitDefEqProofs := false) (maxSteps := 3000000) only [gAddS, gMulS, gSlS, gIxS, cLenS, gInS, cStrI, cIntS, dJoin, gJ, dReplC, dZfill, strsOf, xaCons, xaNil, xExpr, xSeq, xIf, xRet, xRaise, xOf, xB, xBK, xAsg, xTry, xTryIs, xHeard, mD0, mD1, mD2, startD, List.map_cons, List.map_nil, List.length_cons, List.length_nil, List.replicate, List.cons_append, List.nil_append, Nat.reduceAdd, Nat.reduceSub, Nat.zero_add, dSeq, dIfS, dOr, dAnd, dNot, dTst, dOp, dUn, dVar, dC, dB, dBK, dCons, dNil, dTup, dLst, dRet, dRetN, dRetF, dRetO, dBO, dFr, dRepL, dCatL, dRev, dRevL, dSlO, dCatO, cSorted, SpO.sp, dNext, dNever, dAsg, dPar, dPar3, dParO, dIf, dAndV, dOrV, dNotV, dCh, dCt, cLast, cLink, tLast, tLink, dDrop, dFor, dBrk, dCnt, dOwn, dApp, dExt, dFree, gPutO, dIxO, dLend, dLendT, dLcF, gN, gTu, gCn, gNl, gP0, gP1, gII, gIIc, gAdd, gNeg, gIx, gEq_nn, gEq_nb, gEq_ni, gEq_ns, gEq_nt, gEq_nl, gEq_bn, gEq_bb, gEq_bi, gEq_bs, gEq_bt, gEq_bl, gEq_in, gEq_ib, gEq_ii, gEq_is, gEq_it, gEq_il, gEq_sn, gEq_sb, gEq_si, gEq_ss, gEq_st, gEq_sl, gEq_tn, gEq_tb, gEq_ti, gEq_ts, gEq_tt, gEq_tl, gEq_ln, gEq_lb, gEq_li, gEq_ls, gEq_lt, gEq_ll, gNe_nn, gNe_nb, gNe_ni, gNe_ns, gNe_nt, gNe_nl, gNe_bn, gNe_bb, gNe_bi, gNe_bs, gNe_bt, gNe_bl, gNe_in, gNe_ib, gNe_ii, gNe_is, gNe_it, gNe_il, gNe_sn, gNe_sb, gNe_si, gNe_ss, gNe_st, gNe_sl, gNe_tn, gNe_tb, gNe_ti, gNe_ts, gNe_tt, gNe_tl, gNe_ln, gNe_lb, gNe_li, gNe_ls, gNe_lt, gNe_ll, gIs, gIsNot, gIn, gNotIn, gSl, oNone, oSome, gMt, gIndex, cTuple, cList, cI1, cI2, cInt, cLen, cMax, cMin, cMaxT, cMinT, dAug, cAll, cAny, cRepr, cSqrt, cIsi, tyN, isNon, kb_tt, kb_ii, kb_ib, kb_bi, kb_bb, kb_it, kb_bt, kb_nt, kb_ni, kb_lt, kb_li, kb_ti, kb_si, kb_st, kb_ss, rd, dTru, dRgN, dEnum, gMulT, gDivN, gDivNB, gEqF, dCallV, spOf, atD, ordD, dSq, dZip, dZipM, dZip3, zipD3_map, gShl, dParOO, zipD_map, ivD, dRg1, dRg2, dLc, dYes, dLcGo, dGen, dGenGo, wipeD, boolsOf, intsOf, maxL, minL, noL, noLs, Option.map_some, Option.bind_some, List.all_cons, List.all_nil, List.any_cons, List.any_nil, id_eq, List.set_cons_zero, List.set_cons_succ, List.getElem?_cons_zero, List.getElem?_cons_succ, List.getElem?_nil, List.getD_cons_zero, List.getD_cons_succ, decide_eq_true_eq, decide_eq_false_iff_not, Bool.not_eq_true', Bool.not_true, Bool.not_false, Bool.and_true, Bool.true_and, Bool.and_false, Bool.false_and, Bool.false_eq_true, if_true, if_false, reduceIte, ite_true, ite_false, true_and, and_true, reduceCtorEq, Int.toNat_zero, Int.toNat_one, Int.cast_ofNat_Int, Int.reduceLT, Int.reduceLE, Int.reduceNeg, Int.reduceToNat, Int.reducePow, Int.reduceMul, Int.reduceAdd, Int.reduceSub, decide_true, decide_false, sp__law_number, sp_ratio, sp__law_ratio, sp_parse_ratio, sp_ratio_text, sp__law_text, sp__law_drawn_text, sp__law_heard, sp__law_read]
      have rd : Rt (V.1, V.2) := lo.1
      have pt := par_text rd (by omega) (by omega) (by omega)
      refine ⟨⟨rd, by omega, by omega, by omega⟩, ⟨by omega, by omega, by omega, by omega⟩, ?_⟩
      have l1 := sT120 (n := V.1) (by omega) (by omega)
      have l2 := sT120 (n := V.2) (by omega) (by omega)
      refine ⟨⟨rd, by omega, by omega, by omega⟩, rT (V.1, V.2), rfl, ?_, ?_⟩
      · unfold rT
        split
        · show (sT V.1).length ≤ _
          omega
        · simp only [List.length_append, List.length_cons, List.length_nil]
          omega
      · rw [pt]
        have rf' : (toP (D.tup [D.int V.1, D.int V.2])).eqv (toP (D.tup [D.int V.1, D.int V.2])) = true := rf
        show (shp 60 (ivD (V.1, V.2)) = true ∧ _) ∧ _
        refine ⟨⟨rfl, rfl⟩, ?_⟩
        show Q !(toP (D.tup [D.int V.1, D.int V.2])).eqv (toP (D.tup [D.int V.1, D.int V.2]))
        rw [rf']
        exact hQ
    rw [if_neg Bool.false_ne_true]
    exact lastNext (hk _ ⟨_, _, _, _, rfl⟩)
  · rintro τ ⟨o1, o2, o3, o4, rfl⟩
    refine finNext ?_
    refine seqFor ((List.range 12).map fun i : Nat => .int (i : Int)) (fun Q hQ => ?_) ?_
    · simp (implicitDefEqProofs := false) (maxSteps := 3000000) only [gAddS, gMulS, gSlS, gIxS, cLenS, gInS, cStrI, cIntS, dJoin, gJ, dReplC, dZfill, strsOf, xaCons, xaNil, xExpr, xSeq, xIf, xRet, xRaise, xOf, xB, xBK, xAsg, xTry, xTryIs, xHeard, mD0, mD1, mD2, startD, List.map_cons, List.map_nil, List.length_cons, List.length_nil, List.replicate, List.cons_append, List.nil_append, Nat.reduceAdd, Nat.reduceSub, Nat.zero_add, dSeq, dIfS, dOr, dAnd, dNot, dTst, dOp, dUn, dVar, dC, dB, dBK, dCons, dNil, dTup, dLst, dRet, dRetN, dRetF, dRetO, dBO, dFr, dRepL, dCatL, dRev, dRevL, dSlO, dCatO, cSorted, SpO.sp, dNext, dNever, dAsg, dPar, dPar3, dParO, dIf, dAndV, dOrV, dNotV, dCh, dCt, cLast, cLink, tLast, tLink, dDrop, dFor, dBrk, dCnt, dOwn, dApp, dExt, dFree, gPutO, dIxO, dLend, dLendT, dLcF, gN, gTu, gCn, gNl, gP0, gP1, gII, gIIc, gAdd, gNeg, gIx, gEq_nn, gEq_nb, gEq_ni, gEq_ns, gEq_nt, gEq_nl, gEq_bn, gEq_bb, gEq_bi, gEq_bs, gEq_bt, gEq_bl, gEq_in, gEq_ib, gEq_ii, gEq_is, gEq_it, gEq_il, gEq_sn, gEq_sb, gEq_si, gEq_ss, gEq_st, gEq_sl, gEq_tn, gEq_tb, gEq_ti, gEq_ts, gEq_tt, gEq_tl, gEq_ln, gEq_lb, gEq_li, gEq_ls, gEq_lt, gEq_ll, gNe_nn, gNe_nb, gNe_ni, gNe_ns, gNe_nt, gNe_nl, gNe_bn, gNe_bb, gNe_bi, gNe_bs, gNe_bt, gNe_bl, gNe_in, gNe_ib, gNe_ii, gNe_is, gNe_it, gNe_il, gNe_sn, gNe_sb, gNe_si, gNe_ss, gNe_st, gNe_sl, gNe_tn, gNe_tb, gNe_ti, gNe_ts, gNe_tt, gNe_tl, gNe_ln, gNe_lb, gNe_li, gNe_ls, gNe_lt, gNe_ll, gIs, gIsNot, gIn, gNotIn, gSl, oNone, oSome, gMt, gIndex, cTuple, cList, cI1, cI2, cInt, cLen, cMax, cMin, cMaxT, cMinT, dAug, cAll, cAny, cRepr, cSqrt, cIsi, tyN, isNon, kb_tt, kb_ii, kb_ib, kb_bi, kb_bb, kb_it, kb_bt, kb_nt, kb_ni, kb_lt, kb_li, kb_ti, kb_si, kb_st, kb_ss, rd, dTru, dRgN, dEnum, gMulT, gDivN, gDivNB, gEqF, dCallV, spOf, atD, ordD, dSq, dZip, dZipM, dZip3, zipD3_map, gShl, dParOO, zipD_map, ivD, dRg1, dRg2, dLc, dYes, dLcGo, dGen, dGenGo, wipeD, boolsOf, intsOf, maxL, minL, noL, noLs, Option.map_some, Option.bind_some, List.all_cons, List.all_nil, List.any_cons, List.any_nil, id_eq, List.set_cons_zero, List.set_cons_succ, List.getElem?_cons_zero, List.getElem?_cons_succ, List.getElem?_nil, List.getD_cons_zero, List.getD_cons_succ, decide_eq_true_eq, decide_eq_false_iff_not, Bool.not_eq_true', Bool.not_true, Bool.not_false, Bool.and_true, Bool.true_and, Bool.and_false, Bool.false_and, Bool.false_eq_true, if_true, if_false, reduceIte, ite_true, ite_false, true_and, and_true, reduceCtorEq, Int.toNat_zero, Int.toNat_one, Int.cast_ofNat_Int, Int.reduceLT, Int.reduceLE, Int.reduceNeg, Int.reduceToNat, Int.reducePow, Int.reduceMul, Int.reduceAdd, Int.reduceSub, decide_true, decide_false, sp__law_number, sp_ratio, sp__law_ratio, sp_parse_ratio, sp_ratio_text, sp__law_text, sp__law_drawn_text, sp__law_heard, sp__law_read]
      exact hQ
    refine forInv (fun i τ => ∃ o1 o2 o3 o4 o5 o6, τ = [some .pot, o1, o2, o3, o4, o5, o6]) _ _ ⟨_, _, _, _, none, none, rfl⟩ ?_ ?_
    · rintro k i x τ hx hk ⟨o1, o2, o3, o4, o5, o6, rfl⟩
      refine seqAsgP (fun d => ∃ s : Str, s.length ≤ 250 ∧ d = .str s) (fun Q hQ => ?_) ?_
      · simp (implicitDefEqProofs := false) (maxSteps := 3000000) only [gAddS, gMulS, gSlS, gIxS, cLenS, gInS, cStrI, cIntS, dJoin, gJ, dReplC, dZfill, strsOf, xaCons, xaNil, xExpr, xSeq, xIf, xRet, xRaise, xOf, xB, xBK, xAsg, xTry, xTryIs, xHeard, mD0, mD1, mD2, startD, List.map_cons, List.map_nil, List.length_cons, List.length_nil, List.replicate, List.cons_append, List.nil_append, Nat.reduceAdd, Nat.reduceSub, Nat.zero_add, dSeq, dIfS, dOr, dAnd, dNot, dTst, dOp, dUn, dVar, dC, dB, dBK, dCons, dNil, dTup, dLst, dRet, dRetN, dRetF, dRetO, dBO, dFr, dRepL, dCatL, dRev, dRevL, dSlO, dCatO, cSorted, SpO.sp, dNext, dNever, dAsg, dPar, dPar3, dParO, dIf, dAndV, dOrV, dNotV, dCh, dCt, cLast, cLink, tLast, tLink, dDrop, dFor, dBrk, dCnt, dOwn, dApp, dExt, dFree, gPutO, dIxO, dLend, dLendT, dLcF, gN, gTu, gCn, gNl, gP0, gP1, gII, gIIc, gAdd, gNeg, gIx, gEq_nn, gEq_nb, gEq_ni, gEq_ns, gEq_nt, gEq_nl, gEq_bn, gEq_bb, gEq_bi, gEq_bs, gEq_bt, gEq_bl, gEq_in, gEq_ib, gEq_ii, gEq_is, gEq_it, gEq_il, gEq_sn, gEq_sb, gEq_si, gEq_ss, gEq_st, gEq_sl, gEq_tn, gEq_tb, gEq_ti, gEq_ts, gEq_tt, gEq_tl, gEq_ln, gEq_lb, gEq_li, gEq_ls, gEq_lt, gEq_ll, gNe_nn, gNe_nb, gNe_ni, gNe_ns, gNe_nt, gNe_nl, gNe_bn, gNe_bb, gNe_bi, gNe_bs, gNe_bt, gNe_bl, gNe_in, gNe_ib, gNe_ii, gNe_is, gNe_it, gNe_il, gNe_sn, gNe_sb, gNe_si, gNe_ss, gNe_st, gNe_sl, gNe_tn, gNe_tb, gNe_ti, gNe_ts, gNe_tt, gNe_tl, gNe_ln, gNe_lb, gNe_li, gNe_ls, gNe_lt, gNe_ll, gIs, gIsNot, gIn, gNotIn, gSl, oNone, oSome, gMt, gIndex, cTuple, cList, cI1, cI2, cInt, cLen, cMax, cMin, cMaxT, cMinT, dAug, cAll, cAny, cRepr, cSqrt, cIsi, tyN, isNon, kb_tt, kb_ii, kb_ib, kb_bi, kb_bb, kb_it, kb_bt, kb_nt, kb_ni, kb_lt, kb_li, kb_ti, kb_si, kb_st, kb_ss, rd, dTru, dRgN, dEnum, gMulT, gDivN, gDivNB, gEqF, dCallV, spOf, atD, ordD, dSq, dZip, dZipM, dZip3, zipD3_map, gShl, dParOO, zipD_map, ivD, dRg1, dRg2, dLc, dYes, dLcGo, dGen, dGenGo, wipeD, boolsOf, intsOf, maxL, minL, noL, noLs, Option.map_some, Option.bind_some, List.all_cons, List.all_nil, List.any_cons, List.any_nil, id_eq, List.set_cons_zero, List.set_cons_succ, List.getElem?_cons_zero, List.getElem?_cons_succ, List.getElem?_nil, List.getD_cons_zero, List.getD_cons_succ, decide_eq_true_eq, decide_eq_false_iff_not, Bool.not_eq_true', Bool.not_true, Bool.not_false, Bool.and_true, Bool.true_and, Bool.and_false, Bool.false_and, Bool.false_eq_true, if_true, if_false, reduceIte, ite_true, ite_false, true_and, and_true, reduceCtorEq, Int.toNat_zero, Int.toNat_one, Int.cast_ofNat_Int, Int.reduceLT, Int.reduceLE, Int.reduceNeg, Int.reduceToNat, Int.reducePow, Int.reduceMul, Int.reduceAdd, Int.reduceSub, decide_true, decide_false, sp__law_number, sp_ratio, sp__law_ratio, sp_parse_ratio, sp_ratio_text, sp__law_text, sp__law_drawn_text, sp__law_heard, sp__law_read]
        intro s hs
        exact hQ _ ⟨s, hs, rfl⟩
      rintro _ ⟨s, hs, rfl⟩
      obtain ⟨l, rfl⟩ : ∃ l, s = tx l := ⟨_, tx_list s⟩
      rw [tx_len] at hs
      refine seqAsg (hearD l) (fun Q hQ => ?_) ?_
      · simp (implicitDefEqProofs := false) (maxSteps := 3000000) only [gAddS, gMulS, gSlS, gIxS, cLenS, gInS, cStrI, cIntS, dJoin, gJ, dReplC, dZfill, strsOf, xaCons, xaNil, xExpr, xSeq, xIf, xRet, xRaise, xOf, xB, xBK, xAsg, xTry, xTryIs, xHeard, mD0, mD1, mD2, startD, List.map_cons, List.map_nil, List.length_cons, List.length_nil, List.replicate, List.cons_append, List.nil_append, Nat.reduceAdd, Nat.reduceSub, Nat.zero_add, dSeq, dIfS, dOr, dAnd, dNot, dTst, dOp, dUn, dVar, dC, dB, dBK, dCons, dNil, dTup, dLst, dRet, dRetN, dRetF, dRetO, dBO, dFr, dRepL, dCatL, dRev, dRevL, dSlO, dCatO, cSorted, SpO.sp, dNext, dNever, dAsg, dPar, dPar3, dParO, dIf, dAndV, dOrV, dNotV, dCh, dCt, cLast, cLink, tLast, tLink, dDrop, dFor, dBrk, dCnt, dOwn, dApp, dExt, dFree, gPutO, dIxO, dLend, dLendT, dLcF, gN, gTu, gCn, gNl, gP0, gP1, gII, gIIc, gAdd, gNeg, gIx, gEq_nn, gEq_nb, gEq_ni, gEq_ns, gEq_nt, gEq_nl, gEq_bn, gEq_bb, gEq_bi, gEq_bs, gEq_bt, gEq_bl, gEq_in, gEq_ib, gEq_ii, gEq_is, gEq_it, gEq_il, gEq_sn, gEq_sb, gEq_si, gEq_ss, gEq_st, gEq_sl, gEq_tn, gEq_tb, gEq_ti, gEq_ts, gEq_tt, gEq_tl, gEq_ln, gEq_lb, gEq_li, gEq_ls, gEq_lt, gEq_ll, gNe_nn, gNe_nb, gNe_ni, gNe_ns, gNe_nt, gNe_nl, gNe_bn, gNe_bb, gNe_bi, gNe_bs, gNe_bt, gNe_bl, gNe_in, gNe_ib, gNe_ii, gNe_is, gNe_it, gNe_il, gNe_sn, gNe_sb, gNe_si, gNe_ss, gNe_st, gNe_sl, gNe_tn, gNe_tb, gNe_ti, gNe_ts, gNe_tt, gNe_tl, gNe_ln, gNe_lb, gNe_li, gNe_ls, gNe_lt, gNe_ll, gIs, gIsNot, gIn, gNotIn, gSl, oNone, oSome, gMt, gIndex, cTuple, cList, cI1, cI2, cInt, cLen, cMax, cMin, cMaxT, cMinT, dAug, cAll, cAny, cRepr, cSqrt, cIsi, tyN, isNon, kb_tt, kb_ii, kb_ib, kb_bi, kb_bb, kb_it, kb_bt, kb_nt, kb_ni, kb_lt, kb_li, kb_ti, kb_si, kb_st, kb_ss, rd, dTru, dRgN, dEnum, gMulT, gDivN, gDivNB, gEqF, dCallV, spOf, atD, ordD, dSq, dZip, dZipM, dZip3, zipD3_map, gShl, dParOO, zipD_map, ivD, dRg1, dRg2, dLc, dYes, dLcGo, dGen, dGenGo, wipeD, boolsOf, intsOf, maxL, minL, noL, noLs, Option.map_some, Option.bind_some, List.all_cons, List.all_nil, List.any_cons, List.any_nil, id_eq, List.set_cons_zero, List.set_cons_succ, List.getElem?_cons_zero, List.getElem?_cons_succ, List.getElem?_nil, List.getD_cons_zero, List.getD_cons_succ, decide_eq_true_eq, decide_eq_false_iff_not, Bool.not_eq_true', Bool.not_true, Bool.not_false, Bool.and_true, Bool.true_and, Bool.and_false, Bool.false_and, Bool.false_eq_true, if_true, if_false, reduceIte, ite_true, ite_false, true_and, and_true, reduceCtorEq, Int.toNat_zero, Int.toNat_one, Int.cast_ofNat_Int, Int.reduceLT, Int.reduceLE, Int.reduceNeg, Int.reduceToNat, Int.reducePow, Int.reduceMul, Int.reduceAdd, Int.reduceSub, decide_true, decide_false, sp__law_number, sp_ratio, sp__law_ratio, sp_parse_ratio, sp_ratio_text, sp__law_text, sp__law_drawn_text, sp__law_heard, sp__law_read]
        exact ⟨l, rfl, by omega, hQ⟩
      rw [hearD_eq]
      cases e : parR l with
      | error q =>
        have lq := par_err e
        have ok : okR (hD (.error q)) := ⟨rfl, ⟨trivial, small_log (i := (q : Int)) (by omega) (by omega), trivial⟩, (show 3 ≤ _ by decide)⟩
        refine seqIf false (fun Q hQ => ?_) ?_
        · generalize hz : hD (.error q) = z at *
          have hz2 : hearD l = z := by rw [hearD_eq, e, hz]
          have no : isOwn z = false := by rw [← hz]; rfl
          cases z with
          | tup z =>
            simp (implicitDefEqProofs := false) (maxSteps := 3000000) only [gAddS, gMulS, gSlS, gIxS, cLenS, gInS, cStrI, cIntS, dJoin, gJ, dReplC, dZfill, strsOf, xaCons, xaNil, xExpr, xSeq, xIf, xRet, xRaise, xOf, xB, xBK, xAsg, xTry, xTryIs, xHeard, mD0, mD1, mD2, startD, List.map_cons, List.map_nil, List.length_cons, List.length_nil, List.replicate, List.cons_append, List.nil_append, Nat.reduceAdd, Nat.reduceSub, Nat.zero_add, dSeq, dIfS, dOr, dAnd, dNot, dTst, dOp, dUn, dVar, dC, dB, dBK, dCons, dNil, dTup, dLst, dRet, dRetN, dRetF, dRetO, dBO, dFr, dRepL, dCatL, dRev, dRevL, dSlO, dCatO, cSorted, SpO.sp, dNext, dNever, dAsg, dPar, dPar3, dParO, dIf, dAndV, dOrV, dNotV, dCh, dCt, cLast, cLink, tLast, tLink, dDrop, dFor, dBrk, dCnt, dOwn, dApp, dExt, dFree, gPutO, dIxO, dLend, dLendT, dLcF, gN, gTu, gCn, gNl, gP0, gP1, gII, gIIc, gAdd, gNeg, gIx, gEq_nn, gEq_nb, gEq_ni, gEq_ns, gEq_nt, gEq_nl, gEq_bn, gEq_bb, gEq_bi, gEq_bs, gEq_bt, gEq_bl, gEq_in, gEq_ib, gEq_ii, gEq_is, gEq_it, gEq_il, gEq_sn, gEq_sb, gEq_si, gEq_ss, gEq_st, gEq_sl, gEq_tn, gEq_tb, gEq_ti, gEq_ts, gEq_tt, gEq_tl, gEq_ln, gEq_lb, gEq_li, gEq_ls, gEq_lt, gEq_ll, gNe_nn, gNe_nb, gNe_ni, gNe_ns, gNe_nt, gNe_nl, gNe_bn, gNe_bb, gNe_bi, gNe_bs, gNe_bt, gNe_bl, gNe_in, gNe_ib, gNe_ii, gNe_is, gNe_it, gNe_il, gNe_sn, gNe_sb, gNe_si, gNe_ss, gNe_st, gNe_sl, gNe_tn, gNe_tb, gNe_ti, gNe_ts, gNe_tt, gNe_tl, gNe_ln, gNe_lb, gNe_li, gNe_ls, gNe_lt, gNe_ll, gIs, gIsNot, gIn, gNotIn, gSl, oNone, oSome, gMt, gIndex, cTuple, cList, cI1, cI2, cInt, cLen, cMax, cMin, cMaxT, cMinT, dAug, cAll, cAny, cRepr, cSqrt, cIsi, tyN, isNon, kb_tt, kb_ii, kb_ib, kb_bi, kb_bb, kb_it, kb_bt, kb_nt, kb_ni, kb_lt, kb_li, kb_ti, kb_si, kb_st, kb_ss, rd, dTru, dRgN, dEnum, gMulT, gDivN, gDivNB, gEqF, dCallV, spOf, atD, ordD, dSq, dZip, dZipM, dZip3, zipD3_map, gShl, dParOO, zipD_map, ivD, dRg1, dRg2, dLc, dYes, dLcGo, dGen, dGenGo, wipeD, boolsOf, intsOf, maxL, minL, noL, noLs, Option.map_some, Option.bind_some, List.all_cons, List.all_nil, List.any_cons, List.any_nil, id_eq, List.set_cons_zero, List.set_cons_succ, List.getElem?_cons_zero, List.getElem?_cons_succ, List.getElem?_nil, List.getD_cons_zero, List.getD_cons_succ, decide_eq_true_eq, decide_eq_false_iff_not, Bool.not_eq_true', Bool.not_true, Bool.not_false, Bool.and_true, Bool.true_and, Bool.and_false, Bool.false_and, Bool.false_eq_true, if_true, if_false, reduceIte, ite_true, ite_false, true_and, and_true, reduceCtorEq, Int.toNat_zero, Int.toNat_one, Int.cast_ofNat_Int, Int.reduceLT, Int.reduceLE, Int.reduceNeg, Int.reduceToNat, Int.reducePow, Int.reduceMul, Int.reduceAdd, Int.reduceSub, decide_true, decide_false, sp__law_number, sp_ratio, sp__law_ratio, sp_parse_ratio, sp_ratio_text, sp__law_text, sp__law_drawn_text, sp__law_heard, sp__law_read]
            refine ⟨ok, l, rfl, by omega, ?_⟩
            rw [hz2]
            exact ⟨ok, by rw [decide_eq_true rfl]; exact hQ⟩
          | _ => cases hz
        rw [if_neg Bool.false_ne_true]
        refine ofNext ?_
        refine lastIf false (fun Q hQ => ?_) ?_
        · unfold hD
          simp (implicitDefEqProofs := false) (maxSteps := 3000000) only [gAddS, gMulS, gSlS, gIxS, cLenS, gInS, cStrI, cIntS, dJoin, gJ, dReplC, dZfill, strsOf, xaCons, xaNil, xExpr, xSeq, xIf, xRet, xRaise, xOf, xB, xBK, xAsg, xTry, xTryIs, xHeard, mD0, mD1, mD2, startD, List.map_cons, List.map_nil, List.length_cons, List.length_nil, List.replicate, List.cons_append, List.nil_append, Nat.reduceAdd, Nat.reduceSub, Nat.zero_add, dSeq, dIfS, dOr, dAnd, dNot, dTst, dOp, dUn, dVar, dC, dB, dBK, dCons, dNil, dTup, dLst, dRet, dRetN, dRetF, dRetO, dBO, dFr, dRepL, dCatL, dRev, dRevL, dSlO, dCatO, cSorted, SpO.sp, dNext, dNever, dAsg, dPar, dPar3, dParO, dIf, dAndV, dOrV, dNotV, dCh, dCt, cLast, cLink, tLast, tLink, dDrop, dFor, dBrk, dCnt, dOwn, dApp, dExt, dFree, gPutO, dIxO, dLend, dLendT, dLcF, gN, gTu, gCn, gNl, gP0, gP1, gII, gIIc, gAdd, gNeg, gIx, gEq_nn, gEq_nb, gEq_ni, gEq_ns, gEq_nt, gEq_nl, gEq_bn, gEq_bb, gEq_bi, gEq_bs, gEq_bt, gEq_bl, gEq_in, gEq_ib, gEq_ii, gEq_is, gEq_it, gEq_il, gEq_sn, gEq_sb, gEq_si, gEq_ss, gEq_st, gEq_sl, gEq_tn, gEq_tb, gEq_ti, gEq_ts, gEq_tt, gEq_tl, gEq_ln, gEq_lb, gEq_li, gEq_ls, gEq_lt, gEq_ll, gNe_nn, gNe_nb, gNe_ni, gNe_ns, gNe_nt, gNe_nl, gNe_bn, gNe_bb, gNe_bi, gNe_bs, gNe_bt, gNe_bl, gNe_in, gNe_ib, gNe_ii, gNe_is, gNe_it, gNe_il, gNe_sn, gNe_sb, gNe_si, gNe_ss, gNe_st, gNe_sl, gNe_tn, gNe_tb, gNe_ti, gNe_ts, gNe_tt, gNe_tl, gNe_ln, gNe_lb, gNe_li, gNe_ls, gNe_lt, gNe_ll, gIs, gIsNot, gIn, gNotIn, gSl, oNone, oSome, gMt, gIndex, cTuple, cList, cI1, cI2, cInt, cLen, cMax, cMin, cMaxT, cMinT, dAug, cAll, cAny, cRepr, cSqrt, cIsi, tyN, isNon, kb_tt, kb_ii, kb_ib, kb_bi, kb_bb, kb_it, kb_bt, kb_nt, kb_ni, kb_lt, kb_li, kb_ti, kb_si, kb_st, kb_ss, rd, dTru, dRgN, dEnum, gMulT, gDivN, gDivNB, gEqF, dCallV, spOf, atD, ordD, dSq, dZip, dZipM, dZip3, zipD3_map, gShl, dParOO, zipD_map, ivD, dRg1, dRg2, dLc, dYes, dLcGo, dGen, dGenGo, wipeD, boolsOf, intsOf, maxL, minL, noL, noLs, Option.map_some, Option.bind_some, List.all_cons, List.all_nil, List.any_cons, List.any_nil, id_eq, List.set_cons_zero, List.set_cons_succ, List.getElem?_cons_zero, List.getElem?_cons_succ, List.getElem?_nil, List.getD_cons_zero, List.getD_cons_succ, decide_eq_true_eq, decide_eq_false_iff_not, Bool.not_eq_true', Bool.not_true, Bool.not_false, Bool.and_true, Bool.true_and, Bool.and_false, Bool.false_and, Bool.false_eq_true, if_true, if_false, reduceIte, ite_true, ite_false, true_and, and_true, reduceCtorEq, Int.toNat_zero, Int.toNat_one, Int.cast_ofNat_Int, Int.reduceLT, Int.reduceLE, Int.reduceNeg, Int.reduceToNat, Int.reducePow, Int.reduceMul, Int.reduceAdd, Int.reduceSub, decide_true, decide_false, sp__law_number, sp_ratio, sp__law_ratio, sp_parse_ratio, sp_ratio_text, sp__law_text, sp__law_drawn_text, sp__law_heard, sp__law_read]
          exact hQ
        rw [if_neg Bool.false_ne_true]
        exact lastNext (hk _ ⟨_, _, _, _, _, _, rfl⟩)
      | ok v =>
        have r80 := par_ok e
        obtain ⟨v1, v2⟩ := v
        have d0 := r80.rt.pos
        have b1 := r80.lo
        have b2 := r80.hi
        have b3 := r80.un
        simp only [] at d0 b1 b2 b3
        have ok : okR (hD (.ok (v1, v2))) := ⟨rfl, ⟨⟨log120 (i := v1) (by omega) (by omega), log120 (i := v2) (by omega) (by omega), trivial⟩, trivial, trivial⟩, (show 5 ≤ _ by decide)⟩
        refine seqIf false (fun Q hQ => ?_) ?_
        · generalize hz : hD (.ok (v1, v2)) = z at *
          have hz2 : hearD l = z := by rw [hearD_eq, e, hz]
          have no : isOwn z = false := by rw [← hz]; rfl
          cases z with
          | tup z =>
            simp (implicitDefEqProofs := false) (maxSteps := 3000000) only [gAddS, gMulS, gSlS, gIxS, cLenS, gInS, cStrI, cIntS, dJoin, gJ, dReplC, dZfill, strsOf, xaCons, xaNil, xExpr, xSeq, xIf, xRet, xRaise, xOf, xB, xBK, xAsg, xTry, xTryIs, xHeard, mD0, mD1, mD2, startD, List.map_cons, List.map_nil, List.length_cons, List.length_nil, List.replicate, List.cons_append, List.nil_append, Nat.reduceAdd, Nat.reduceSub, Nat.zero_add, dSeq, dIfS, dOr, dAnd, dNot, dTst, dOp, dUn, dVar, dC, dB, dBK, dCons, dNil, dTup, dLst, dRet, dRetN, dRetF, dRetO, dBO, dFr, dRepL, dCatL, dRev, dRevL, dSlO, dCatO, cSorted, SpO.sp, dNext, dNever, dAsg, dPar, dPar3, dParO, dIf, dAndV, dOrV, dNotV, dCh, dCt, cLast, cLink, tLast, tLink, dDrop, dFor, dBrk, dCnt, dOwn, dApp, dExt, dFree, gPutO, dIxO, dLend, dLendT, dLcF, gN, gTu, gCn, gNl, gP0, gP1, gII, gIIc, gAdd, gNeg, gIx, gEq_nn, gEq_nb, gEq_ni, gEq_ns, gEq_nt, gEq_nl, gEq_bn, gEq_bb, gEq_bi, gEq_bs, gEq_bt, gEq_bl, gEq_in, gEq_ib, gEq_ii, gEq_is, gEq_it, gEq_il, gEq_sn, gEq_sb, gEq_si, gEq_ss, gEq_st, gEq_sl, gEq_tn, gEq_tb, gEq_ti, gEq_ts, gEq_tt, gEq_tl, gEq_ln, gEq_lb, gEq_li, gEq_ls, gEq_lt, gEq_ll, gNe_nn, gNe_nb, gNe_ni, gNe_ns, gNe_nt, gNe_nl, gNe_bn, gNe_bb, gNe_bi, gNe_bs, gNe_bt, gNe_bl, gNe_in, gNe_ib, gNe_ii, gNe_is, gNe_it, gNe_il, gNe_sn, gNe_sb, gNe_si, gNe_ss, gNe_st, gNe_sl, gNe_tn, gNe_tb, gNe_ti, gNe_ts, gNe_tt, gNe_tl, gNe_ln, gNe_lb, gNe_li, gNe_ls, gNe_lt, gNe_ll, gIs, gIsNot, gIn, gNotIn, gSl, oNone, oSome, gMt, gIndex, cTuple, cList, cI1, cI2, cInt, cLen, cMax, cMin, cMaxT, cMinT, dAug, cAll, cAny, cRepr, cSqrt, cIsi, tyN, isNon, kb_tt, kb_ii, kb_ib, kb_bi, kb_bb, kb_it, kb_bt, kb_nt, kb_ni, kb_lt, kb_li, kb_ti, kb_si, kb_st, kb_ss, rd, dTru, dRgN, dEnum, gMulT, gDivN, gDivNB, gEqF, dCallV, spOf, atD, ordD, dSq, dZip, dZipM, dZip3, zipD3_map, gShl, dParOO, zipD_map, ivD, dRg1, dRg2, dLc, dYes, dLcGo, dGen, dGenGo, wipeD, boolsOf, intsOf, maxL, minL, noL, noLs, Option.map_some, Option.bind_some, List.all_cons, List.all_nil, List.any_cons, List.any_nil, id_eq, List.set_cons_zero, List.set_cons_succ, List.getElem?_cons_zero, List.getElem?_cons_succ, List.getElem?_nil, List.getD_cons_zero, List.getD_cons_succ, decide_eq_true_eq, decide_eq_false_iff_not, Bool.not_eq_true', Bool.not_true, Bool.not_false, Bool.and_true, Bool.true_and, Bool.and_false, Bool.false_and, Bool.false_eq_true, if_true, if_false, reduceIte, ite_true, ite_false, true_and, and_true, reduceCtorEq, Int.toNat_zero, Int.toNat_one, Int.cast_ofNat_Int, Int.reduceLT, Int.reduceLE, Int.reduceNeg, Int.reduceToNat, Int.reducePow, Int.reduceMul, Int.reduceAdd, Int.reduceSub, decide_true, decide_false, sp__law_number, sp_ratio, sp__law_ratio, sp_parse_ratio, sp_ratio_text, sp__law_text, sp__law_drawn_text, sp__law_heard, sp__law_read]
            refine ⟨ok, l, rfl, by omega, ?_⟩
            rw [hz2]
            exact ⟨ok, by rw [decide_eq_true rfl]; exact hQ⟩
          | _ => cases hz
        rw [if_neg Bool.false_ne_true]
        refine ofNext ?_
        refine lastIf false (fun Q hQ => ?_) ?_
        · unfold hD
          simp (implicitDefEqProofs := false) (maxSteps := 3000000) only [gAddS, gMulS, gSlS, gIxS, cLenS, gInS, cStrI, cIntS, dJoin, gJ, dReplC, dZfill, strsOf, xaCons, xaNil, xExpr, xSeq, xIf, xRet, xRaise, xOf, xB, xBK, xAsg, xTry, xTryIs, xHeard, mD0, mD1, mD2, startD, List.map_cons, List.map_nil, List.length_cons, List.length_nil, List.replicate, List.cons_append, List.nil_append, Nat.reduceAdd, Nat.reduceSub, Nat.zero_add, dSeq, dIfS, dOr, dAnd, dNot, dTst, dOp, dUn, dVar, dC, dB, dBK, dCons, dNil, dTup, dLst, dRet, dRetN, dRetF, dRetO, dBO, dFr, dRepL, dCatL, dRev, dRevL, dSlO, dCatO, cSorted, SpO.sp, dNext, dNever, dAsg, dPar, dPar3, dParO, dIf, dAndV, dOrV, dNotV, dCh, dCt, cLast, cLink, tLast, tLink, dDrop, dFor, dBrk, dCnt, dOwn, dApp, dExt, dFree, gPutO, dIxO, dLend, dLendT, dLcF, gN, gTu, gCn, gNl, gP0, gP1, gII, gIIc, gAdd, gNeg, gIx, gEq_nn, gEq_nb, gEq_ni, gEq_ns, gEq_nt, gEq_nl, gEq_bn, gEq_bb, gEq_bi, gEq_bs, gEq_bt, gEq_bl, gEq_in, gEq_ib, gEq_ii, gEq_is, gEq_it, gEq_il, gEq_sn, gEq_sb, gEq_si, gEq_ss, gEq_st, gEq_sl, gEq_tn, gEq_tb, gEq_ti, gEq_ts, gEq_tt, gEq_tl, gEq_ln, gEq_lb, gEq_li, gEq_ls, gEq_lt, gEq_ll, gNe_nn, gNe_nb, gNe_ni, gNe_ns, gNe_nt, gNe_nl, gNe_bn, gNe_bb, gNe_bi, gNe_bs, gNe_bt, gNe_bl, gNe_in, gNe_ib, gNe_ii, gNe_is, gNe_it, gNe_il, gNe_sn, gNe_sb, gNe_si, gNe_ss, gNe_st, gNe_sl, gNe_tn, gNe_tb, gNe_ti, gNe_ts, gNe_tt, gNe_tl, gNe_ln, gNe_lb, gNe_li, gNe_ls, gNe_lt, gNe_ll, gIs, gIsNot, gIn, gNotIn, gSl, oNone, oSome, gMt, gIndex, cTuple, cList, cI1, cI2, cInt, cLen, cMax, cMin, cMaxT, cMinT, dAug, cAll, cAny, cRepr, cSqrt, cIsi, tyN, isNon, kb_tt, kb_ii, kb_ib, kb_bi, kb_bb, kb_it, kb_bt, kb_nt, kb_ni, kb_lt, kb_li, kb_ti, kb_si, kb_st, kb_ss, rd, dTru, dRgN, dEnum, gMulT, gDivN, gDivNB, gEqF, dCallV, spOf, atD, ordD, dSq, dZip, dZipM, dZip3, zipD3_map, gShl, dParOO, zipD_map, ivD, dRg1, dRg2, dLc, dYes, dLcGo, dGen, dGenGo, wipeD, boolsOf, intsOf, maxL, minL, noL, noLs, Option.map_some, Option.bind_some, List.all_cons, List.all_nil, List.any_cons, List.any_nil, id_eq, List.set_cons_zero, List.set_cons_succ, List.getElem?_cons_zero, List.getElem?_cons_succ, List.getElem?_nil, List.getD_cons_zero, List.getD_cons_succ, decide_eq_true_eq, decide_eq_false_iff_not, Bool.not_eq_true', Bool.not_true, Bool.not_false, Bool.and_true, Bool.true_and, Bool.and_false, Bool.false_and, Bool.false_eq_true, if_true, if_false, reduceIte, ite_true, ite_false, true_and, and_true, reduceCtorEq, Int.toNat_zero, Int.toNat_one, Int.cast_ofNat_Int, Int.reduceLT, Int.reduceLE, Int.reduceNeg, Int.reduceToNat, Int.reducePow, Int.reduceMul, Int.reduceAdd, Int.reduceSub, decide_true, decide_false, sp__law_number, sp_ratio, sp__law_ratio, sp_parse_ratio, sp_ratio_text, sp__law_text, sp__law_drawn_text, sp__law_heard, sp__law_read]
          exact ⟨⟨r80.rt, by omega, by omega, by omega⟩, ⟨by omega, by omega, by omega, by omega⟩, hQ⟩
        rw [if_neg Bool.false_ne_true]
        exact lastNext (hk _ ⟨_, _, _, _, _, _, rfl⟩)
    · rintro τ ⟨o1, o2, o3, o4, o5, o6, rfl⟩
      have f0 : parR [] = .error 0 := par_none (l := []) (b := 0) (by decide)
      have f1 : parR [45] = .error 1 := par_none (l := [45]) (b := 1) (by decide)
      have emp : Str.ofString "" = tx [] := by decide +kernel
      have dash : Str.ofString "-" = tx [45] := by decide +kernel
      simp (implicitDefEqProofs := false) (maxSteps := 3000000) only [gAddS, gMulS, gSlS, gIxS, cLenS, gInS, cStrI, cIntS, dJoin, gJ, dReplC, dZfill, strsOf, xaCons, xaNil, xExpr, xSeq, xIf, xRet, xRaise, xOf, xB, xBK, xAsg, xTry, xTryIs, xHeard, mD0, mD1, mD2, startD, List.map_cons, List.map_nil, List.length_cons, List.length_nil, List.replicate, List.cons_append, List.nil_append, Nat.reduceAdd, Nat.reduceSub, Nat.zero_add, dSeq, dIfS, dOr, dAnd, dNot, dTst, dOp, dUn, dVar, dC, dB, dBK, dCons, dNil, dTup, dLst, dRet, dRetN, dRetF, dRetO, dBO, dFr, dRepL, dCatL, dRev, dRevL, dSlO, dCatO, cSorted, SpO.sp, dNext, dNever, dAsg, dPar, dPar3, dParO, dIf, dAndV, dOrV, dNotV, dCh, dCt, cLast, cLink, tLast, tLink, dDrop, dFor, dBrk, dCnt, dOwn, dApp, dExt, dFree, gPutO, dIxO, dLend, dLendT, dLcF, gN, gTu, gCn, gNl, gP0, gP1, gII, gIIc, gAdd, gNeg, gIx, gEq_nn, gEq_nb, gEq_ni, gEq_ns, gEq_nt, gEq_nl, gEq_bn, gEq_bb, gEq_bi, gEq_bs, gEq_bt, gEq_bl, gEq_in, gEq_ib, gEq_ii, gEq_is, gEq_it, gEq_il, gEq_sn, gEq_sb, gEq_si, gEq_ss, gEq_st, gEq_sl, gEq_tn, gEq_tb, gEq_ti, gEq_ts, gEq_tt, gEq_tl, gEq_ln, gEq_lb, gEq_li, gEq_ls, gEq_lt, gEq_ll, gNe_nn, gNe_nb, gNe_ni, gNe_ns, gNe_nt, gNe_nl, gNe_bn, gNe_bb, gNe_bi, gNe_bs, gNe_bt, gNe_bl, gNe_in, gNe_ib, gNe_ii, gNe_is, gNe_it, gNe_il, gNe_sn, gNe_sb, gNe_si, gNe_ss, gNe_st, gNe_sl, gNe_tn, gNe_tb, gNe_ti, gNe_ts, gNe_tt, gNe_tl, gNe_ln, gNe_lb, gNe_li, gNe_ls, gNe_lt, gNe_ll, gIs, gIsNot, gIn, gNotIn, gSl, oNone, oSome, gMt, gIndex, cTuple, cList, cI1, cI2, cInt, cLen, cMax, cMin, cMaxT, cMinT, dAug, cAll, cAny, cRepr, cSqrt, cIsi, tyN, isNon, kb_tt, kb_ii, kb_ib, kb_bi, kb_bb, kb_it, kb_bt, kb_nt, kb_ni, kb_lt, kb_li, kb_ti, kb_si, kb_st, kb_ss, rd, dTru, dRgN, dEnum, gMulT, gDivN, gDivNB, gEqF, dCallV, spOf, atD, ordD, dSq, dZip, dZipM, dZip3, zipD3_map, gShl, dParOO, zipD_map, ivD, dRg1, dRg2, dLc, dYes, dLcGo, dGen, dGenGo, wipeD, boolsOf, intsOf, maxL, minL, noL, noLs, Option.map_some, Option.bind_some, List.all_cons, List.all_nil, List.any_cons, List.any_nil, id_eq, List.set_cons_zero, List.set_cons_succ, List.getElem?_cons_zero, List.getElem?_cons_succ, List.getElem?_nil, List.getD_cons_zero, List.getD_cons_succ, decide_eq_true_eq, decide_eq_false_iff_not, Bool.not_eq_true', Bool.not_true, Bool.not_false, Bool.and_true, Bool.true_and, Bool.and_false, Bool.false_and, Bool.false_eq_true, if_true, if_false, reduceIte, ite_true, ite_false, true_and, and_true, reduceCtorEq, Int.toNat_zero, Int.toNat_one, Int.cast_ofNat_Int, Int.reduceLT, Int.reduceLE, Int.reduceNeg, Int.reduceToNat, Int.reducePow, Int.reduceMul, Int.reduceAdd, Int.reduceSub, decide_true, decide_false, sp__law_number, sp_ratio, sp__law_ratio, sp_parse_ratio, sp_ratio_text, sp__law_text, sp__law_drawn_text, sp__law_heard, sp__law_read]
      refine ⟨[], by rw [emp], by decide, ?_⟩
      rw [hearD_eq, f0]
      refine ⟨⟨rfl, rfl⟩, ?_⟩
      rw [show PyData.eqv (toP (hD (.error 0))) (toP (D.tup [.non, .int 0])) = true from by decide +kernel]
      show if true = true then _ else _
      rw [if_pos rfl]
      refine ⟨[45], by rw [dash], by decide, ?_⟩
      rw [hearD_eq, f1]
      refine ⟨⟨rfl, rfl⟩, ?_⟩
      rw [show PyData.eqv (toP (hD (.error 1))) (toP (D.tup [.non, .int 1])) = true from by decide +kernel]
      exact h
end
section
variable {P : Program} {w : World} {K : PySem.W.Frag} {mg : Str → Option Value} {base : Heap} {tabs : Tf}
def spPot (K : PySem.W.Frag) : Sp := fun vs H Q _ => ∃ (a : Addr) (ns : List Int), vs = [.ref a, .int 0] ∧ SqL K H a (ns.map V.int) ∧
  ∀ (p : Addr) (x y : Int), H p = none → 0 ≤ x → 0 ≤ y → y < 4294967296 → Q (.ref p) (upd H p (.lst [.int x, .int y]))
def spLaw (K : PySem.W.Frag) (tabs : Tf) : Sp := fun vs H Q _ => ∃ (a : Addr) (ns : List Int), vs = [.ref a] ∧ SqL K H a (ns.map V.int) ∧ (∀ t ∈ tabs.tabs, H t = some (.tbl #[])) ∧ (∀ t ∈ tabs.lts, H t.1 = some (.tbl #[])) ∧ (∀ t ∈ tabs.lts, t.1 ∉ tabs.tabs) ∧ ∀ H', Q (.bl true) H'
theorem raw_pot {f : Addr} {fd : FuncData} (T : Txt K mg) (F : Fun K "_law_pot" "_law_pot" s__law_pot f fd) : FnG P w K mg base CX0 1 f fd ["script", "k"] (spPot K) := by
  refine funG F sc__law_pot (fun vs H Q E h => ?_) fun cdv A outer s H vs Q E _ hg hk hr h => ?_
  · obtain ⟨a, ns, rfl, _⟩ := h
    rfl
  obtain ⟨a, ns, rfl, hS, k⟩ := h
  refine ⟨_, (pss_cons (ps_set (i := 2) sc__law_pot.nd rfl (Or.inl rfl) (pe_op op_add (pe_op op_mul pe_int (pv 1)) pe_int)) (pss_cons (ps_if (pt_cmpR op_lt (pv 1) (pe_callB call_len_seq (by rfl) T.b_len PySem.boot_len (pa_cons (pv 0) pa_nil)) (nomark _)) (pss_one (ps_set (i := 2) sc__law_pot.nd rfl (Or.inl rfl) (pe_callB call_abs (by rfl) T.b_abs PyProof.Rows.boot_abs (pa_cons (pe_ix ix_list (pv 0) (pv 1) (fun _ _ => rfl)) pa_nil)))) pss_nil) (pss_one (ps_ret (pe_lst (pa_cons (pe_callB (call_max2 rfl) (by rfl) T.b_max PyProof.Rows.boot_max (pa_cons pe_int (pa_cons (pe_op op_sub (pv 2) (pe_op op_pow pe_int pe_int)) pa_nil))) (pa_cons (pe_op op_add (pe_op op_mod (pe_op op_mul (pe_callTy call_int1 (by rfl) T.b_int PyProof.Rows.boot_int (pa_cons (pe_op op_add (pe_op op_mod (pe_callTy call_int1 (by rfl) T.b_int PyProof.Rows.boot_int (pa_cons (pv 2) pa_nil)) pe_int) pe_int) pa_nil)) (pe_op op_pow (pe_op op_add (pe_op op_mul pe_int (pv 1)) pe_int) pe_int)) pe_int) pe_int) pa_nil))))))), ?_⟩
  simp only [tSeq, tAsg, tOp, rI0, rI, tC, tVar, gName, tIfS, tTest, tCB, tCons, tNil, tRet, tLst, tNext, rIxL, L2.start, List.map_cons, List.map_nil, List.length_cons, List.length_nil, List.replicate, List.cons_append, List.nil_append, Nat.reduceAdd, Nat.reduceSub, List.getElem?_cons_zero, List.getElem?_cons_succ, List.set_cons_zero, List.set_cons_succ]
  repeat (first | refine ⟨_, _, rfl, rfl, ?_⟩ | refine ⟨_, _, rfl, .inl hS, ?_⟩ | refine ⟨_, rfl, ?_⟩ | refine ⟨(.inl ⟨by decide, by decide⟩ : CMul _ _), ?_⟩ | refine ⟨(⟨by decide, by decide, by decide⟩ : CPow _ _), ?_⟩)
  refine ite2P (fun h0 => ?_) (fun h0 => ?_)
  · have h1 : 0 < (ns.map V.int).length := by have := of_decide_eq_true h0; omega
    obtain ⟨n, hn⟩ : ∃ n : Int, (ns.map V.int)[0]? = some (V.int n) := by
      cases ns with
      | nil => simp at h1
      | cons n ns => exact ⟨n, rfl⟩
    refine ⟨_, rfl, _, rfl, a, _, 0, V.int n, rfl, rfl, hS, atI_nat hn, ?_⟩
    repeat (first | refine ⟨_, _, rfl, rfl, ?_⟩ | refine ⟨_, _, rfl, ?_⟩ | refine .inl ⟨_, rfl, ?_⟩ | refine ⟨_, rfl, ?_⟩ | refine ⟨(.inl ⟨by decide, by decide⟩ : CMul _ _), ?_⟩ | refine ⟨(.inr ⟨by decide, by decide⟩ : CMul _ _), ?_⟩ | refine ⟨(⟨by decide, by decide, by decide⟩ : CPow _ _), ?_⟩ | refine ⟨(by decide : (0 : Int) < _), ?_⟩ | refine ⟨(by show 2 ≤ sizeLine; decide), ?_⟩)
    refine fun p hp => k p _ _ hp (by split <;> omega) ?_ ?_
    · exact pot_lo (by decide)
    · exact pot_hi (by decide) (by decide)
  · repeat (first | refine ⟨_, _, rfl, rfl, ?_⟩ | refine ⟨_, _, rfl, ?_⟩ | refine .inl ⟨_, rfl, ?_⟩ | refine ⟨_, rfl, ?_⟩ | refine ⟨(.inl ⟨by decide, by decide⟩ : CMul _ _), ?_⟩ | refine ⟨(.inr ⟨by decide, by decide⟩ : CMul _ _), ?_⟩ | refine ⟨(⟨by decide, by decide, by decide⟩ : CPow _ _), ?_⟩ | refine ⟨(by decide : (0 : Int) < _), ?_⟩ | refine ⟨(by show 2 ≤ sizeLine; decide), ?_⟩)
    refine fun p hp => k p _ _ hp (by split <;> omega) ?_ ?_
    · exact pot_lo (by decide)
    · exact pot_hi (by decide) (by decide)
theorem raw_law {f : Addr} {fd : FuncData} {f1 : Addr} {fd1 : FuncData} (F : Fun K "law" "law" s_law f fd) (F1 : FnG P w K mg base CX0 1 f1 fd1 ["script", "k"] (spPot K)) (b1 : Binds K fd1 ["script", "k"] []) (m1 : mg "_law_pot" = some (.ref f1)) (k1 : PySem.W.keepIn K (.ref f1) = true)
    (C : Cal P w K mg base tabs "_law_right" 7 1 ["pot"] [] sp__law_right) : FnG P w K mg base CX0 8 f fd ["script"] (spLaw K tabs) := by
  obtain ⟨f2, fd2, F2, m2, k2, b2, _⟩ := C.ex
  refine funG F sc_law (fun vs H Q E h => ?_) fun cdv A outer s H vs Q E _ hg hk hr h => ?_
  · obtain ⟨a, ns, rfl, _⟩ := h
    rfl
  obtain ⟨a, ns, rfl, hS, hT, hL, hN, k⟩ := h
  refine ⟨_, pss_one (ps_ret (pe_callG F2 hg hr pass0 (by rfl) m2 k2 b2 (pa_cons (pe_callG F1 hg (hr.mono (by decide)) pass0 (by rfl) m1 k1 b1 (pa_cons (pv 0) (pa_cons pe_int pa_nil))) pa_nil))), ?_⟩
  refine ⟨_, rfl, a, ns, rfl, hS, fun p x y hp h0 h1 h2 => ?_⟩
  refine ⟨rfl, p, [], [.pot], fun d => d = .bl true, ⟨⟨⟨x, y, h0, h1, h2, upd_same⟩, fun t ht => ⟨#[], ?_, True.intro⟩, fun t ht => LamX.TabS.nil ?_, fun t ht => ⟨fun e => ?_, hN t ht⟩⟩, fun b hb => absurd hb List.not_mem_nil⟩, .cons .pot .nil, rfl, fun z v H' _ i e => ?_⟩
  · have e1 := hT t ht
    rw [upd_ne fun e => by rw [e, hp] at e1; cases e1]
    exact e1
  · have e1 := hL t ht
    rw [upd_ne fun e => by rw [e, hp] at e1; cases e1]
    exact e1
  · have e1 := hL t ht
    rw [e, hp] at e1
    cases e1
  · subst e
    cases i
    exact k H'
end
theorem kb_parse_ratio {K : PySem.W.Frag} {f : Addr} (fd : FuncData) (F : Fun K "parse_ratio" "parse_ratio" s_parse_ratio f fd) : ∀ q ∈ ([(["text"], 0, [0])] : List (List Str × Nat × List Nat)), BindK K fd ["text"] q.1 q.2.1 q.2.2 := by
  intro q hq
  have e := List.mem_singleton.mp hq
  subst e
  exact bindK_of F fun kV doc pm an cdv ct us ws h1 h2 => match us, ws, h1, h2 with
      | [], [w0], _, _ => ⟨[w0], rfl, rfl, rfl, fun i j e => by
        match i, e with
        | 0, e => cases e; exact ⟨rfl, by simp⟩
        | (t + 1), e => simp at e⟩
theorem kb_ratio {K : PySem.W.Frag} {f : Addr} (fd : FuncData) (F : Fun K "ratio" "ratio" s_ratio f fd) : ∀ q ∈ ([(["under", "number"], 0, [1, 0])] : List (List Str × Nat × List Nat)), BindK K fd ["number", "under"] q.1 q.2.1 q.2.2 := by
  intro q hq
  have e := List.mem_singleton.mp hq
  subst e
  exact bindK_of F fun kV doc pm an cdv ct us ws h1 h2 => match us, ws, h1, h2 with
      | [], [w0, w1], _, _ => ⟨[w1, w0], rfl, rfl, rfl, fun i j e => by
        match i, e with
        | 0, e => cases e; exact ⟨rfl, by simp⟩
        | 1, e => cases e; exact ⟨rfl, by simp⟩
        | (t + 2), e => simp at e⟩
theorem kb_ratio_text {K : PySem.W.Frag} {f : Addr} (fd : FuncData) (F : Fun K "ratio_text" "ratio_text" s_ratio_text f fd) : ∀ q ∈ ([(["ratio"], 0, [0])] : List (List Str × Nat × List Nat)), BindK K fd ["ratio"] q.1 q.2.1 q.2.2 := by
  intro q hq
  have e := List.mem_singleton.mp hq
  subst e
  exact bindK_of F fun kV doc pm an cdv ct us ws h1 h2 => match us, ws, h1, h2 with
      | [], [w0], _, _ => ⟨[w0], rfl, rfl, rfl, fun i j e => by
        match i, e with
        | 0, e => cases e; exact ⟨rfl, by simp⟩
        | (t + 1), e => simp at e⟩
set_option maxHeartbeats 0 in
theorem all_mk {l : PySem.W.OpenLaw} {w : World} {K : PySem.W.Frag} {h : Heap} {mg : Str → Option Value} {fa : Addr} (X : K.In h) (G : h.Ns mainGlobals mg) (hfa : mg "law" = some (.ref fa))
    {f0 f1 f2 f3 f4 f5 f6 f7 f8 f9 f10 f11 f12 f13 f14 f15 f16 f17 f18 f19 f20 f21 f22 f23 f24 f25 f26 f27 f28 f29 f30 f31 : Addr} {od0 an0 od1 an1 od2 an2 od3 an3 od4 an4 od5 an5 od6 an6 od7 an7 od8 an8 od9 an9 od10 an10 od11 an11 od12 an12 od13 an13 od14 an14 od15 an15 od16 an16 od17 an17 od18 an18 od19 an19 od20 an20 od21 an21 od22 an22 od23 an23 od24 an24 od25 an25 od26 an26 od27 an27 od28 an28 od29 an29 od30 an30 od31 an31 : Option Addr} {sl0 sl1 sl2 sl3 sl4 sl5 sl6 sl7 sl8 sl9 sl10 sl11 sl12 sl13 sl14 sl15 sl16 sl17 sl18 sl19 sl20 sl21 sl22 sl23 sl24 sl25 sl26 sl27 sl28 sl29 sl30 sl31 : Array (Option Value)} {oc0 kV0 dc0 pm0 cd0 ct0 oc1 kV1 dc1 pm1 cd1 ct1 oc2 kV2 dc2 pm2 cd2 ct2 oc3 kV3 dc3 pm3 cd3 ct3 oc4 kV4 dc4 pm4 cd4 ct4 oc5 kV5 dc5 pm5 cd5 ct5 oc6 kV6 dc6 pm6 cd6 ct6 oc7 kV7 dc7 pm7 cd7 ct7 oc8 kV8 dc8 pm8 cd8 ct8 oc9 kV9 dc9 pm9 cd9 ct9 oc10 kV10 dc10 pm10 cd10 ct10 oc11 kV11 dc11 pm11 cd11 ct11 oc12 kV12 dc12 pm12 cd12 ct12 oc13 kV13 dc13 pm13 cd13 ct13 oc14 kV14 dc14 pm14 cd14 ct14 oc15 kV15 dc15 pm15 cd15 ct15 oc16 kV16 dc16 pm16 cd16 ct16 oc17 kV17 dc17 pm17 cd17 ct17 oc18 kV18 dc18 pm18 cd18 ct18 oc19 kV19 dc19 pm19 cd19 ct19 oc20 kV20 dc20 pm20 cd20 ct20 oc21 kV21 dc21 pm21 cd21 ct21 oc22 kV22 dc22 pm22 cd22 ct22 oc23 kV23 dc23 pm23 cd23 ct23 oc24 kV24 dc24 pm24 cd24 ct24 oc25 kV25 dc25 pm25 cd25 ct25 oc26 kV26 dc26 pm26 cd26 ct26 oc27 kV27 dc27 pm27 cd27 ct27 oc28 kV28 dc28 pm28 cd28 ct28 oc29 kV29 dc29 pm29 cd29 ct29 oc30 kV30 dc30 pm30 cd30 ct30 oc31 kV31 dc31 pm31 cd31 ct31 : Value}
    {t__MOST_DIGITS t__PIECE t__PIECE_DIGITS t__TOO_LARGE t__DIGITS : Tok}
    (a0 : PySem.W.nsIn K mainGlobals "is_integer" = some (some (.ref f0))) (l0 : K.lookup f0 = some ⟨oc0, od0, .func (PySem.W.fnOf "is_integer" "is_integer" (defArgs s_is_integer) (defBody s_is_integer) (defScope s_is_integer) .none kV0 dc0 pm0 an0 cd0 ct0), sl0⟩) (c0 : PySem.W.codeIn K cd0 "is_integer" = true) (k0 : PySem.W.keepIn K (.ref f0) = true)
    (a1 : PySem.W.nsIn K mainGlobals "is_ratio" = some (some (.ref f1))) (l1 : K.lookup f1 = some ⟨oc1, od1, .func (PySem.W.fnOf "is_ratio" "is_ratio" (defArgs s_is_ratio) (defBody s_is_ratio) (defScope s_is_ratio) .none kV1 dc1 pm1 an1 cd1 ct1), sl1⟩) (c1 : PySem.W.codeIn K cd1 "is_ratio" = true) (k1 : PySem.W.keepIn K (.ref f1) = true)
    (a2 : PySem.W.nsIn K mainGlobals "_law_draw" = some (some (.ref f2))) (l2 : K.lookup f2 = some ⟨oc2, od2, .func (PySem.W.fnOf "_law_draw" "_law_draw" (defArgs s__law_draw) (defBody s__law_draw) (defScope s__law_draw) .none kV2 dc2 pm2 an2 cd2 ct2), sl2⟩) (c2 : PySem.W.codeIn K cd2 "_law_draw" = true) (k2 : PySem.W.keepIn K (.ref f2) = true)
    (a3 : PySem.W.nsIn K mainGlobals "_law_pick" = some (some (.ref f3))) (l3 : K.lookup f3 = some ⟨oc3, od3, .func (PySem.W.fnOf "_law_pick" "_law_pick" (defArgs s__law_pick) (defBody s__law_pick) (defScope s__law_pick) .none kV3 dc3 pm3 an3 cd3 ct3), sl3⟩) (c3 : PySem.W.codeIn K cd3 "_law_pick" = true) (k3 : PySem.W.keepIn K (.ref f3) = true)
    (a4 : PySem.W.nsIn K mainGlobals "_law_one" = some (some (.ref f4))) (l4 : K.lookup f4 = some ⟨oc4, od4, .func (PySem.W.fnOf "_law_one" "_law_one" (defArgs s__law_one) (defBody s__law_one) (defScope s__law_one) .none kV4 dc4 pm4 an4 cd4 ct4), sl4⟩) (c4 : PySem.W.codeIn K cd4 "_law_one" = true) (k4 : PySem.W.keepIn K (.ref f4) = true)
    (a5 : PySem.W.nsIn K mainGlobals "_law_gcd" = some (some (.ref f5))) (l5 : K.lookup f5 = some ⟨oc5, od5, .func (PySem.W.fnOf "_law_gcd" "_law_gcd" (defArgs s__law_gcd) (defBody s__law_gcd) (defScope s__law_gcd) .none kV5 dc5 pm5 an5 cd5 ct5), sl5⟩) (c5 : PySem.W.codeIn K cd5 "_law_gcd" = true) (k5 : PySem.W.keepIn K (.ref f5) = true)
    (a6 : PySem.W.nsIn K mainGlobals "_law_ratio" = some (some (.ref f6))) (l6 : K.lookup f6 = some ⟨oc6, od6, .func (PySem.W.fnOf "_law_ratio" "_law_ratio" (defArgs s__law_ratio) (defBody s__law_ratio) (defScope s__law_ratio) .none kV6 dc6 pm6 an6 cd6 ct6), sl6⟩) (c6 : PySem.W.codeIn K cd6 "_law_ratio" = true) (k6 : PySem.W.keepIn K (.ref f6) = true)
    (a7 : PySem.W.nsIn K mainGlobals "_check_integer" = some (some (.ref f7))) (l7 : K.lookup f7 = some ⟨oc7, od7, .func (PySem.W.fnOf "_check_integer" "_check_integer" (defArgs s__check_integer) (defBody s__check_integer) (defScope s__check_integer) .none kV7 dc7 pm7 an7 cd7 ct7), sl7⟩) (c7 : PySem.W.codeIn K cd7 "_check_integer" = true) (k7 : PySem.W.keepIn K (.ref f7) = true)
    (a8 : PySem.W.nsIn K mainGlobals "ratio_of" = some (some (.ref f8))) (l8 : K.lookup f8 = some ⟨oc8, od8, .func (PySem.W.fnOf "ratio_of" "ratio_of" (defArgs s_ratio_of) (defBody s_ratio_of) (defScope s_ratio_of) .none kV8 dc8 pm8 an8 cd8 ct8), sl8⟩) (c8 : PySem.W.codeIn K cd8 "ratio_of" = true) (k8 : PySem.W.keepIn K (.ref f8) = true)
    (a9 : PySem.W.nsIn K mainGlobals "ratio" = some (some (.ref f9))) (l9 : K.lookup f9 = some ⟨oc9, od9, .func (PySem.W.fnOf "ratio" "ratio" (defArgs s_ratio) (defBody s_ratio) (defScope s_ratio) .none kV9 dc9 pm9 an9 cd9 ct9), sl9⟩) (c9 : PySem.W.codeIn K cd9 "ratio" = true) (k9 : PySem.W.keepIn K (.ref f9) = true)
    (a10 : PySem.W.nsIn K mainGlobals "check_ratio" = some (some (.ref f10))) (l10 : K.lookup f10 = some ⟨oc10, od10, .func (PySem.W.fnOf "check_ratio" "check_ratio" (defArgs s_check_ratio) (defBody s_check_ratio) (defScope s_check_ratio) .none kV10 dc10 pm10 an10 cd10 ct10), sl10⟩) (c10 : PySem.W.codeIn K cd10 "check_ratio" = true) (k10 : PySem.W.keepIn K (.ref f10) = true)
    (a11 : PySem.W.nsIn K mainGlobals "digits_end" = some (some (.ref f11))) (l11 : K.lookup f11 = some ⟨oc11, od11, .func (PySem.W.fnOf "digits_end" "digits_end" (defArgs s_digits_end) (defBody s_digits_end) (defScope s_digits_end) .none kV11 dc11 pm11 an11 cd11 ct11), sl11⟩) (c11 : PySem.W.codeIn K cd11 "digits_end" = true) (k11 : PySem.W.keepIn K (.ref f11) = true)
    (a12 : PySem.W.nsIn K mainGlobals "_few_digits_end" = some (some (.ref f12))) (l12 : K.lookup f12 = some ⟨oc12, od12, .func (PySem.W.fnOf "_few_digits_end" "_few_digits_end" (defArgs s__few_digits_end) (defBody s__few_digits_end) (defScope s__few_digits_end) .none kV12 dc12 pm12 an12 cd12 ct12), sl12⟩) (c12 : PySem.W.codeIn K cd12 "_few_digits_end" = true) (k12 : PySem.W.keepIn K (.ref f12) = true)
    (a13 : PySem.W.nsIn K mainGlobals "_check_read" = some (some (.ref f13))) (l13 : K.lookup f13 = some ⟨oc13, od13, .func (PySem.W.fnOf "_check_read" "_check_read" (defArgs s__check_read) (defBody s__check_read) (defScope s__check_read) .none kV13 dc13 pm13 an13 cd13 ct13), sl13⟩) (c13 : PySem.W.codeIn K cd13 "_check_read" = true) (k13 : PySem.W.keepIn K (.ref f13) = true)
    (a14 : PySem.W.nsIn K mainGlobals "_check_whole" = some (some (.ref f14))) (l14 : K.lookup f14 = some ⟨oc14, od14, .func (PySem.W.fnOf "_check_whole" "_check_whole" (defArgs s__check_whole) (defBody s__check_whole) (defScope s__check_whole) .none kV14 dc14 pm14 an14 cd14 ct14), sl14⟩) (c14 : PySem.W.codeIn K cd14 "_check_whole" = true) (k14 : PySem.W.keepIn K (.ref f14) = true)
    (a15 : PySem.W.nsIn K mainGlobals "_under_read" = some (some (.ref f15))) (l15 : K.lookup f15 = some ⟨oc15, od15, .func (PySem.W.fnOf "_under_read" "_under_read" (defArgs s__under_read) (defBody s__under_read) (defScope s__under_read) .none kV15 dc15 pm15 an15 cd15 ct15), sl15⟩) (c15 : PySem.W.codeIn K cd15 "_under_read" = true) (k15 : PySem.W.keepIn K (.ref f15) = true)
    (a16 : PySem.W.nsIn K mainGlobals "_tenths_read" = some (some (.ref f16))) (l16 : K.lookup f16 = some ⟨oc16, od16, .func (PySem.W.fnOf "_tenths_read" "_tenths_read" (defArgs s__tenths_read) (defBody s__tenths_read) (defScope s__tenths_read) .none kV16 dc16 pm16 an16 cd16 ct16), sl16⟩) (c16 : PySem.W.codeIn K cd16 "_tenths_read" = true) (k16 : PySem.W.keepIn K (.ref f16) = true)
    (a17 : PySem.W.nsIn K mainGlobals "check_text" = some (some (.ref f17))) (l17 : K.lookup f17 = some ⟨oc17, od17, .func (PySem.W.fnOf "check_text" "check_text" (defArgs s_check_text) (defBody s_check_text) (defScope s_check_text) .none kV17 dc17 pm17 an17 cd17 ct17), sl17⟩) (c17 : PySem.W.codeIn K cd17 "check_text" = true) (k17 : PySem.W.keepIn K (.ref f17) = true)
    (a18 : PySem.W.nsIn K mainGlobals "parse_ratio" = some (some (.ref f18))) (l18 : K.lookup f18 = some ⟨oc18, od18, .func (PySem.W.fnOf "parse_ratio" "parse_ratio" (defArgs s_parse_ratio) (defBody s_parse_ratio) (defScope s_parse_ratio) .none kV18 dc18 pm18 an18 cd18 ct18), sl18⟩) (c18 : PySem.W.codeIn K cd18 "parse_ratio" = true) (k18 : PySem.W.keepIn K (.ref f18) = true)
    (a19 : PySem.W.nsIn K mainGlobals "digits_of" = some (some (.ref f19))) (l19 : K.lookup f19 = some ⟨oc19, od19, .func (PySem.W.fnOf "digits_of" "digits_of" (defArgs s_digits_of) (defBody s_digits_of) (defScope s_digits_of) .none kV19 dc19 pm19 an19 cd19 ct19), sl19⟩) (c19 : PySem.W.codeIn K cd19 "digits_of" = true) (k19 : PySem.W.keepIn K (.ref f19) = true)
    (a20 : PySem.W.nsIn K mainGlobals "text_of_ratio" = some (some (.ref f20))) (l20 : K.lookup f20 = some ⟨oc20, od20, .func (PySem.W.fnOf "text_of_ratio" "text_of_ratio" (defArgs s_text_of_ratio) (defBody s_text_of_ratio) (defScope s_text_of_ratio) .none kV20 dc20 pm20 an20 cd20 ct20), sl20⟩) (c20 : PySem.W.codeIn K cd20 "text_of_ratio" = true) (k20 : PySem.W.keepIn K (.ref f20) = true)
    (a21 : PySem.W.nsIn K mainGlobals "ratio_text" = some (some (.ref f21))) (l21 : K.lookup f21 = some ⟨oc21, od21, .func (PySem.W.fnOf "ratio_text" "ratio_text" (defArgs s_ratio_text) (defBody s_ratio_text) (defScope s_ratio_text) .none kV21 dc21 pm21 an21 cd21 ct21), sl21⟩) (c21 : PySem.W.codeIn K cd21 "ratio_text" = true) (k21 : PySem.W.keepIn K (.ref f21) = true)
    (a22 : PySem.W.nsIn K mainGlobals "_law_text" = some (some (.ref f22))) (l22 : K.lookup f22 = some ⟨oc22, od22, .func (PySem.W.fnOf "_law_text" "_law_text" (defArgs s__law_text) (defBody s__law_text) (defScope s__law_text) .none kV22 dc22 pm22 an22 cd22 ct22), sl22⟩) (c22 : PySem.W.codeIn K cd22 "_law_text" = true) (k22 : PySem.W.keepIn K (.ref f22) = true)
    (a23 : PySem.W.nsIn K mainGlobals "_law_size" = some (some (.ref f23))) (l23 : K.lookup f23 = some ⟨oc23, od23, .func (PySem.W.fnOf "_law_size" "_law_size" (defArgs s__law_size) (defBody s__law_size) (defScope s__law_size) .none kV23 dc23 pm23 an23 cd23 ct23), sl23⟩) (c23 : PySem.W.codeIn K cd23 "_law_size" = true) (k23 : PySem.W.keepIn K (.ref f23) = true)
    (a24 : PySem.W.nsIn K mainGlobals "_law_number" = some (some (.ref f24))) (l24 : K.lookup f24 = some ⟨oc24, od24, .func (PySem.W.fnOf "_law_number" "_law_number" (defArgs s__law_number) (defBody s__law_number) (defScope s__law_number) .none kV24 dc24 pm24 an24 cd24 ct24), sl24⟩) (c24 : PySem.W.codeIn K cd24 "_law_number" = true) (k24 : PySem.W.keepIn K (.ref f24) = true)
    (a25 : PySem.W.nsIn K mainGlobals "_law_figures" = some (some (.ref f25))) (l25 : K.lookup f25 = some ⟨oc25, od25, .func (PySem.W.fnOf "_law_figures" "_law_figures" (defArgs s__law_figures) (defBody s__law_figures) (defScope s__law_figures) .none kV25 dc25 pm25 an25 cd25 ct25), sl25⟩) (c25 : PySem.W.codeIn K cd25 "_law_figures" = true) (k25 : PySem.W.keepIn K (.ref f25) = true)
    (a26 : PySem.W.nsIn K mainGlobals "_law_drawn_text" = some (some (.ref f26))) (l26 : K.lookup f26 = some ⟨oc26, od26, .func (PySem.W.fnOf "_law_drawn_text" "_law_drawn_text" (defArgs s__law_drawn_text) (defBody s__law_drawn_text) (defScope s__law_drawn_text) .none kV26 dc26 pm26 an26 cd26 ct26), sl26⟩) (c26 : PySem.W.codeIn K cd26 "_law_drawn_text" = true) (k26 : PySem.W.keepIn K (.ref f26) = true)
    (a27 : PySem.W.nsIn K mainGlobals "_law_heard" = some (some (.ref f27))) (l27 : K.lookup f27 = some ⟨oc27, od27, .func (PySem.W.fnOf "_law_heard" "_law_heard" (defArgs s__law_heard) (defBody s__law_heard) (defScope s__law_heard) .none kV27 dc27 pm27 an27 cd27 ct27), sl27⟩) (c27 : PySem.W.codeIn K cd27 "_law_heard" = true) (k27 : PySem.W.keepIn K (.ref f27) = true)
    (a28 : PySem.W.nsIn K mainGlobals "_law_read" = some (some (.ref f28))) (l28 : K.lookup f28 = some ⟨oc28, od28, .func (PySem.W.fnOf "_law_read" "_law_read" (defArgs s__law_read) (defBody s__law_read) (defScope s__law_read) .none kV28 dc28 pm28 an28 cd28 ct28), sl28⟩) (c28 : PySem.W.codeIn K cd28 "_law_read" = true) (k28 : PySem.W.keepIn K (.ref f28) = true)
    (a29 : PySem.W.nsIn K mainGlobals "_law_right" = some (some (.ref f29))) (l29 : K.lookup f29 = some ⟨oc29, od29, .func (PySem.W.fnOf "_law_right" "_law_right" (defArgs s__law_right) (defBody s__law_right) (defScope s__law_right) .none kV29 dc29 pm29 an29 cd29 ct29), sl29⟩) (c29 : PySem.W.codeIn K cd29 "_law_right" = true) (k29 : PySem.W.keepIn K (.ref f29) = true)
    (a30 : PySem.W.nsIn K mainGlobals "_law_pot" = some (some (.ref f30))) (l30 : K.lookup f30 = some ⟨oc30, od30, .func (PySem.W.fnOf "_law_pot" "_law_pot" (defArgs s__law_pot) (defBody s__law_pot) (defScope s__law_pot) .none kV30 dc30 pm30 an30 cd30 ct30), sl30⟩) (c30 : PySem.W.codeIn K cd30 "_law_pot" = true) (k30 : PySem.W.keepIn K (.ref f30) = true)
    (a31 : PySem.W.nsIn K mainGlobals "law" = some (some (.ref f31))) (l31 : K.lookup f31 = some ⟨oc31, od31, .func (PySem.W.fnOf "law" "law" (defArgs s_law) (defBody s_law) (defScope s_law) .none kV31 dc31 pm31 an31 cd31 ct31), sl31⟩) (c31 : PySem.W.codeIn K cd31 "law" = true) (k31 : PySem.W.keepIn K (.ref f31) = true)
    (z_abs : PySem.W.nsIn K mainGlobals "abs" = some none)
    (z_bool : PySem.W.nsIn K mainGlobals "bool" = some none)
    (z_divmod : PySem.W.nsIn K mainGlobals "divmod" = some none)
    (z_int : PySem.W.nsIn K mainGlobals "int" = some none)
    (z_isinstance : PySem.W.nsIn K mainGlobals "isinstance" = some none)
    (z_len : PySem.W.nsIn K mainGlobals "len" = some none)
    (z_max : PySem.W.nsIn K mainGlobals "max" = some none)
    (z_min : PySem.W.nsIn K mainGlobals "min" = some none)
    (z_range : PySem.W.nsIn K mainGlobals "range" = some none)
    (z_repr : PySem.W.nsIn K mainGlobals "repr" = some none)
    (z_str : PySem.W.nsIn K mainGlobals "str" = some none)
    (z_tuple : PySem.W.nsIn K mainGlobals "tuple" = some none)
    (n_gcd : PySem.W.nsIn K mainGlobals "gcd" = some (some (.builtin "math.gcd")))
    (n__MOST_DIGITS : PySem.W.nsIn K mainGlobals "_MOST_DIGITS" = some (some (.int 40 t__MOST_DIGITS)))
    (n__PIECE : PySem.W.nsIn K mainGlobals "_PIECE" = some (some (.int 1000000000000000000000000000000000000000000000000000000000000 t__PIECE)))
    (n__PIECE_DIGITS : PySem.W.nsIn K mainGlobals "_PIECE_DIGITS" = some (some (.int 60 t__PIECE_DIGITS)))
    (n__TOO_LARGE : PySem.W.nsIn K mainGlobals "_TOO_LARGE" = some (some (.int 10000000000000000000000000000000000000000 t__TOO_LARGE)))
    (ms__DIGITS : mg "_DIGITS" = some (.str "0123456789" t__DIGITS))
    (XM_BadText : ∀ base : Heap, Mk1 l.prog w K mg base "BadText" "position" 1)
    (CI_BadText : CatchIs K mg "BadText" "CourseError" "position" ["BadText"])
    : ∃ (fd : FuncData) (cs : List (Addr × Addr)) (sp : Sp), (∀ c ∈ cs, h.get? c.2 = some { cls := .none, data := .fields #[] } ∧ K.lookup c.2 = none ∧ PySem.W.CodeHd h c.1 c.2) ∧ (∀ (s : Shared) (v : Value), BindsTo s fd ⟨[v], []⟩ [("script", v)]) ∧ (∀ base : Heap, K.In base → base.Ns mainGlobals mg → (∀ c ∈ cs, GxR.TabB base mg c.1 c.2) → FnG l.prog w K mg base CX0 8 fa fd ["script"] sp) ∧ ∀ (H : Hp) (a : Addr) (ns : List Int), ns.length ≤ 63 → (∀ c ∈ cs, H c.2 = some (.tbl #[])) → SqL K H a (ns.map V.int) → sp [.ref a] H (fun v _ => v = .bl true) fun _ _ _ => False := by
  have e := hfa.symm.trans (PySem.W.mg_of X G a31)
  cases e
  have T : Txt K mg := { b_abs := PySem.W.mg_none_of X G z_abs, b_bool := PySem.W.mg_none_of X G z_bool, b_divmod := PySem.W.mg_none_of X G z_divmod, b_int := PySem.W.mg_none_of X G z_int, b_isinstance := PySem.W.mg_none_of X G z_isinstance, b_len := PySem.W.mg_none_of X G z_len, b_max := PySem.W.mg_none_of X G z_max, b_min := PySem.W.mg_none_of X G z_min, b_range := PySem.W.mg_none_of X G z_range, b_repr := PySem.W.mg_none_of X G z_repr, b_str := PySem.W.mg_none_of X G z_str, b_tuple := PySem.W.mg_none_of X G z_tuple, t__DIGITS := t__DIGITS, m__DIGITS := ms__DIGITS, t__MOST_DIGITS := t__MOST_DIGITS, m__MOST_DIGITS := PySem.W.mg_of X G n__MOST_DIGITS, t__PIECE := t__PIECE, m__PIECE := PySem.W.mg_of X G n__PIECE, t__PIECE_DIGITS := t__PIECE_DIGITS, m__PIECE_DIGITS := PySem.W.mg_of X G n__PIECE_DIGITS, t__TOO_LARGE := t__TOO_LARGE, m__TOO_LARGE := PySem.W.mg_of X G n__TOO_LARGE, m_gcd := PySem.W.mg_of X G n_gcd }
  have D_is_integer : Dfn K mg "is_integer" "is_integer" s_is_integer ["value"] [] := dfn_of X G a0 l0 c0 k0 (fun _ _ _ _ _ _ us hl => match us, hl with | [_], _ => rfl) (fun _ _ q hq => absurd hq List.not_mem_nil)
  have D_is_ratio : Dfn K mg "is_ratio" "is_ratio" s_is_ratio ["value"] [] := dfn_of X G a1 l1 c1 k1 (fun _ _ _ _ _ _ us hl => match us, hl with | [_], _ => rfl) (fun _ _ q hq => absurd hq List.not_mem_nil)
  have D__law_draw : Dfn K mg "_law_draw" "_law_draw" s__law_draw ["pot", "room"] [] := dfn_of X G a2 l2 c2 k2 (fun _ _ _ _ _ _ us hl => match us, hl with | [_, _], _ => rfl) (fun _ _ q hq => absurd hq List.not_mem_nil)
  have D__law_pick : Dfn K mg "_law_pick" "_law_pick" s__law_pick ["pot", "some"] [] := dfn_of X G a3 l3 c3 k3 (fun _ _ _ _ _ _ us hl => match us, hl with | [_, _], _ => rfl) (fun _ _ q hq => absurd hq List.not_mem_nil)
  have D__law_one : Dfn K mg "_law_one" "_law_one" s__law_one [] [] := dfn_of X G a4 l4 c4 k4 (fun _ _ _ _ _ _ us hl => match us, hl with | [], _ => rfl) (fun _ _ q hq => absurd hq List.not_mem_nil)
  have D__law_gcd : Dfn K mg "_law_gcd" "_law_gcd" s__law_gcd ["one", "other"] [] := dfn_of X G a5 l5 c5 k5 (fun _ _ _ _ _ _ us hl => match us, hl with | [_, _], _ => rfl) (fun _ _ q hq => absurd hq List.not_mem_nil)
  have D__law_ratio : Dfn K mg "_law_ratio" "_law_ratio" s__law_ratio ["number", "under"] [] := dfn_of X G a6 l6 c6 k6 (fun _ _ _ _ _ _ us hl => match us, hl with | [_, _], _ => rfl) (fun _ _ q hq => absurd hq List.not_mem_nil)
  have D__check_integer : Dfn K mg "_check_integer" "_check_integer" s__check_integer ["number"] [] := dfn_of X G a7 l7 c7 k7 (fun _ _ _ _ _ _ us hl => match us, hl with | [_], _ => rfl) (fun _ _ q hq => absurd hq List.not_mem_nil)
  have D_ratio_of : Dfn K mg "ratio_of" "ratio_of" s_ratio_of ["number", "under"] [] := dfn_of X G a8 l8 c8 k8 (fun _ _ _ _ _ _ us hl => match us, hl with | [_, _], _ => rfl) (fun _ _ q hq => absurd hq List.not_mem_nil)
  have D_ratio : Dfn K mg "ratio" "ratio" s_ratio ["number", "under"] [(["under", "number"], 0, [1, 0])] := dfn_of X G a9 l9 c9 k9 (fun _ _ _ _ _ _ us hl => match us, hl with | [_, _], _ => rfl) (kb_ratio)
  have D_check_ratio : Dfn K mg "check_ratio" "check_ratio" s_check_ratio ["ratio"] [] := dfn_of X G a10 l10 c10 k10 (fun _ _ _ _ _ _ us hl => match us, hl with | [_], _ => rfl) (fun _ _ q hq => absurd hq List.not_mem_nil)
  have D_digits_end : Dfn K mg "digits_end" "digits_end" s_digits_end ["text", "begin"] [] := dfn_of X G a11 l11 c11 k11 (fun _ _ _ _ _ _ us hl => match us, hl with | [_, _], _ => rfl) (fun _ _ q hq => absurd hq List.not_mem_nil)
  have D__few_digits_end : Dfn K mg "_few_digits_end" "_few_digits_end" s__few_digits_end ["text", "begin"] [] := dfn_of X G a12 l12 c12 k12 (fun _ _ _ _ _ _ us hl => match us, hl with | [_, _], _ => rfl) (fun _ _ q hq => absurd hq List.not_mem_nil)
  have D__check_read : Dfn K mg "_check_read" "_check_read" s__check_read ["text", "begin", "end"] [] := dfn_of X G a13 l13 c13 k13 (fun _ _ _ _ _ _ us hl => match us, hl with | [_, _, _], _ => rfl) (fun _ _ q hq => absurd hq List.not_mem_nil)
  have D__check_whole : Dfn K mg "_check_whole" "_check_whole" s__check_whole ["text", "end"] [] := dfn_of X G a14 l14 c14 k14 (fun _ _ _ _ _ _ us hl => match us, hl with | [_, _], _ => rfl) (fun _ _ q hq => absurd hq List.not_mem_nil)
  have D__under_read : Dfn K mg "_under_read" "_under_read" s__under_read ["text", "begin"] [] := dfn_of X G a15 l15 c15 k15 (fun _ _ _ _ _ _ us hl => match us, hl with | [_, _], _ => rfl) (fun _ _ q hq => absurd hq List.not_mem_nil)
  have D__tenths_read : Dfn K mg "_tenths_read" "_tenths_read" s__tenths_read ["text", "begin", "point"] [] := dfn_of X G a16 l16 c16 k16 (fun _ _ _ _ _ _ us hl => match us, hl with | [_, _, _], _ => rfl) (fun _ _ q hq => absurd hq List.not_mem_nil)
  have D_check_text : Dfn K mg "check_text" "check_text" s_check_text ["text"] [] := dfn_of X G a17 l17 c17 k17 (fun _ _ _ _ _ _ us hl => match us, hl with | [_], _ => rfl) (fun _ _ q hq => absurd hq List.not_mem_nil)
  have D_parse_ratio : Dfn K mg "parse_ratio" "parse_ratio" s_parse_ratio ["text"] [(["text"], 0, [0])] := dfn_of X G a18 l18 c18 k18 (fun _ _ _ _ _ _ us hl => match us, hl with | [_], _ => rfl) (kb_parse_ratio)
  have D_digits_of : Dfn K mg "digits_of" "digits_of" s_digits_of ["number"] [] := dfn_of X G a19 l19 c19 k19 (fun _ _ _ _ _ _ us hl => match us, hl with | [_], _ => rfl) (fun _ _ q hq => absurd hq List.not_mem_nil)
  have D_text_of_ratio : Dfn K mg "text_of_ratio" "text_of_ratio" s_text_of_ratio ["ratio"] [] := dfn_of X G a20 l20 c20 k20 (fun _ _ _ _ _ _ us hl => match us, hl with | [_], _ => rfl) (fun _ _ q hq => absurd hq List.not_mem_nil)
  have D_ratio_text : Dfn K mg "ratio_text" "ratio_text" s_ratio_text ["ratio"] [(["ratio"], 0, [0])] := dfn_of X G a21 l21 c21 k21 (fun _ _ _ _ _ _ us hl => match us, hl with | [_], _ => rfl) (kb_ratio_text)
  have D__law_text : Dfn K mg "_law_text" "_law_text" s__law_text ["told"] [] := dfn_of X G a22 l22 c22 k22 (fun _ _ _ _ _ _ us hl => match us, hl with | [_], _ => rfl) (fun _ _ q hq => absurd hq List.not_mem_nil)
  have D__law_size : Dfn K mg "_law_size" "_law_size" s__law_size ["pot"] [] := dfn_of X G a23 l23 c23 k23 (fun _ _ _ _ _ _ us hl => match us, hl with | [_], _ => rfl) (fun _ _ q hq => absurd hq List.not_mem_nil)
  have D__law_number : Dfn K mg "_law_number" "_law_number" s__law_number ["pot"] [] := dfn_of X G a24 l24 c24 k24 (fun _ _ _ _ _ _ us hl => match us, hl with | [_], _ => rfl) (fun _ _ q hq => absurd hq List.not_mem_nil)
  have D__law_figures : Dfn K mg "_law_figures" "_law_figures" s__law_figures ["pot"] [] := dfn_of X G a25 l25 c25 k25 (fun _ _ _ _ _ _ us hl => match us, hl with | [_], _ => rfl) (fun _ _ q hq => absurd hq List.not_mem_nil)
  have D__law_drawn_text : Dfn K mg "_law_drawn_text" "_law_drawn_text" s__law_drawn_text ["pot"] [] := dfn_of X G a26 l26 c26 k26 (fun _ _ _ _ _ _ us hl => match us, hl with | [_], _ => rfl) (fun _ _ q hq => absurd hq List.not_mem_nil)
  have D__law_heard : Dfn K mg "_law_heard" "_law_heard" s__law_heard ["text"] [] := dfn_of X G a27 l27 c27 k27 (fun _ _ _ _ _ _ us hl => match us, hl with | [_], _ => rfl) (fun _ _ q hq => absurd hq List.not_mem_nil)
  have D__law_read : Dfn K mg "_law_read" "_law_read" s__law_read ["text"] [] := dfn_of X G a28 l28 c28 k28 (fun _ _ _ _ _ _ us hl => match us, hl with | [_], _ => rfl) (fun _ _ q hq => absurd hq List.not_mem_nil)
  have D__law_right : Dfn K mg "_law_right" "_law_right" s__law_right ["pot"] [] := dfn_of X G a29 l29 c29 k29 (fun _ _ _ _ _ _ us hl => match us, hl with | [_], _ => rfl) (fun _ _ q hq => absurd hq List.not_mem_nil)
  have F30 := fun_mk (st := s__law_pot) l30 c30 k30
  have b30 := F30.binds (ps := ["script", "k"]) fun _ _ _ _ _ _ us hl => match us, hl with | [_, _], _ => rfl
  refine ⟨PySem.W.fnOf "law" "law" (defArgs s_law) (defBody s_law) (defScope s_law) .none kV31 dc31 pm31 an31 cd31 ct31, [], spLaw K (⟨[], mg, []⟩ : Tf), ?_, fun s v => .of_eq rfl, fun base _ _ hTB => ?_, fun H a ns _ hT hS => ⟨a, ns, rfl, hS, ?_, fun t ht => absurd ht List.not_mem_nil, fun t ht => absurd ht List.not_mem_nil, fun _ => rfl⟩⟩
  · intro c hc
    cases hc
  rotate_left
  · intro t ht
    cases ht
  have C_is_integer := ok_is_integer (P := l.prog) (w := w) (base := base) (tabs := (⟨[], mg, []⟩ : Tf)) T D_is_integer
  have C_is_ratio := ok_is_ratio (P := l.prog) (w := w) (base := base) (tabs := (⟨[], mg, []⟩ : Tf)) T D_is_ratio C_is_integer
  have C__law_draw := ok__law_draw (P := l.prog) (w := w) (base := base) (tabs := (⟨[], mg, []⟩ : Tf)) T D__law_draw
  have C__law_pick := ok__law_pick (P := l.prog) (w := w) (base := base) (tabs := (⟨[], mg, []⟩ : Tf)) T D__law_pick C__law_draw
  have C__law_one := ok__law_one (P := l.prog) (w := w) (base := base) (tabs := (⟨[], mg, []⟩ : Tf)) T D__law_one
  have C__law_gcd := ok__law_gcd (P := l.prog) (w := w) (base := base) (tabs := (⟨[], mg, []⟩ : Tf)) T D__law_gcd
  have C__law_ratio := ok__law_ratio (P := l.prog) (w := w) (base := base) (tabs := (⟨[], mg, []⟩ : Tf)) T D__law_ratio C__law_gcd
  have C__check_integer := ok__check_integer (P := l.prog) (w := w) (base := base) (tabs := (⟨[], mg, []⟩ : Tf)) T D__check_integer C_is_integer
  have C_ratio_of := ok_ratio_of (P := l.prog) (w := w) (base := base) (tabs := (⟨[], mg, []⟩ : Tf)) T D_ratio_of
  have C_ratio_ofany := ok_ratio_ofany (P := l.prog) (w := w) (base := base) (tabs := (⟨[], mg, []⟩ : Tf)) T D_ratio_of
  have C_ratio := ok_ratio (P := l.prog) (w := w) (base := base) (tabs := (⟨[], mg, []⟩ : Tf)) T D_ratio C__check_integer C_ratio_ofany
  have C_check_ratio := ok_check_ratio (P := l.prog) (w := w) (base := base) (tabs := (⟨[], mg, []⟩ : Tf)) T D_check_ratio C_is_ratio
  have C_digits_end := ok_digits_end (P := l.prog) (w := w) (base := base) (tabs := (⟨[], mg, []⟩ : Tf)) T D_digits_end
  have C__few_digits_end := ok__few_digits_end (P := l.prog) (w := w) (base := base) (tabs := (⟨[], mg, []⟩ : Tf)) T D__few_digits_end C_digits_end
  have C__check_read := ok__check_read (P := l.prog) (w := w) (base := base) (tabs := (⟨[], mg, []⟩ : Tf)) T D__check_read rfl (XM_BadText base)
  have C__check_whole := ok__check_whole (P := l.prog) (w := w) (base := base) (tabs := (⟨[], mg, []⟩ : Tf)) T D__check_whole rfl (XM_BadText base)
  have C__under_read := ok__under_read (P := l.prog) (w := w) (base := base) (tabs := (⟨[], mg, []⟩ : Tf)) T D__under_read rfl C__few_digits_end C__check_read C__check_whole (XM_BadText base)
  have C__tenths_read := ok__tenths_read (P := l.prog) (w := w) (base := base) (tabs := (⟨[], mg, []⟩ : Tf)) T D__tenths_read C__few_digits_end C__check_read C__check_whole C_ratio_of
  have C_check_text := ok_check_text (P := l.prog) (w := w) (base := base) (tabs := (⟨[], mg, []⟩ : Tf)) T D_check_text
  have C_parse_ratio := ok_parse_ratio (P := l.prog) (w := w) (base := base) (tabs := (⟨[], mg, []⟩ : Tf)) T D_parse_ratio C_check_text C__few_digits_end C__check_read C_ratio_of C__under_read C__tenths_read C__check_whole
  have C_digits_ofpos := ok_digits_ofpos (P := l.prog) (w := w) (base := base) (tabs := (⟨[], mg, []⟩ : Tf)) T D_digits_of
  have C_digits_of := ok_digits_of (P := l.prog) (w := w) (base := base) (tabs := (⟨[], mg, []⟩ : Tf)) T D_digits_of C_digits_ofpos
  have C_text_of_ratio := ok_text_of_ratio (P := l.prog) (w := w) (base := base) (tabs := (⟨[], mg, []⟩ : Tf)) T D_text_of_ratio C_digits_of
  have C_ratio_text := ok_ratio_text (P := l.prog) (w := w) (base := base) (tabs := (⟨[], mg, []⟩ : Tf)) T D_ratio_text C_check_ratio C_text_of_ratio
  have C__law_text := ok__law_text (P := l.prog) (w := w) (base := base) (tabs := (⟨[], mg, []⟩ : Tf)) T D__law_text
  have C__law_size := ok__law_size (P := l.prog) (w := w) (base := base) (tabs := (⟨[], mg, []⟩ : Tf)) T D__law_size C__law_draw C__law_pick C__law_one
  have C__law_number := ok__law_number (P := l.prog) (w := w) (base := base) (tabs := (⟨[], mg, []⟩ : Tf)) T D__law_number C__law_size C__law_draw
  have C__law_figures := ok__law_figures (P := l.prog) (w := w) (base := base) (tabs := (⟨[], mg, []⟩ : Tf)) T D__law_figures C__law_draw C__law_pick C__law_size
  have C__law_drawn_text := ok__law_drawn_text (P := l.prog) (w := w) (base := base) (tabs := (⟨[], mg, []⟩ : Tf)) T D__law_drawn_text C__law_pick C__law_figures C__law_draw
  have C__law_heard := ok__law_heard (P := l.prog) (w := w) (base := base) (tabs := (⟨[], mg, []⟩ : Tf)) T D__law_heard rfl C_parse_ratio CI_BadText
  have C__law_read := ok__law_read (P := l.prog) (w := w) (base := base) (tabs := (⟨[], mg, []⟩ : Tf)) T D__law_read C__law_ratio
  have C__law_right := ok__law_right (P := l.prog) (w := w) (base := base) (tabs := (⟨[], mg, []⟩ : Tf)) T D__law_right C__law_number C_ratio C__law_ratio C_parse_ratio C_ratio_text C__law_text C__law_drawn_text C__law_heard C__law_read
  exact raw_law (fun_mk (st := s_law) l31 c31 k31) (raw_pot T F30) b30 (PySem.W.mg_of X G a30) k30 C__law_right
set_option maxHeartbeats 0 in
theorem all_mk2 {l : PySem.W.OpenLaw} {w : World} {K : PySem.W.Frag} {h : Heap} {mg : Str → Option Value} {fa : Addr} (X : K.In h) (G : h.Ns mainGlobals mg) (hfa : mg "law" = some (.ref fa)) (S : DL.SaysX fx fns K)
    : ∃ (fd : FuncData) (cs : List (Addr × Addr)) (sp : Sp), (∀ c ∈ cs, h.get? c.2 = some { cls := .none, data := .fields #[] } ∧ K.lookup c.2 = none ∧ PySem.W.CodeHd h c.1 c.2) ∧ (∀ (s : Shared) (v : Value), BindsTo s fd ⟨[v], []⟩ [("script", v)]) ∧ (∀ base : Heap, K.In base → base.Ns mainGlobals mg → (∀ c ∈ cs, GxR.TabB base mg c.1 c.2) → FnG l.prog w K mg base CX0 8 fa fd ["script"] sp) ∧ ∀ (H : Hp) (a : Addr) (ns : List Int), ns.length ≤ 63 → (∀ c ∈ cs, H c.2 = some (.tbl #[])) → SqL K H a (ns.map V.int) → sp [.ref a] H (fun v _ => v = .bl true) fun _ _ _ => False := by
  obtain ⟨oc0, od0, sl0, kV0, dc0, pm0, an0, cd0, ct0, l0, c0⟩ := S.def_ 0 (d := fn_is_integer) rfl
  obtain ⟨oc1, od1, sl1, kV1, dc1, pm1, an1, cd1, ct1, l1, c1⟩ := S.def_ 1 (d := fn_is_ratio) rfl
  obtain ⟨oc2, od2, sl2, kV2, dc2, pm2, an2, cd2, ct2, l2, c2⟩ := S.def_ 2 (d := fn__law_draw) rfl
  obtain ⟨oc3, od3, sl3, kV3, dc3, pm3, an3, cd3, ct3, l3, c3⟩ := S.def_ 3 (d := fn__law_pick) rfl
  obtain ⟨oc4, od4, sl4, kV4, dc4, pm4, an4, cd4, ct4, l4, c4⟩ := S.def_ 4 (d := fn__law_one) rfl
  obtain ⟨oc5, od5, sl5, kV5, dc5, pm5, an5, cd5, ct5, l5, c5⟩ := S.def_ 5 (d := fn__law_gcd) rfl
  obtain ⟨oc6, od6, sl6, kV6, dc6, pm6, an6, cd6, ct6, l6, c6⟩ := S.def_ 6 (d := fn__law_ratio) rfl
  obtain ⟨oc7, od7, sl7, kV7, dc7, pm7, an7, cd7, ct7, l7, c7⟩ := S.def_ 7 (d := fn__check_integer) rfl
  obtain ⟨oc8, od8, sl8, kV8, dc8, pm8, an8, cd8, ct8, l8, c8⟩ := S.def_ 8 (d := fn_ratio_of) rfl
  obtain ⟨oc9, od9, sl9, kV9, dc9, pm9, an9, cd9, ct9, l9, c9⟩ := S.def_ 9 (d := fn_ratio) rfl
  obtain ⟨oc10, od10, sl10, kV10, dc10, pm10, an10, cd10, ct10, l10, c10⟩ := S.def_ 10 (d := fn_check_ratio) rfl
  obtain ⟨oc11, od11, sl11, kV11, dc11, pm11, an11, cd11, ct11, l11, c11⟩ := S.def_ 11 (d := fn_digits_end) rfl
  obtain ⟨oc12, od12, sl12, kV12, dc12, pm12, an12, cd12, ct12, l12, c12⟩ := S.def_ 12 (d := fn__few_digits_end) rfl
  obtain ⟨oc13, od13, sl13, kV13, dc13, pm13, an13, cd13, ct13, l13, c13⟩ := S.def_ 13 (d := fn__check_read) rfl
  obtain ⟨oc14, od14, sl14, kV14, dc14, pm14, an14, cd14, ct14, l14, c14⟩ := S.def_ 14 (d := fn__check_whole) rfl
  obtain ⟨oc15, od15, sl15, kV15, dc15, pm15, an15, cd15, ct15, l15, c15⟩ := S.def_ 15 (d := fn__under_read) rfl
  obtain ⟨oc16, od16, sl16, kV16, dc16, pm16, an16, cd16, ct16, l16, c16⟩ := S.def_ 16 (d := fn__tenths_read) rfl
  obtain ⟨oc17, od17, sl17, kV17, dc17, pm17, an17, cd17, ct17, l17, c17⟩ := S.def_ 17 (d := fn_check_text) rfl
  obtain ⟨oc18, od18, sl18, kV18, dc18, pm18, an18, cd18, ct18, l18, c18⟩ := S.def_ 18 (d := fn_parse_ratio) rfl
  obtain ⟨oc19, od19, sl19, kV19, dc19, pm19, an19, cd19, ct19, l19, c19⟩ := S.def_ 19 (d := fn_digits_of) rfl
  obtain ⟨oc20, od20, sl20, kV20, dc20, pm20, an20, cd20, ct20, l20, c20⟩ := S.def_ 20 (d := fn_text_of_ratio) rfl
  obtain ⟨oc21, od21, sl21, kV21, dc21, pm21, an21, cd21, ct21, l21, c21⟩ := S.def_ 21 (d := fn_ratio_text) rfl
  obtain ⟨oc22, od22, sl22, kV22, dc22, pm22, an22, cd22, ct22, l22, c22⟩ := S.def_ 22 (d := fn__law_text) rfl
  obtain ⟨oc23, od23, sl23, kV23, dc23, pm23, an23, cd23, ct23, l23, c23⟩ := S.def_ 23 (d := fn__law_size) rfl
  obtain ⟨oc24, od24, sl24, kV24, dc24, pm24, an24, cd24, ct24, l24, c24⟩ := S.def_ 24 (d := fn__law_number) rfl
  obtain ⟨oc25, od25, sl25, kV25, dc25, pm25, an25, cd25, ct25, l25, c25⟩ := S.def_ 25 (d := fn__law_figures) rfl
  obtain ⟨oc26, od26, sl26, kV26, dc26, pm26, an26, cd26, ct26, l26, c26⟩ := S.def_ 26 (d := fn__law_drawn_text) rfl
  obtain ⟨oc27, od27, sl27, kV27, dc27, pm27, an27, cd27, ct27, l27, c27⟩ := S.def_ 27 (d := fn__law_heard) rfl
  obtain ⟨oc28, od28, sl28, kV28, dc28, pm28, an28, cd28, ct28, l28, c28⟩ := S.def_ 28 (d := fn__law_read) rfl
  obtain ⟨oc29, od29, sl29, kV29, dc29, pm29, an29, cd29, ct29, l29, c29⟩ := S.def_ 29 (d := fn__law_right) rfl
  obtain ⟨oc30, od30, sl30, kV30, dc30, pm30, an30, cd30, ct30, l30, c30⟩ := S.def_ 30 (d := fn__law_pot) rfl
  obtain ⟨oc31, od31, sl31, kV31, dc31, pm31, an31, cd31, ct31, l31, c31⟩ := S.def_ 31 (d := fn_law) rfl
  obtain ⟨t__MOST_DIGITS, n__MOST_DIGITS⟩ := DL.num_eq (S.fact 77 (f := .num "_MOST_DIGITS" (40)) rfl)
  obtain ⟨t__PIECE, n__PIECE⟩ := DL.num_eq (S.fact 78 (f := .num "_PIECE" (1000000000000000000000000000000000000000000000000000000000000)) rfl)
  obtain ⟨t__PIECE_DIGITS, n__PIECE_DIGITS⟩ := DL.num_eq (S.fact 79 (f := .num "_PIECE_DIGITS" (60)) rfl)
  obtain ⟨t__TOO_LARGE, n__TOO_LARGE⟩ := DL.num_eq (S.fact 80 (f := .num "_TOO_LARGE" (10000000000000000000000000000000000000000)) rfl)
  obtain ⟨t__DIGITS, ms__DIGITS⟩ := He.str_ok X G (x := "_DIGITS") (z := "0123456789") (S.fact 81 (f := .old (.str "_DIGITS" "0123456789")) rfl)
  have m_BadText : mg "BadText" = some (.ref (He.ga K "BadText")) := PySem.W.mg_of X G (He.eqO_ok (S.fact 82 (f := .old (.glo "BadText")) rfl))
  have m_CourseError : mg "CourseError" = some (.ref (He.ga K "CourseError")) := PySem.W.mg_of X G (He.eqO_ok (S.fact 83 (f := .old (.glo "CourseError")) rfl))
  obtain ⟨oc32, od32, sl32, kV32, dc32, pm32, an32, cd32, ct32, l32, c32⟩ := S.def_ 32 (d := fn_X_BadText) rfl
  have XM_BadText : ∀ base : Heap, Mk1 l.prog w K mg base "BadText" "position" 1 := fun base => mk1_of m_BadText (oxg_of PySem.F.excBase_ValueError PySem.F.store_ValueError (S.fact 84 (f := .exg "BadText" "ValueError" "ValueError.__new__") rfl)) (S.fact 85 (f := .mth "BadText" "__init__") rfl) (He.eqO_ok (S.fact 86 (f := .old (.noat "BadText" "position")) rfl)) l32 c32 sci_BadText (binds_of (st := methS s_BadText) (ps := ["self", "position"]) l32 c32 (fun _ _ _ _ _ _ us hl => match us, hl with | [_, _], _ => rfl)) rfl rfl
  have CI_BadText : CatchIs K mg "BadText" "CourseError" "position" ["BadText"] := catchIs_of m_BadText m_CourseError (PySem.W.mg_none_of X G (He.eqO_ok (S.fact 68 (f := .old (.free "isinstance")) rfl))) (exm_of (S.fact 89 (f := .old (.exm "BadText" "BadText" true)) rfl)) (by
    intro y hy hn
    have e2 := List.mem_singleton.mp hy
    subst e2
    exact absurd rfl hn) (S.fact 87 (f := .exi "BadText" "CourseError") rfl) (S.fact 88 (f := .xf "BadText") rfl) (He.eqO_ok (S.fact 86 (f := .old (.noat "BadText" "position")) rfl))
  exact all_mk (l := l) (w := w) X G hfa (He.eqO_ok (S.fact 0 (f := .old (.glo "is_integer")) rfl)) l0 c0 (S.fact 1 (f := .old (.keep "is_integer")) rfl) (He.eqO_ok (S.fact 2 (f := .old (.glo "is_ratio")) rfl)) l1 c1 (S.fact 3 (f := .old (.keep "is_ratio")) rfl) (He.eqO_ok (S.fact 4 (f := .old (.glo "_law_draw")) rfl)) l2 c2 (S.fact 5 (f := .old (.keep "_law_draw")) rfl) (He.eqO_ok (S.fact 6 (f := .old (.glo "_law_pick")) rfl)) l3 c3 (S.fact 7 (f := .old (.keep "_law_pick")) rfl) (He.eqO_ok (S.fact 8 (f := .old (.glo "_law_one")) rfl)) l4 c4 (S.fact 9 (f := .old (.keep "_law_one")) rfl) (He.eqO_ok (S.fact 10 (f := .old (.glo "_law_gcd")) rfl)) l5 c5 (S.fact 11 (f := .old (.keep "_law_gcd")) rfl) (He.eqO_ok (S.fact 12 (f := .old (.glo "_law_ratio")) rfl)) l6 c6 (S.fact 13 (f := .old (.keep "_law_ratio")) rfl) (He.eqO_ok (S.fact 14 (f := .old (.glo "_check_integer")) rfl)) l7 c7 (S.fact 15 (f := .old (.keep "_check_integer")) rfl) (He.eqO_ok (S.fact 16 (f := .old (.glo "ratio_of")) rfl)) l8 c8 (S.fact 17 (f := .old (.keep "ratio_of")) rfl) (He.eqO_ok (S.fact 18 (f := .old (.glo "ratio")) rfl)) l9 c9 (S.fact 19 (f := .old (.keep "ratio")) rfl) (He.eqO_ok (S.fact 20 (f := .old (.glo "check_ratio")) rfl)) l10 c10 (S.fact 21 (f := .old (.keep "check_ratio")) rfl) (He.eqO_ok (S.fact 22 (f := .old (.glo "digits_end")) rfl)) l11 c11 (S.fact 23 (f := .old (.keep "digits_end")) rfl) (He.eqO_ok (S.fact 24 (f := .old (.glo "_few_digits_end")) rfl)) l12 c12 (S.fact 25 (f := .old (.keep "_few_digits_end")) rfl) (He.eqO_ok (S.fact 26 (f := .old (.glo "_check_read")) rfl)) l13 c13 (S.fact 27 (f := .old (.keep "_check_read")) rfl) (He.eqO_ok (S.fact 28 (f := .old (.glo "_check_whole")) rfl)) l14 c14 (S.fact 29 (f := .old (.keep "_check_whole")) rfl) (He.eqO_ok (S.fact 30 (f := .old (.glo "_under_read")) rfl)) l15 c15 (S.fact 31 (f := .old (.keep "_under_read")) rfl) (He.eqO_ok (S.fact 32 (f := .old (.glo "_tenths_read")) rfl)) l16 c16 (S.fact 33 (f := .old (.keep "_tenths_read")) rfl) (He.eqO_ok (S.fact 34 (f := .old (.glo "check_text")) rfl)) l17 c17 (S.fact 35 (f := .old (.keep "check_text")) rfl) (He.eqO_ok (S.fact 36 (f := .old (.glo "parse_ratio")) rfl)) l18 c18 (S.fact 37 (f := .old (.keep "parse_ratio")) rfl) (He.eqO_ok (S.fact 38 (f := .old (.glo "digits_of")) rfl)) l19 c19 (S.fact 39 (f := .old (.keep "digits_of")) rfl) (He.eqO_ok (S.fact 40 (f := .old (.glo "text_of_ratio")) rfl)) l20 c20 (S.fact 41 (f := .old (.keep "text_of_ratio")) rfl) (He.eqO_ok (S.fact 42 (f := .old (.glo "ratio_text")) rfl)) l21 c21 (S.fact 43 (f := .old (.keep "ratio_text")) rfl) (He.eqO_ok (S.fact 44 (f := .old (.glo "_law_text")) rfl)) l22 c22 (S.fact 45 (f := .old (.keep "_law_text")) rfl) (He.eqO_ok (S.fact 46 (f := .old (.glo "_law_size")) rfl)) l23 c23 (S.fact 47 (f := .old (.keep "_law_size")) rfl) (He.eqO_ok (S.fact 48 (f := .old (.glo "_law_number")) rfl)) l24 c24 (S.fact 49 (f := .old (.keep "_law_number")) rfl) (He.eqO_ok (S.fact 50 (f := .old (.glo "_law_figures")) rfl)) l25 c25 (S.fact 51 (f := .old (.keep "_law_figures")) rfl) (He.eqO_ok (S.fact 52 (f := .old (.glo "_law_drawn_text")) rfl)) l26 c26 (S.fact 53 (f := .old (.keep "_law_drawn_text")) rfl) (He.eqO_ok (S.fact 54 (f := .old (.glo "_law_heard")) rfl)) l27 c27 (S.fact 55 (f := .old (.keep "_law_heard")) rfl) (He.eqO_ok (S.fact 56 (f := .old (.glo "_law_read")) rfl)) l28 c28 (S.fact 57 (f := .old (.keep "_law_read")) rfl) (He.eqO_ok (S.fact 58 (f := .old (.glo "_law_right")) rfl)) l29 c29 (S.fact 59 (f := .old (.keep "_law_right")) rfl) (He.eqO_ok (S.fact 60 (f := .old (.glo "_law_pot")) rfl)) l30 c30 (S.fact 61 (f := .old (.keep "_law_pot")) rfl) (He.eqO_ok (S.fact 62 (f := .old (.glo "law")) rfl)) l31 c31 (S.fact 63 (f := .old (.keep "law")) rfl) (He.eqO_ok (S.fact 64 (f := .old (.free "abs")) rfl)) (He.eqO_ok (S.fact 65 (f := .old (.free "bool")) rfl)) (He.eqO_ok (S.fact 66 (f := .old (.free "divmod")) rfl)) (He.eqO_ok (S.fact 67 (f := .old (.free "int")) rfl)) (He.eqO_ok (S.fact 68 (f := .old (.free "isinstance")) rfl)) (He.eqO_ok (S.fact 69 (f := .old (.free "len")) rfl)) (He.eqO_ok (S.fact 70 (f := .old (.free "max")) rfl)) (He.eqO_ok (S.fact 71 (f := .old (.free "min")) rfl)) (He.eqO_ok (S.fact 72 (f := .old (.free "range")) rfl)) (He.eqO_ok (S.fact 73 (f := .old (.free "repr")) rfl)) (He.eqO_ok (S.fact 74 (f := .old (.free "str")) rfl)) (He.eqO_ok (S.fact 75 (f := .old (.free "tuple")) rfl)) (DL.bui_eq (S.fact 76 (f := .bui "gcd" "math.gcd") rfl)) n__MOST_DIGITS n__PIECE n__PIECE_DIGITS n__TOO_LARGE ms__DIGITS XM_BadText CI_BadText
end LW
open PySem PySem.W PyProof.Rows in
set_option maxRecDepth 100000 in
set_option maxHeartbeats 0 in
theorem PySem.Challenge.cw_truecourse_k11_whole_ratios_and_texts_holds : PySem.Challenge.rw_truecourse_k11_whole_ratios_and_texts.Holds := by
  w_on; o_law
  refine HandSHeadRun.head_imp (r := LW.RR) (q := LW.qv) (H := DL.hookX 9 LW.fx LW.fns) (ob := DL.obX 9 LW.fx LW.fns) (M := 20000) (loose := LW.loose) (d := (HandSHeadRun.topDef LW.RR.prog 49)) (kwd := []) (DL.obX_eq 9 LW.fx LW.fns) LW.run (by kernel_rfl) (by kernel_rfl) (by kernel_rfl) (by rfl) (by first | assumption | decide +kernel) (by decide +kernel) ⟨rfl, rfl, rfl, rfl, rfl, by decide +kernel⟩ ?hw ?hc
  case hw => w_witness2
  case hc =>
    refine DL.walkX (l := PySem.Challenge.rw_truecourse_k11_whole_ratios_and_texts) (n := 63) (x := "script") (k := 8) (S := DL.SaysX LW.fx LW.fns) rfl (by decide) (by kernel_rfl) ⟨rfl, by decide, by decide⟩ ?F
    intro w mg fa h K KX S G hmg0 own
    have hmg : mg ("law" : PySem.Str) = some (.ref fa) := by
      have e : (HandSHeadRun.topDef LW.RR.prog 49).name = ("law" : PySem.Str) := by kernel_rfl
      rw [← e]
      exact hmg0
    exact LW.all_mk2 KX G hmg S
