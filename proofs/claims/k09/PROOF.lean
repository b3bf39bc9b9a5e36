import PyProof.Rows.All
import Wide.All
import OpenK.AllK
import Wide.FinOn
import HandS.ForMost
import HandS.ForExc
import HandS.IsInst
import HandS.StrMore
import HandS.RaiseMore
import HandS.Replace
import HandS.Flow
import HandS.Codes
import HandS.FStr
import HandS.DictComp
import HandS.Conv
import HandS.Star
import HandS.More
import KE.IntTextText
import HandS.ExcIs
import HandS.ExcOwn
import HandS.Dict
import HandS.Lambda
import HandS.EndOwn
import HandS.AnyAll
import HandS.JoinGen
import HandS.Nested
import HandS.DeepEq
import HandS.Walk
import HandS.ExcCtx
import HandS.Finally
import HandS.WordsDict
import KE.GoesComp
import KE.GoesRaise
import HandS.Deep
import HandS.Rev
import HandS.RevTup
import HandS.Strs
import HandS.SetFor
import HandS.SetBool
import HandS.HotCalls
import PySem.Challenge.RW_undotable_k09_refused_and_nothing_change
set_option Elab.async false
set_option maxRecDepth 100000
set_option maxHeartbeats 4000000
set_option linter.all false
set_option exponentiation.threshold 2000
namespace U
open PySem L2

/-! ### a def under its name -/
structure Cal (P : Program) (w : World) (K : PySem.W.Frag) (mg : Str → Option Value) (base : Heap) (k : Nat) (x : Str) (ps : List Str) (sp : Sp) : Prop where
  ex : ∃ (f : Addr) (fd : FuncData), FnOk P w K mg base CX0 k f fd ps sp ∧ mg x = some (.ref f) ∧ PySem.W.keepIn K (.ref f) = true ∧ Binds K fd ps []
theorem Cal.mono {P : Program} {w : World} {K : PySem.W.Frag} {mg : Str → Option Value} {base : Heap} {j k : Nat} {x : Str} {ps : List Str} {sp : Sp} (c : Cal P w K mg base j x ps sp) (h : j ≤ k) : Cal P w K mg base k x ps sp := by
  obtain ⟨f, fd, F, a, b, d⟩ := c.ex
  exact ⟨f, fd, F.mono h, a, b, d⟩
theorem Cal.imp {P : Program} {w : World} {K : PySem.W.Frag} {mg : Str → Option Value} {base : Heap} {k : Nat} {x : Str} {ps : List Str} {sp sp' : Sp} (c : Cal P w K mg base k x ps sp) (h : ∀ vs H Q E, sp' vs H Q E → sp vs H Q E) : Cal P w K mg base k x ps sp' := by
  obtain ⟨f, fd, F, a, b, d⟩ := c.ex
  exact ⟨f, fd, F.imp h, a, b, d⟩
def tCal (sp : Sp) (E : XK) (t : TA) : TE := fun σ H Q => t σ H fun vs H1 => sp vs H1 Q E
theorem tCal_eq (sp : Sp) (E : XK) (t : TA) : tCall sp [] E t = tCal sp E t := by
  funext σ H Q
  unfold tCall tCal
  have e : (fun (vs : List V) (H1 : Hp) => sp (vs ++ []) H1 Q E) = fun vs H1 => sp vs H1 Q E := by
    funext vs H1
    rw [List.append_nil]
  rw [e]
section
variable {X : Cx} {k : Nat} {x : Str} {ps : List Str} {sp : Sp} {p pos : Pos} {e : Expr} {es : List Expr} {t : TA}
theorem pc_c (c : Cal X.prog X.w X.K X.mg X.base k x ps sp) (hr : Room k X.A) (hg : Gl X x) (ha : PA X (e :: es) t)
    (hdb : (x == ("__debug__" : Str)) = false := by decide) (he : starEach (e :: es) X.env = (false, eval e X.env) :: starEach es X.env := by rfl) (hpl : (backTo pos (starEach es X.env)).any (·.1) = false := by rfl) :
    PE X (.Call (.Name x p) (e :: es) [] pos) (tCal sp E0 t) := by
  obtain ⟨f, fd, F, hm, kp, b⟩ := c.ex
  rw [← tCal_eq]
  exact pe_call F hr hg hm kp b .nil pass0 ha hdb he hpl
end
/-- what the builtins' names hold: nothing of the module's own -/
structure Bt (mg : Str → Option Value) : Prop where
  len : mg "len" = none
  range : mg "range" = none
  int : mg "int" = none
  str : mg "str" = none
  bool : mg "bool" = none
  list : mg "list" = none
  tuple : mg "tuple" = none
  dict : mg "dict" = none
  sorted : mg "sorted" = none
  isinstance : mg "isinstance" = none
  min : mg "min" = none
  max : mg "max" = none
  ValueError : mg "ValueError" = none
  abs : mg "abs" = none
  any : mg "any" = none
  reversed : mg "reversed" = none
theorem nomarkIn (b : Expr) {op : CmpOp} (h : behindInMarks op b = false := by rfl) : behindInMarks op b = false := h

theorem cmulR {i j : Int} (h1 : -(2 ^ 64) < j) (h2 : j < 2 ^ 64) : CMul i j := .inr ⟨h1, h2⟩
theorem cmulL {i j : Int} (h1 : -(2 ^ 64) < i) (h2 : i < 2 ^ 64) : CMul i j := .inl ⟨h1, h2⟩
theorem at0 {α : Type} {x : α} {r : List α} : atI (x :: r) 0 = some x := by
  have h : atI (x :: r) ((0 : Nat) : Int) = some x := atI_nat rfl
  exact h
theorem ix0 {x : V} {r : List V} : ixN (x :: r).length 0 = some 0 := by
  unfold ixN
  rw [if_pos (by decide), if_pos (by simp only [List.length_cons]; omega)]
  rfl
theorem sq0 {x : V} {r : List V} : seqIndex? 0 (x :: r).length = some 0 := by
  simp [seqIndex?]
theorem yes_ {σ : L2.St} {H : Hp} {A B : Hp → Prop} (h : A H) : tYes σ H (fun b H3 => if b = true then A H3 else B H3) := by
  show if true = true then A H else B H
  rw [if_pos rfl]
  exact h
/-- x or y, as a test: both ways meet -/
theorem or_join {A B Y : Prop} {a b : Bool} (hY : (if b = true then A else B) → Y) (h1 : (a || b) = true → A) (h2 : (a || b) = false → B) : if a = true then (if true = true then A else B) else Y := by
  cases a with
  | true => exact iteT (B := Y) (by rw [if_pos rfl]; exact h1 rfl)
  | false =>
    refine iteF (hY ?_)
    cases b with
    | true => exact iteT (h1 rfl)
    | false => exact iteF (h2 rfl)
theorem and_join {A B Y : Prop} {a b : Bool} (hY : (if b = true then A else B) → Y) (h1 : (a && b) = true → A) (h2 : (a && b) = false → B) : if a = true then Y else (if false = true then A else B) := by
  cases a with
  | false =>
    rw [if_neg Bool.false_ne_true, if_neg Bool.false_ne_true]
    exact h2 rfl
  | true =>
    rw [if_pos rfl]
    refine hY ?_
    cases b with
    | true => exact iteT (h1 rfl)
    | false => exact iteF (h2 rfl)
theorem dec_i {i j : Int} : decide (V.int i = V.int j) = decide (i = j) := by
  by_cases h : i = j
  · subst h; simp
  · rw [decide_eq_false h, decide_eq_false fun e => h (V.int.inj e)]
theorem dec_s {i j : Str} : decide (V.str i = V.str j) = decide (i = j) := by
  by_cases h : i = j
  · subst h; simp
  · rw [decide_eq_false h, decide_eq_false fun e => h (V.str.inj e)]
/-! ### heaps -/
theorem same_new {H : Hp} {p : Addr} (h : H p = none) (o : HO) : Same H (upd H p o) := fun b u q => by rw [upd_ne (ne_of_none q h)]; exact q
/-- all but what stands at b and l is as it was -/
def Keep (b l : Addr) (H H' : Hp) : Prop := ∀ c o, H c = some o → c ≠ b → c ≠ l → H' c = some o
theorem Keep.refl (b l : Addr) (H : Hp) : Keep b l H H := fun _ _ h _ _ => h
theorem Keep.trans {b l : Addr} {H H1 H2 : Hp} (x : Keep b l H H1) (y : Keep b l H1 H2) : Keep b l H H2 := fun c o h n m => y c o (x c o h n m) n m
theorem Keep.of {b l : Addr} {H H' : Hp} (s : Same H H') : Keep b l H H' := fun c o h _ _ => s c o h
theorem Keep.free {b l : Addr} {H H' : Hp} (x : Keep b l H H') {c : Addr} (hb : c ≠ b) (hl : c ≠ l) (h : H' c = none) : H c = none := by
  cases q : H c with
  | none => rfl
  | some o =>
    rw [x c o q hb hl] at h
    cases h
/-! ### the box of the script's numbers -/
structure Box (H : Hp) (b l : Addr) : Prop where
  ex : ∃ (s : Int) (ns : List Int), H b = some (.lst [.ref l, .int s]) ∧ H l = some (.lst (ns.map V.int)) ∧ 0 ≤ s ∧ s < 2147483647 ∧ ns.length ≤ 63
theorem Box.ne {H : Hp} {b l : Addr} (B : Box H b l) : b ≠ l := by
  obtain ⟨s, ns, h1, h2, _⟩ := B.ex
  refine ne_of h1 h2 fun e => ?_
  cases ns with
  | nil => cases e
  | cons a r => cases e
theorem Box.at_b {H : Hp} {b l : Addr} (B : Box H b l) : ∃ xs, H b = some (.lst xs) := by
  obtain ⟨s, ns, h1, h2, _⟩ := B.ex
  exact ⟨_, h1⟩
theorem Box.at_l {H : Hp} {b l : Addr} (B : Box H b l) : ∃ xs, H l = some (.lst xs) := by
  obtain ⟨s, ns, h1, h2, _⟩ := B.ex
  exact ⟨_, h2⟩
theorem Box.keep {H H' : Hp} {b l : Addr} (B : Box H b l) (s : Same H H') : Box H' b l := by
  obtain ⟨z, ns, h1, h2, h3⟩ := B.ex
  exact ⟨z, ns, s _ _ h1, s _ _ h2, h3⟩
/-- what is no list stands beside the box -/
theorem Box.off {H : Hp} {b l c : Addr} {o : HO} (B : Box H b l) (h : H c = some o) (n : ∀ xs, o ≠ .lst xs) : c ≠ b ∧ c ≠ l := by
  obtain ⟨xs, h1⟩ := B.at_b
  obtain ⟨ys, h2⟩ := B.at_l
  exact ⟨ne_of h h1 (n xs), ne_of h h2 (n ys)⟩
theorem Box.new {H : Hp} {b l c : Addr} (B : Box H b l) (h : H c = none) : c ≠ b ∧ c ≠ l := by
  obtain ⟨xs, h1⟩ := B.at_b
  obtain ⟨ys, h2⟩ := B.at_l
  exact ⟨(ne_of_none h1 h).symm, (ne_of_none h2 h).symm⟩

/-! ### data -/
theorem dp_ints (K : PySem.W.Frag) (H : Hp) : ∀ ns : List Int, DpAll K H (ns.map V.int) (ns.map PyData.int)
  | [] => .nil
  | n :: r => .cons (.int n) (dp_ints K H r)
theorem lay_ints : ∀ ns : List Int, PyData.canLayAll0 (ns.map PyData.int) = true
  | [] => by simp [PyData.canLayAll0]
  | n :: r => by
    have := lay_ints r
    simp [PyData.canLayAll0, PyData.canLay0, this]
theorem depth_ints : ∀ ns : List Int, PyData.depthAll (ns.map PyData.int) ≤ 1
  | [] => by simp [PyData.depthAll]
  | n :: r => by
    have := depth_ints r
    simp [PyData.depthAll, PyData.depth]
    omega
theorem shaped_ints (ns : List Int) : SeqAt.shaped (.list (ns.map PyData.int)) = true := by
  unfold SeqAt.shaped
  have h := lay_ints ns
  have d := depth_ints ns
  simp [PyData.canLay0, h, PyData.depth]
  omega
theorem shaped_nil : SeqAt.shaped (.list []) = true := by decide
theorem eqv_nil (ds : List PyData) : PyData.eqv (.list ds) (.list []) = ds.isEmpty := by
  cases ds <;> simp [PyData.eqv, PyData.eqvAll]

theorem sqT_ty {K : PySem.W.Frag} {H : Hp} {a : Addr} {xs : List V} (h : SqT K H a xs) : TyX K H (.ref a) (.type "tuple") := by
  rcases h with (h | ⟨o, h⟩) | ⟨o, its, n, h1, h2, _⟩
  · exact .base (.tup h)
  · exact .fTuple h
  · exact .kTuple h1 h2
theorem sqL_ty {K : PySem.W.Frag} {H : Hp} {a : Addr} {xs : List V} (h : SqL K H a xs) : TyX K H (.ref a) (.type "list") := by
  rcases h with (h | ⟨o, h⟩) | ⟨o, its, n, h1, h2, _⟩
  · exact .base (.lst h)
  · exact .base (.frz h)
  · exact .kList h1 h2
def tyName : PyData → String
  | .none => "NoneType"
  | .bool _ => "bool"
  | .int _ => "int"
  | .str _ => "str"
  | .list _ => "list"
  | .tuple _ => "tuple"
  | .dict _ => "dict"
theorem dp_ty {K : PySem.W.Frag} {H : Hp} {x : V} {d : PyData} (h : Dp K H x d) : TyX K H x (.type (tyName d)) := by
  cases h with
  | non => exact .base .non
  | bl b => exact .base (.bl b)
  | int i => exact .base (.int i)
  | str z => exact .base (.str z)
  | lst h _ => exact sqL_ty h
  | tup h _ => exact sqT_ty h
theorem k_NoneType_bool : kitB "NoneType" "bool" = some false := by decide +kernel
theorem k_NoneType_int : kitB "NoneType" "int" = some false := by decide +kernel
theorem k_NoneType_str : kitB "NoneType" "str" = some false := by decide +kernel
theorem k_NoneType_list : kitB "NoneType" "list" = some false := by decide +kernel
theorem k_NoneType_tuple : kitB "NoneType" "tuple" = some false := by decide +kernel
theorem k_NoneType_dict : kitB "NoneType" "dict" = some false := by decide +kernel
theorem k_bool_bool : kitB "bool" "bool" = some true := by decide +kernel
theorem k_bool_int : kitB "bool" "int" = some true := by decide +kernel
theorem k_bool_str : kitB "bool" "str" = some false := by decide +kernel
theorem k_bool_list : kitB "bool" "list" = some false := by decide +kernel
theorem k_bool_tuple : kitB "bool" "tuple" = some false := by decide +kernel
theorem k_bool_dict : kitB "bool" "dict" = some false := by decide +kernel
theorem k_int_bool : kitB "int" "bool" = some false := by decide +kernel
theorem k_int_int : kitB "int" "int" = some true := by decide +kernel
theorem k_int_str : kitB "int" "str" = some false := by decide +kernel
theorem k_int_list : kitB "int" "list" = some false := by decide +kernel
theorem k_int_tuple : kitB "int" "tuple" = some false := by decide +kernel
theorem k_int_dict : kitB "int" "dict" = some false := by decide +kernel
theorem k_str_bool : kitB "str" "bool" = some false := by decide +kernel
theorem k_str_int : kitB "str" "int" = some false := by decide +kernel
theorem k_str_str : kitB "str" "str" = some true := by decide +kernel
theorem k_str_list : kitB "str" "list" = some false := by decide +kernel
theorem k_str_tuple : kitB "str" "tuple" = some false := by decide +kernel
theorem k_str_dict : kitB "str" "dict" = some false := by decide +kernel
theorem k_list_bool : kitB "list" "bool" = some false := by decide +kernel
theorem k_list_int : kitB "list" "int" = some false := by decide +kernel
theorem k_list_str : kitB "list" "str" = some false := by decide +kernel
theorem k_list_list : kitB "list" "list" = some true := by decide +kernel
theorem k_list_tuple : kitB "list" "tuple" = some false := by decide +kernel
theorem k_list_dict : kitB "list" "dict" = some false := by decide +kernel
theorem k_tuple_bool : kitB "tuple" "bool" = some false := by decide +kernel
theorem k_tuple_int : kitB "tuple" "int" = some false := by decide +kernel
theorem k_tuple_str : kitB "tuple" "str" = some false := by decide +kernel
theorem k_tuple_list : kitB "tuple" "list" = some false := by decide +kernel
theorem k_tuple_tuple : kitB "tuple" "tuple" = some true := by decide +kernel
theorem k_tuple_dict : kitB "tuple" "dict" = some false := by decide +kernel
theorem k_dict_bool : kitB "dict" "bool" = some false := by decide +kernel
theorem k_dict_int : kitB "dict" "int" = some false := by decide +kernel
theorem k_dict_str : kitB "dict" "str" = some false := by decide +kernel
theorem k_dict_list : kitB "dict" "list" = some false := by decide +kernel
theorem k_dict_tuple : kitB "dict" "tuple" = some false := by decide +kernel
theorem k_dict_dict : kitB "dict" "dict" = some true := by decide +kernel
/-- isinstance of data -/
theorem isi_dp {K : PySem.W.Frag} {H : Hp} {x : V} {d : PyData} {Q : VK} (h : Dp K H x d) (T : String) {b : Bool} (hb : kitB (tyName d) T = some b) (q : Q (.bl b) H) : rIsi K [x, .ty T] H Q :=
  ⟨x, .ty T, _, _, b, rfl, .ty T, dp_ty h, kit_ty hb, q⟩
theorem dpAll_get {K : PySem.W.Frag} {H : Hp} : ∀ {xs : List V} {ds : List PyData}, DpAll K H xs ds → xs.length = ds.length ∧ ∀ (i : Nat) (x : V), xs[i]? = some x → ∃ d, ds[i]? = some d ∧ Dp K H x d
  | _, _, .nil => ⟨rfl, fun i x h => by simp at h⟩
  | _, _, .cons h t => by
    obtain ⟨e, g⟩ := dpAll_get t
    refine ⟨by simp [e], fun i x hx => ?_⟩
    cases i with
    | zero =>
      simp at hx
      subst hx
      exact ⟨_, rfl, h⟩
    | succ i =>
      obtain ⟨d, h1, h2⟩ := g i x (by simpa using hx)
      exact ⟨d, by simpa using h1, h2⟩
theorem dpAll_at {K : PySem.W.Frag} {H : Hp} {xs : List V} {ds : List PyData} (h : DpAll K H xs ds) {i : Nat} (hi : i < ds.length) : ∃ x, atI xs (i : Int) = some x ∧ Dp K H x ds[i] := by
  obtain ⟨e, g⟩ := dpAll_get h
  have hx : xs[i]? = some (xs[i]'(by omega)) := List.getElem?_eq_getElem _
  obtain ⟨d, h1, h2⟩ := g i _ hx
  rw [List.getElem?_eq_getElem hi] at h1
  cases h1
  exact ⟨_, atI_nat hx, h2⟩
theorem depth_get : ∀ {ds : List PyData} {i : Nat} (h : i < ds.length), PyData.depth ds[i] ≤ PyData.depthAll ds
  | [], _, h => by simp at h
  | d :: r, 0, _ => by simp [PyData.depthAll]; omega
  | d :: r, i + 1, h => by
    have := depth_get (ds := r) (i := i) (by simpa using h)
    simp [PyData.depthAll]
    omega
mutual
def szOk : PyData → Bool
  | .list xs => decide (xs.length ≤ 1000000) && szAll xs
  | .tuple xs => decide (xs.length ≤ 1000000) && szAll xs
  | _ => true
def szAll : List PyData → Bool
  | [] => true
  | x :: xs => szOk x && szAll xs
end
theorem szAll_get : ∀ {ds : List PyData} {i : Nat} (h : i < ds.length), szAll ds = true → szOk ds[i] = true
  | [], _, h, _ => by simp at h
  | d :: r, 0, _, q => by
    simp only [szAll, Bool.and_eq_true] at q
    exact q.1
  | d :: r, i + 1, h, q => by
    simp only [szAll, Bool.and_eq_true] at q
    have := szAll_get (ds := r) (i := i) (by simpa using h) q.2
    simpa using this
def spAlike (K : PySem.W.Frag) (n : Nat) : Sp := fun vs H Q _ => ∃ (x y : V) (d : PyData), vs = [x, y] ∧ Dp K H x d ∧ Dp K H y d ∧ PyData.depth d < n ∧ szOk d = true ∧ Q (.bl true) H
/-! ### the law's helpers: promises -/
def spBegun (K : PySem.W.Frag) : Sp := fun vs H Q _ => ∃ (a : Addr) (ns : List Int), vs = [.ref a] ∧ SqL K H a (ns.map V.int) ∧ ns.length ≤ 63 ∧
  ∀ (b l : Addr) (H' : Hp), Same H H' → H b = none → H l = none → Box H' b l → Q (.ref b) H'
def spTake : Sp := fun vs H Q _ => ∃ (b l : Addr) (m : Int), vs = [.ref b, .int m] ∧ Box H b l ∧ 0 < m ∧ m < 1073741824 ∧
  ∀ (r : Int) (H' : Hp), 0 ≤ r → r < m → Box H' b l → Keep b l H H' → Q (.int r) H'
/-! ### cells -/
structure Cel where
  c : Nat
  r : Nat
  hc : c < 6
  hr : r < 9
  deriving DecidableEq
def Cel.l (x : Cel) : List Nat := [97 + x.c, 49 + x.r]
def Cel.s (x : Cel) : Str := SX.S x.l
theorem Cel.len (x : Cel) : x.s.length = 2 := rfl
theorem six {p : Int → Prop} {i : Int} (h0 : 0 ≤ i) (h1 : i < 6) (h : ∀ k : Nat, k < 6 → p k) : p i := by
  have e : i = (i.toNat : Int) := by omega
  rw [e]
  exact h _ (by omega)
theorem at_abc {i : Int} (h0 : 0 ≤ i) (h1 : i < 6) : atI ("abcdef" : Str).cps.toList i = some (97 + i.toNat) := by
  have e : ("abcdef" : Str).cps.toList = [97, 98, 99, 100, 101, 102] := by decide +kernel
  rw [e]
  have : i = 0 ∨ i = 1 ∨ i = 2 ∨ i = 3 ∨ i = 4 ∨ i = 5 := by omega
  rcases this with h | h | h | h | h | h <;> subst h <;> rfl
theorem at_abc3 {i : Int} (h0 : 0 ≤ i) (h1 : i < 3) : atI ("abc" : Str).cps.toList i = some (97 + i.toNat) := by
  have e : ("abc" : Str).cps.toList = [97, 98, 99] := by decide +kernel
  rw [e]
  have : i = 0 ∨ i = 1 ∨ i = 2 := by omega
  rcases this with h | h | h <;> subst h <;> rfl
theorem at_123 {i : Int} (h0 : 0 ≤ i) (h1 : i < 9) : atI ("123456789" : Str).cps.toList i = some (49 + i.toNat) := by
  have e : ("123456789" : Str).cps.toList = [49, 50, 51, 52, 53, 54, 55, 56, 57] := by decide +kernel
  rw [e]
  have : i = 0 ∨ i = 1 ∨ i = 2 ∨ i = 3 ∨ i = 4 ∨ i = 5 ∨ i = 6 ∨ i = 7 ∨ i = 8 := by omega
  rcases this with h | h | h | h | h | h | h | h | h <;> subst h <;> rfl
theorem at_1233 {i : Int} (h0 : 0 ≤ i) (h1 : i < 3) : atI ("123" : Str).cps.toList i = some (49 + i.toNat) := by
  have e : ("123" : Str).cps.toList = [49, 50, 51] := by decide +kernel
  rw [e]
  have : i = 0 ∨ i = 1 ∨ i = 2 := by omega
  rcases this with h | h | h <;> subst h <;> rfl
theorem Cel.at0 (x : Cel) : atI x.s.cps.toList 0 = some (97 + x.c) := rfl
theorem Cel.at1 (x : Cel) : atI x.s.cps.toList 1 = some (49 + x.r) := rfl
theorem find_abc : ∀ {c : Nat}, c < 6 → Txt.find "abcdef" (SX.S [97 + c]) = (c : Int) := by decide +kernel
theorem int_one : ∀ {r : Nat}, r < 9 → PySem.intText? (SX.S [49 + r]) = some ((r : Int) + 1) := by decide +kernel
theorem str_one : ∀ {r : Nat}, r < 9 → Str.ofString (toString ((r : Int) + 1)) = SX.S [49 + r] := by decide +kernel
theorem small {n : Nat} (h : n ≤ 1000) : n ≤ sizeLine := Nat.le_of_lt (small1000 h)
theorem log_small {i : Int} (h0 : 0 ≤ i) (h1 : i ≤ 1000) : i.natAbs.log2 < 1920 := by
  have := Nat.log2_le_self i.natAbs
  omega
/-- two ints sorted -/
theorem sort2 {x y : Int} {ns : List Int} (h : ns.Perm [x, y]) (p : ns.Pairwise (· ≤ ·)) : ns = [min x y, max x y] := by
  have l := h.length_eq
  match ns, l with
  | [a, b], _ =>
    have ab : a ≤ b := by simpa using p
    have m : a = x ∧ b = y ∨ a = y ∧ b = x := by
      have ha : a ∈ [x, y] := h.mem_iff.mp (by simp)
      have hb : b ∈ [x, y] := h.mem_iff.mp (by simp)
      have hx : x ∈ [a, b] := h.mem_iff.mpr (by simp)
      have hy : y ∈ [a, b] := h.mem_iff.mpr (by simp)
      simp at ha hb hx hy
      omega
    rcases m with ⟨rfl, rfl⟩ | ⟨rfl, rfl⟩
    · rw [Int.min_eq_left ab, Int.max_eq_right ab]
    · rw [Int.min_eq_right ab, Int.max_eq_left ab]
/-- the stretch of two cells, row by row -/
def rowL (a n r : Nat) : List Str := (List.range' a n).map fun k => SX.S [97 + k, 49 + r]
def rowsL (a n b m : Nat) : List Str := (List.range' b m).flatMap fun r => rowL a n r
def strL (x y : Cel) : List Str := rowsL (min x.c y.c) (max x.c y.c + 1 - min x.c y.c) (min x.r y.r) (max x.r y.r + 1 - min x.r y.r)
theorem rowL_succ (a n r : Nat) : rowL a (n + 1) r = rowL a n r ++ [SX.S [97 + (a + n), 49 + r]] := by
  unfold rowL
  rw [List.range'_concat, List.map_append]
  simp
theorem rowsL_succ (a n b m : Nat) : rowsL a n b (m + 1) = rowsL a n b m ++ rowL a n (b + m) := by
  unfold rowsL
  rw [List.range'_concat, List.flatMap_append]
  simp
theorem rowL_len (a n r : Nat) : (rowL a n r).length = n := by
  unfold rowL
  rw [List.length_map, List.length_range']
theorem rowsL_len (a n b : Nat) : ∀ m, (rowsL a n b m).length = n * m
  | 0 => rfl
  | m + 1 => by rw [rowsL_succ, List.length_append, rowsL_len a n b m, rowL_len, Nat.mul_succ]
/-- a cell's text -/
def spCell : Sp := fun vs H Q _ => ∃ (b l : Addr), vs = [.ref b] ∧ Box H b l ∧ ∀ (c : Cel) (H' : Hp), Box H' b l → Keep b l H H' → Q (.str c.s) H'
def spStretchL : Sp := fun vs H Q _ => ∃ (x y : Cel), vs = [.str x.s, .str y.s] ∧ ∀ (p : Addr) (H' : Hp), H p = none → Same H H' → H' p = some (.lst ((strL x y).map V.str)) → Q (.ref p) H'
/-! ### contents -/
inductive W3 where
  | add | sub | mul
  deriving DecidableEq
def W3.s : W3 → Str
  | .add => "add"
  | .sub => "sub"
  | .mul => "mul"
inductive Part where
  | num (n : Int) | cel (c : Cel) | sum (c d : Cel) | op (w : W3) (p q : Part) | pick (p q r t : Part)
  deriving DecidableEq
/-- all numbers have at most six figures -/
def Part.good : Part → Prop
  | .num n => -1000000 < n ∧ n < 1000000
  | .cel _ => True
  | .sum _ _ => True
  | .op _ p q => p.good ∧ q.good
  | .pick p q r t => p.good ∧ q.good ∧ r.good ∧ t.good
def Part.hgt : Part → Nat
  | .num _ => 1
  | .cel _ => 1
  | .sum _ _ => 1
  | .op _ p q => max p.hgt q.hgt + 1
  | .pick p q r t => max (max p.hgt q.hgt) (max r.hgt t.hgt) + 1
theorem Part.hgt_pos (p : Part) : 1 ≤ p.hgt := by cases p <;> simp [Part.hgt]
/-- a part as it lies: tuples -/
def PA (K : PySem.W.Frag) (H : Hp) : Part → V → Prop
  | .num n, v => ∃ a, v = .ref a ∧ SqT K H a [.str "num", .int n]
  | .cel c, v => ∃ a, v = .ref a ∧ SqT K H a [.str "cell", .str c.s]
  | .sum c d, v => ∃ a, v = .ref a ∧ SqT K H a [.str "sum", .str c.s, .str d.s]
  | .op w p q, v => ∃ a x y, v = .ref a ∧ SqT K H a [.str w.s, x, y] ∧ PA K H p x ∧ PA K H q y
  | .pick p q r t, v => ∃ a x y z u, v = .ref a ∧ SqT K H a [.str "pick", x, y, z, u] ∧ PA K H p x ∧ PA K H q y ∧ PA K H r z ∧ PA K H t u
/-- tuples stay -/
def Tk (K : PySem.W.Frag) (H H' : Hp) : Prop := ∀ a xs, SqT K H a xs → SqT K H' a xs
theorem Tk.refl (K : PySem.W.Frag) (H : Hp) : Tk K H H := fun _ _ h => h
theorem Tk.trans {K : PySem.W.Frag} {H H1 H2 : Hp} (x : Tk K H H1) (y : Tk K H1 H2) : Tk K H H2 := fun a xs h => y a xs (x a xs h)
theorem Tk.same {K : PySem.W.Frag} {H H' : Hp} (s : Same H H') : Tk K H H' := fun a xs h => by
  rcases h with (h | ⟨o, h⟩) | h
  · exact .inl (.inl (s _ _ h))
  · exact .inl (.inr ⟨o, s _ _ h⟩)
  · exact .inr h
theorem Tk.keep {K : PySem.W.Frag} {H H' : Hp} {b l : Addr} (B : Box H b l) (k : Keep b l H H') : Tk K H H' := fun a xs h => by
  rcases h with (h | ⟨o, h⟩) | h
  · have q := B.off h fun _ e => by cases e
    exact .inl (.inl (k _ _ h q.1 q.2))
  · have q := B.off h fun _ e => by cases e
    exact .inl (.inr ⟨o, k _ _ h q.1 q.2⟩)
  · exact .inr h
theorem PA.tk {K : PySem.W.Frag} {H H' : Hp} (t : Tk K H H') : ∀ {p : Part} {v : V}, PA K H p v → PA K H' p v
  | .num n, v, ⟨a, e, h⟩ => ⟨a, e, t _ _ h⟩
  | .cel c, v, ⟨a, e, h⟩ => ⟨a, e, t _ _ h⟩
  | .sum c d, v, ⟨a, e, h⟩ => ⟨a, e, t _ _ h⟩
  | .op w p q, v, ⟨a, x, y, e, h, h1, h2⟩ => ⟨a, x, y, e, t _ _ h, PA.tk t h1, PA.tk t h2⟩
  | .pick p q r s, v, ⟨a, x, y, z, u, e, h, h1, h2, h3, h4⟩ => ⟨a, x, y, z, u, e, t _ _ h, PA.tk t h1, PA.tk t h2, PA.tk t h3, PA.tk t h4⟩
/-- a content: nothing, or a part -/
def CA (K : PySem.W.Frag) (H : Hp) : Option Part → V → Prop
  | none, v => v = .non
  | some p, v => PA K H p v
theorem CA.tk {K : PySem.W.Frag} {H H' : Hp} (t : Tk K H H') : ∀ {p : Option Part} {v : V}, CA K H p v → CA K H' p v
  | none, _, h => h
  | some _, _, h => PA.tk t h
def spPart (K : PySem.W.Frag) (n : Nat) : Sp := fun vs H Q _ => ∃ (b l : Addr) (d : Int), vs = [.ref b, .int d] ∧ Box H b l ∧ 0 ≤ d ∧ d.toNat < n ∧
  ∀ (p : Part) (v : V) (H' : Hp), p.good → p.hgt ≤ d.toNat + 1 → PA K H' p v → Box H' b l → Keep b l H H' → Q v H'
/-- a content that a text may stand for: no number within a formula alone -/
def goodC : Option Part → Nat → Prop
  | none, _ => True
  | some p, n => p.good ∧ p.hgt ≤ n
def spContent (K : PySem.W.Frag) (n : Nat) : Sp := fun vs H Q _ => ∃ (b l : Addr) (d : Int), vs = [.ref b, .int d] ∧ Box H b l ∧ 0 ≤ d ∧ d.toNat < n ∧
  ∀ (p : Option Part) (v : V) (H' : Hp), goodC p (d.toNat + 1) → CA K H' p v → Box H' b l → Keep b l H H' → Q v H'
/-! ### defs that may raise -/
structure CalX (P : Program) (w : World) (K : PySem.W.Frag) (mg : Str → Option Value) (base : Heap) (k : Nat) (x : Str) (ps : List Str) (sp : Sp) : Prop where
  ex : ∃ (f : Addr) (fd : FuncData), FnOk P w K mg base (L2N.CX P w) k f fd ps sp ∧ mg x = some (.ref f) ∧ PySem.W.keepIn K (.ref f) = true ∧ Binds K fd ps []
theorem CalX.mono {P : Program} {w : World} {K : PySem.W.Frag} {mg : Str → Option Value} {base : Heap} {j k : Nat} {x : Str} {ps : List Str} {sp : Sp} (c : CalX P w K mg base j x ps sp) (h : j ≤ k) : CalX P w K mg base k x ps sp := by
  obtain ⟨f, fd, F, a, b, d⟩ := c.ex
  exact ⟨f, fd, F.mono h, a, b, d⟩
section
variable {X : Cx} {k : Nat} {x : Str} {ps : List Str} {sp : Sp} {p pos : Pos} {e : Expr} {es : List Expr} {t : TA} {E : XK}
theorem pc_x (c : CalX X.prog X.w X.K X.mg X.base k x ps sp) (hr : Room k X.A) (hg : Gl X x) (hx : Passes (L2N.CX X.prog X.w) X E) (ha : L2.PA X (e :: es) t)
    (hdb : (x == ("__debug__" : Str)) = false := by decide) (he : starEach (e :: es) X.env = (false, eval e X.env) :: starEach es X.env := by rfl) (hpl : (backTo pos (starEach es X.env)).any (·.1) = false := by rfl) :
    PE X (.Call (.Name x p) (e :: es) [] pos) (tCal sp E t) := by
  obtain ⟨f, fd, F, hm, kp, b⟩ := c.ex
  rw [← tCal_eq]
  exact pe_call F hr hg hm kp b .nil hx ha hdb he hpl
end
/-- a constant of the module that is a text, an int -/
def GStr (mg : Str → Option Value) (x z : Str) : Prop := ∃ t, mg x = some (.str z t)
def GInt (mg : Str → Option Value) (x : Str) (i : Int) : Prop := ∃ t, mg x = some (.int i t)
theorem pe_gs {X : Cx} {x z : Str} {pos : Pos} (h : GStr X.mg x z) (hg : Gl X x) (hd : (x == ("__debug__" : Str)) = false := by decide) : PE X (.Name x pos) (tC (.str z)) := by
  obtain ⟨t, e⟩ := h
  exact pe_glob hg e ⟨t, rfl⟩ hd
theorem pe_gi {X : Cx} {x : Str} {i : Int} {pos : Pos} (h : GInt X.mg x i) (hg : Gl X x) (hd : (x == ("__debug__" : Str)) = false := by decide) : PE X (.Name x pos) (tC (.int i)) := by
  obtain ⟨t, e⟩ := h
  exact pe_glob hg e ⟨t, rfl⟩ hd
theorem pe_gr {X : Cx} {x : Str} {a : Addr} {pos : Pos} (h : X.mg x = some (.ref a)) (hg : Gl X x) (hd : (x == ("__debug__" : Str)) = false := by decide) : PE X (.Name x pos) (tC (.ref a)) := pe_glob hg h rfl hd
/-- an own exception class without an __init__ -/
structure ExcF (K : PySem.W.Frag) (mg : Str → Option Value) (x : Str) (C : Addr) : Prop where
  g : mg x = some (.ref C)
  k : PySem.W.keepIn K (.ref C) = true
  x : PySem.W.excIn K C [.type "ValueError", .type "Exception", .type "BaseException", .type "object"] "ValueError.__new__" = true
  b : PySem.W.subIn K (.ref C) (.type "BaseException") = some true
  t : PySem.W.typeIn K (.ref C) = some (.type "type")
theorem pmk_x {X : Cx} {x : Str} {C : Addr} {e : Expr} {ta : TE} {p pos : Pos} (E : ExcF X.K X.mg x C) (hg : Gl X x) (he : PE X e ta) (hs : starEach [e] X.env = (false, eval e X.env) :: starEach [] X.env := by rfl) (hdb : (x == ("__debug__" : Str)) = false := by decide) :
    L2N.PMk X (.Call (.Name x p) [e] [] pos) (fun σ H Q => ta σ H fun _ H1 => Q (.ref C) none H1) := by
  intro pins s σ H Q I h
  apply wpAny_Call_Name_kw
  refine ld_glob I hg E.g ?_ hdb
  refine PySem.W.callWith_K (h₀ := X.base) I.ok.mod.kin E.k ?_ hs rfl
  rw [hs]
  show wpAny _ _ (spliced ((false, eval e X.env) :: backTo pos (starEach [] X.env))) _ _ s
  refine Calls.spliced_cons (thn (he.run pins s σ H _ I h) ?_)
  rintro u s1 ⟨v, H1, I1, r1, q1⟩
  refine Calls.spliced_nil ⟨I1.kIn, ?_⟩
  obtain ⟨bm, N, nm, qn, bs, hdct, sn, sub, ab, col, dd, k0, k1, k2, k3, k5, mN, hC, hN, hni, T⟩ := exc_obj I1.kIn E.x
  exact wpAny_call_exc_subT PySem.F.excBase_ValueError T hC hN hni (fun h' a m => L2N.mk_of I1 m (raises_own E.b E.t) q1 (I1.hok.gone m.new)) (by show 1 ≤ sizeLine; rw [sizeLine_eq]; omega)
theorem takes0N {X : Cx} : L2N.Takes X (fun _ _ _ _ => False) := fun _ _ x => by
  obtain ⟨_, _, _, _, _, _, _, _, _, _, h⟩ := x
  exact (by simp at h)
/-- a walk over a text's signs -/
theorem its_loop {x : Str} {H0 : Hp} {Qd : Hp → Prop} {body : V → Hp → (Hp → Prop) → Prop} (Pv : Nat → Hp → Prop) (h0 : Pv 0 H0) (hs : ∀ i c H, x.cps[i]? = some c → Pv i H → body (.str ⟨#[c]⟩) H (Pv (i + 1))) (hd : ∀ H, Pv x.cps.size H → Qd H) :
    ∃ W : Nat → Nat → Hp → Prop, (∃ m, W 0 m H0) ∧ ∀ i m H, W i m H → ((Its x).stop i H ∧ Qd H) ∨ ((Its x).go i H ∧ ∃ Nx : Hp → Prop, (∀ H', Nx H' → ∃ m', m' < m ∧ W (i + 1) m' H') ∧ ∀ v H', (Its x).yld i H v H' → body v H' Nx) := by
  refine ⟨fun i m H => m = x.cps.size - i ∧ i ≤ x.cps.size ∧ Pv i H, ⟨x.cps.size, by simp, Nat.zero_le _, h0⟩, ?_⟩
  rintro i m H ⟨rfl, hi, p⟩
  by_cases hlt : i < x.cps.size
  · refine .inr ⟨hlt, Pv (i + 1), fun H' p' => ⟨x.cps.size - (i + 1), by omega, rfl, hlt, p'⟩, fun v H' y => ?_⟩
    obtain ⟨rfl, c, hc, rfl⟩ := y
    exact hs i c _ hc p
  · have e : i = x.cps.size := by omega
    subst e
    exact .inl ⟨Nat.le_refl _, hd H p⟩
theorem wipe_out_ {σ : L2.St} {i : Nat} : ∀ {vs : List Nat} {x : Option V}, i ∈ vs → wipe (σ.set i x) vs = wipe σ vs
  | [], _, h => by simp at h
  | v :: vs, x, h => by
    show (wipe (σ.set i x) vs).set v none = (wipe σ vs).set v none
    rcases List.mem_cons.mp h with rfl | h
    · have c : ∀ (ws : List Nat) (τ : L2.St), (wipe (τ.set i x) ws).set i none = (wipe τ ws).set i none := by
        intro ws
        induction ws with
        | nil => intro τ; simp [wipe]
        | cons w ws ih =>
          intro τ
          show ((wipe (τ.set i x) ws).set w none).set i none = ((wipe τ ws).set w none).set i none
          by_cases e : w = i
          · subst e
            rw [List.set_set, List.set_set]
            exact ih τ
          · rw [List.set_comm _ _ e, ih τ, List.set_comm _ _ (Ne.symm e)]
      exact c vs σ
    · rw [wipe_out_ h]
theorem wipe_wipe {σ : L2.St} : ∀ {vs : List Nat}, wipe (wipe σ vs) vs = wipe σ vs
  | [] => rfl
  | v :: vs => by
    show (wipe ((wipe σ vs).set v none) vs).set v none = (wipe σ vs).set v none
    by_cases h : v ∈ vs
    · rw [wipe_out_ h, wipe_wipe]
    · have c : ∀ (ws : List Nat) (τ : L2.St), (wipe (τ.set v none) ws).set v none = (wipe τ ws).set v none := by
        intro ws
        induction ws with
        | nil => intro τ; simp [wipe]
        | cons w ws ih =>
          intro τ
          show ((wipe (τ.set v none) ws).set w none).set v none = ((wipe τ ws).set w none).set v none
          by_cases e : w = v
          · subst e
            rw [List.set_set, List.set_set]
            exact ih τ
          · rw [List.set_comm _ _ e, ih τ, List.set_comm _ _ (Ne.symm e)]
      rw [c, wipe_wipe]
theorem wipe_in {σ : L2.St} {vs : List Nat} {i : Nat} {x : Option V} (h : i ∈ vs) : wipe ((wipe σ vs).set i x) vs = wipe σ vs := by rw [wipe_out_ h, wipe_wipe]
end U

namespace U
open PySem L2
/-! ### texts as lists of signs -/
/-- a number's figures -/
def nl : Int → List Nat
  | .ofNat n => TL.numL n
  | .negSucc n => 45 :: TL.numL (n + 1)
def numS (n : Int) : Str := Str.ofString (toString n)
theorem numS_nl (n : Int) : numS n = SX.S (nl n) := by
  cases n with
  | ofNat n => exact SX.num_S n
  | negSucc n =>
    refine TL.ext_tl ?_
    have e : toString (Int.negSucc n) = "-" ++ toString ((n + 1 : Nat) : Int) := rfl
    have q := TL.tl_num (n + 1)
    unfold numS
    rw [e, TL.tl_ofString, String.toList_append, List.map_append]
    rw [TL.tl_ofString] at q
    rw [q]
    rfl
theorem nl_free {n : Int} {s : Nat} (h : s < 45 ∨ 57 < s ∨ s = 46 ∨ s = 47) : s ∉ nl n := by
  cases n with
  | ofNat n => exact TL.numL_free (by omega)
  | negSucc n =>
    intro hm
    rcases List.mem_cons.mp hm with e | e
    · omega
    · exact TL.numL_free (by omega) e
theorem nl_len {n : Int} (h0 : -1000000 < n) (h1 : n < 1000000) : (nl n).length ≤ 7 := by
  cases n with
  | ofNat n =>
    have := TL.numL_len (n := n) (k := 6) (by decide) (by simp only [Int.ofNat_eq_natCast] at h1; omega)
    show (TL.numL n).length ≤ 7
    omega
  | negSucc n =>
    have := TL.numL_len (n := n + 1) (k := 6) (by decide) (by omega)
    show (TL.numL (n + 1)).length + 1 ≤ 7
    omega
theorem nl_ne (n : Int) : nl n ≠ [] := by
  cases n with
  | ofNat n => exact TL.numL_ne n
  | negSucc n => exact List.cons_ne_nil _ _
def W3.l : W3 → List Nat
  | .add => [97, 100, 100]
  | .sub => [115, 117, 98]
  | .mul => [109, 117, 108]
theorem W3.s_l (w : W3) : w.s = SX.S w.l := by cases w <;> decide +kernel
def sumL : List Nat := [115, 117, 109]
def pickL : List Nat := [112, 105, 99, 107]
/-- the words of a part -/
def Part.wl : Part → List (List Nat)
  | .num n => [nl n]
  | .cel c => [c.l]
  | .sum c d => [sumL, c.l, d.l]
  | .op w p q => w.l :: (p.wl ++ q.wl)
  | .pick p q r t => pickL :: (p.wl ++ (q.wl ++ (r.wl ++ t.wl)))
theorem Part.wl_ne (p : Part) : p.wl ≠ [] := by cases p <;> exact List.cons_ne_nil _ _
def Part.tx (p : Part) : List Nat := TL.joinL [32] p.wl
theorem joinL_app {s : List Nat} : ∀ {xs ys : List (List Nat)}, xs ≠ [] → ys ≠ [] → TL.joinL s (xs ++ ys) = TL.joinL s xs ++ (s ++ TL.joinL s ys)
  | [], _, h, _ => absurd rfl h
  | [x], [], _, h => absurd rfl h
  | [x], y :: r, _, _ => rfl
  | x :: x2 :: r, ys, _, h => by
    show x ++ (s ++ TL.joinL s (x2 :: r ++ ys)) = (x ++ (s ++ TL.joinL s (x2 :: r))) ++ (s ++ TL.joinL s ys)
    rw [joinL_app (List.cons_ne_nil _ _) h]
    simp only [List.append_assoc]
def Part.kids : Part → List Part
  | .op _ p q => [p, q]
  | .pick p q r t => [p, q, r, t]
  | _ => []
def Part.word : Part → Str
  | .num _ => "num"
  | .cel _ => "cell"
  | .sum _ _ => "sum"
  | .op w _ _ => w.s
  | .pick _ _ _ _ => "pick"
def Part.isOp : Part → Bool
  | .op _ _ _ => true
  | .pick _ _ _ _ => true
  | _ => false
theorem Part.tx_op (w : W3) (p q : Part) : (Part.op w p q).tx = w.l ++ ([32] ++ TL.joinL [32] [p.tx, q.tx]) := by
  show TL.joinL [32] ([w.l] ++ (p.wl ++ q.wl)) = _
  rw [joinL_app (by simp) (by simp [p.wl_ne]), joinL_app p.wl_ne q.wl_ne]
  rfl
theorem Part.tx_pick (p q r t : Part) : (Part.pick p q r t).tx = pickL ++ ([32] ++ TL.joinL [32] [p.tx, q.tx, r.tx, t.tx]) := by
  show TL.joinL [32] ([pickL] ++ (p.wl ++ (q.wl ++ (r.wl ++ t.wl)))) = _
  rw [joinL_app (by simp) (by simp [p.wl_ne]), joinL_app p.wl_ne (by simp [q.wl_ne]), joinL_app q.wl_ne (by simp [r.wl_ne]), joinL_app r.wl_ne t.wl_ne]
  rfl
/-- how long a part's text is -/
theorem Part.tx_len : ∀ {p : Part}, p.good → p.tx.length + 8 ≤ 10 * 4 ^ p.hgt
  | .num n, h => by
    have := nl_len h.1 h.2
    show (nl n).length + 8 ≤ 40
    omega
  | .cel c, _ => by show 2 + 8 ≤ 40; omega
  | .sum c d, _ => by show 9 + 8 ≤ 40; omega
  | .op w p q, h => by
    have h1 := Part.tx_len h.1
    have h2 := Part.tx_len h.2
    have e1 : 4 ^ p.hgt ≤ 4 ^ (max p.hgt q.hgt) := Nat.pow_le_pow_right (by decide) (by omega)
    have e2 : 4 ^ q.hgt ≤ 4 ^ (max p.hgt q.hgt) := Nat.pow_le_pow_right (by decide) (by omega)
    have e3 : 4 ^ (Part.op w p q).hgt = 4 ^ (max p.hgt q.hgt) * 4 := by show 4 ^ (max p.hgt q.hgt + 1) = _; rw [Nat.pow_succ]
    have w3 : w.l.length = 3 := by cases w <;> rfl
    rw [Part.tx_op, e3]
    show (w.l ++ (32 :: (p.tx ++ (32 :: q.tx)))).length + 8 ≤ _
    simp only [List.length_append, List.length_cons]
    omega
  | .pick p q r t, h => by
    have h1 := Part.tx_len h.1
    have h2 := Part.tx_len h.2.1
    have h3 := Part.tx_len h.2.2.1
    have h4 := Part.tx_len h.2.2.2
    have e1 : 4 ^ p.hgt ≤ 4 ^ (max (max p.hgt q.hgt) (max r.hgt t.hgt)) := Nat.pow_le_pow_right (by decide) (by omega)
    have e2 : 4 ^ q.hgt ≤ 4 ^ (max (max p.hgt q.hgt) (max r.hgt t.hgt)) := Nat.pow_le_pow_right (by decide) (by omega)
    have e3 : 4 ^ r.hgt ≤ 4 ^ (max (max p.hgt q.hgt) (max r.hgt t.hgt)) := Nat.pow_le_pow_right (by decide) (by omega)
    have e4 : 4 ^ t.hgt ≤ 4 ^ (max (max p.hgt q.hgt) (max r.hgt t.hgt)) := Nat.pow_le_pow_right (by decide) (by omega)
    have e5 : 4 ^ (Part.pick p q r t).hgt = 4 ^ (max (max p.hgt q.hgt) (max r.hgt t.hgt)) * 4 := by show 4 ^ (max (max p.hgt q.hgt) (max r.hgt t.hgt) + 1) = _; rw [Nat.pow_succ]
    rw [Part.tx_pick, e5]
    show (pickL ++ (32 :: (p.tx ++ (32 :: (q.tx ++ (32 :: (r.tx ++ (32 :: t.tx)))))))).length + 8 ≤ _
    simp only [List.length_append, List.length_cons]
    have : pickL.length = 4 := rfl
    omega
theorem Part.tx_le {p : Part} (h : p.good) (n : p.hgt ≤ 8) : p.tx.length ≤ 700000 := by
  have h1 := Part.tx_len h
  have e : 4 ^ p.hgt ≤ 4 ^ 8 := Nat.pow_le_pow_right (by decide) n
  have e2 : (4 : Nat) ^ 8 = 65536 := by decide
  omega
theorem Part.kid_good {p q : Part} (h : p.good) (m : q ∈ p.kids) : q.good := by
  cases p with
  | op w a b =>
    simp only [Part.kids, List.mem_cons, List.not_mem_nil, or_false] at m
    rcases m with rfl | rfl
    · exact h.1
    · exact h.2
  | pick a b c d =>
    simp only [Part.kids, List.mem_cons, List.not_mem_nil, or_false] at m
    rcases m with rfl | rfl | rfl | rfl
    · exact h.1
    · exact h.2.1
    · exact h.2.2.1
    · exact h.2.2.2
  | _ => simp [Part.kids] at m
theorem Part.kid_hgt {p q : Part} (m : q ∈ p.kids) : q.hgt < p.hgt := by
  cases p with
  | op w a b =>
    simp only [Part.kids, List.mem_cons, List.not_mem_nil, or_false] at m
    show _ < max a.hgt b.hgt + 1
    rcases m with rfl | rfl <;> omega
  | pick a b c d =>
    simp only [Part.kids, List.mem_cons, List.not_mem_nil, or_false] at m
    show _ < max (max a.hgt b.hgt) (max c.hgt d.hgt) + 1
    rcases m with rfl | rfl | rfl | rfl <;> omega
  | _ => simp [Part.kids] at m
/-! ### parts as they lie, by word and kids -/
def PAs (K : PySem.W.Frag) (H : Hp) : List Part → List V → Prop
  | [], [] => True
  | p :: ps, x :: xs => PA K H p x ∧ PAs K H ps xs
  | _, _ => False
theorem PAs.tk {K : PySem.W.Frag} {H H' : Hp} (t : Tk K H H') : ∀ {ps : List Part} {xs : List V}, PAs K H ps xs → PAs K H' ps xs
  | [], [], _ => trivial
  | _ :: _, _ :: _, h => ⟨PA.tk t h.1, PAs.tk t h.2⟩
theorem PAs.len {K : PySem.W.Frag} {H : Hp} : ∀ {ps : List Part} {xs : List V}, PAs K H ps xs → xs.length = ps.length
  | [], [], _ => rfl
  | _ :: _, _ :: _, h => by simp [PAs.len h.2]
theorem PAs.get {K : PySem.W.Frag} {H : Hp} : ∀ {ps : List Part} {xs : List V} {i : Nat} {x : V}, PAs K H ps xs → xs[i]? = some x → ∃ p, ps[i]? = some p ∧ PA K H p x
  | [], [], i, x, _, e => by simp at e
  | p :: _, y :: _, 0, x, h, e => by
    simp at e
    subst e
    exact ⟨p, rfl, h.1⟩
  | _ :: ps, _ :: xs, i + 1, x, h, e => by
    obtain ⟨q, h1, h2⟩ := PAs.get (i := i) h.2 (by simpa using e)
    exact ⟨q, by simpa using h1, h2⟩
theorem PA.node {K : PySem.W.Frag} {H : Hp} {p : Part} {v : V} (h : PA K H p v) (o : p.isOp = true) : ∃ a xs, v = .ref a ∧ SqT K H a (.str p.word :: xs) ∧ PAs K H p.kids xs := by
  cases p with
  | op w p q =>
    obtain ⟨a, x, y, e, h1, h2, h3⟩ := h
    exact ⟨a, [x, y], e, h1, h2, h3, trivial⟩
  | pick p q r t =>
    obtain ⟨a, x, y, z, u, e, h1, h2, h3, h4, h5⟩ := h
    exact ⟨a, [x, y, z, u], e, h1, h2, h3, h4, h5, trivial⟩
  | _ => exact absurd o Bool.false_ne_true
theorem PA.head {K : PySem.W.Frag} {H : Hp} {p : Part} {v : V} (h : PA K H p v) : ∃ a xs, v = .ref a ∧ SqT K H a (.str p.word :: xs) := by
  cases p with
  | num n => obtain ⟨a, e, h⟩ := h; exact ⟨a, _, e, h⟩
  | cel c => obtain ⟨a, e, h⟩ := h; exact ⟨a, _, e, h⟩
  | sum c d => obtain ⟨a, e, h⟩ := h; exact ⟨a, _, e, h⟩
  | op w p q => obtain ⟨a, x, y, e, h, _⟩ := h; exact ⟨a, _, e, h⟩
  | pick p q r t => obtain ⟨a, x, y, z, u, e, h, _⟩ := h; exact ⟨a, _, e, h⟩
def Part.isNum : Part → Bool
  | .num _ => true
  | _ => false
def Part.isCel : Part → Bool
  | .cel _ => true
  | _ => false
def Part.isSum : Part → Bool
  | .sum _ _ => true
  | _ => false
theorem ws_num (w : W3) : decide (w.s = "num") = false := by cases w <;> decide +kernel
theorem ws_cell (w : W3) : decide (w.s = "cell") = false := by cases w <;> decide +kernel
theorem ws_sum (w : W3) : decide (w.s = "sum") = false := by cases w <;> decide +kernel
theorem ws_pick (w : W3) : decide (w.s = "pick") = false := by cases w <;> decide +kernel
theorem Part.w_num (p : Part) : decide (p.word = "num") = p.isNum := by
  cases p with
  | op w p q => exact ws_num w
  | num n => exact (by decide +kernel : decide (("num" : Str) = "num") = true)
  | cel c => exact (by decide +kernel : decide (("cell" : Str) = "num") = false)
  | sum c d => exact (by decide +kernel : decide (("sum" : Str) = "num") = false)
  | pick p q r t => exact (by decide +kernel : decide (("pick" : Str) = "num") = false)
theorem Part.w_cell (p : Part) : decide (p.word = "cell") = p.isCel := by
  cases p with
  | op w p q => exact ws_cell w
  | num n => exact (by decide +kernel : decide (("num" : Str) = "cell") = false)
  | cel c => exact (by decide +kernel : decide (("cell" : Str) = "cell") = true)
  | sum c d => exact (by decide +kernel : decide (("sum" : Str) = "cell") = false)
  | pick p q r t => exact (by decide +kernel : decide (("pick" : Str) = "cell") = false)
theorem Part.w_sum (p : Part) : decide (p.word = "sum") = p.isSum := by
  cases p with
  | op w p q => exact ws_sum w
  | num n => exact (by decide +kernel : decide (("num" : Str) = "sum") = false)
  | cel c => exact (by decide +kernel : decide (("cell" : Str) = "sum") = false)
  | sum c d => exact (by decide +kernel : decide (("sum" : Str) = "sum") = true)
  | pick p q r t => exact (by decide +kernel : decide (("pick" : Str) = "sum") = false)
theorem cut1 (x : V) (xs : List V) : cutV (x :: xs) (some 1) none = xs := by
  unfold cutV HT.sIx
  simp
theorem call_str_any {X : Cx} : CallR X (.type "str") (fun xs H Q => (∃ i, xs = [V.int i] ∧ i.natAbs.log2 < 1920 ∧ Q (.str (toString i)) H) ∨ ∃ a, xs = [V.str a] ∧ Q (.str a) H) := CallR.or call_str_int SkE.call_str_str
def blankS : Str := SX.S [32]
theorem blank_eq : (" " : Str) = SX.S [32] := by decide +kernel
def spPT (K : PySem.W.Frag) (n : Nat) : Sp := fun vs H Q _ => ∃ (p : Part) (v : V), vs = [v] ∧ PA K H p v ∧ p.good ∧ p.hgt ≤ n ∧ p.hgt ≤ 8 ∧ ∀ (H' : Hp), Same H H' → Q (.str (SX.S p.tx)) H'
theorem inW (p : Part) : inV (.str p.word) [.str "num", .str "cell"] = (p.isNum || p.isCel) := by
  have e : ∀ z : Str, inV (.str z) [.str "num", .str "cell"] = (decide (("num" : Str) = z) || decide (("cell" : Str) = z)) := fun z => by
    simp [inV, eqV, Bool.beq_eq_decide_eq]
  rw [e, ← Part.w_num, ← Part.w_cell]
  simp only [eq_comm]
theorem log_ok {i : Int} (h0 : -1000000 < i) (h1 : i < 1000000) : i.natAbs.log2 < 1920 := by
  by_cases h : i.natAbs = 0
  · rw [h]
    decide
  · rw [Nat.log2_lt h]
    have : (2 : Nat) ^ 20 ≤ 2 ^ 1920 := Nat.pow_le_pow_right (by decide) (by decide)
    have e : (2 : Nat) ^ 20 = 1048576 := by decide
    omega
theorem sumS : ("sum" : Str) = SX.S sumL := by decide +kernel
theorem sumS_ : ("sum " : Str) = SX.S (sumL ++ [32]) := by decide +kernel
theorem pickS : ("pick" : Str) = SX.S pickL := by decide +kernel
theorem S_app (a b : List Nat) : SX.S a ++ SX.S b = SX.S (a ++ b) := SX.S_cat a b
theorem S_length (a : List Nat) : (SX.S a).length = a.length := SX.S_len a
def Part.wd : Part → List Nat
  | .op w _ _ => w.l
  | _ => pickL
theorem Part.wd_eq {p : Part} (o : p.isOp = true) : p.word = SX.S p.wd := by
  cases p with
  | op w p q => exact w.s_l
  | pick p q r t => exact pickS
  | _ => exact absurd o Bool.false_ne_true
theorem Part.tx_kids {p : Part} (o : p.isOp = true) : p.tx = p.wd ++ ([32] ++ TL.joinL [32] (p.kids.map Part.tx)) := by
  cases p with
  | op w p q => exact Part.tx_op w p q
  | pick p q r t => exact Part.tx_pick p q r t
  | _ => exact absurd o Bool.false_ne_true
theorem Part.wd_len (p : Part) : p.wd.length ≤ 4 := by
  cases p with
  | op w p q => cases w <;> simp [Part.wd, W3.l]
  | _ => simp [Part.wd, pickL]
theorem Part.kids_len (p : Part) : p.kids.length ≤ 4 := by cases p <;> simp [Part.kids]
theorem Part.kinds (p : Part) : (∃ n, p = .num n) ∨ (∃ c, p = .cel c) ∨ (∃ c d, p = .sum c d) ∨ p.isOp = true := by
  cases p with
  | num n => exact .inl ⟨n, rfl⟩
  | cel c => exact .inr (.inl ⟨c, rfl⟩)
  | sum c d => exact .inr (.inr (.inl ⟨c, d, rfl⟩))
  | op w p q => exact .inr (.inr (.inr rfl))
  | pick p q r t => exact .inr (.inr (.inr rfl))
theorem Part.op_not {p : Part} (o : p.isOp = true) : p.isNum = false ∧ p.isCel = false ∧ p.isSum = false := by
  cases p with
  | op w p q => exact ⟨rfl, rfl, rfl⟩
  | pick p q r t => exact ⟨rfl, rfl, rfl⟩
  | _ => exact absurd o Bool.false_ne_true
theorem sl1_ne (x : V) (xs : List V) : ¬ (HT.sIx (x :: xs).length 0 (some 1) = 0 ∧ HT.sIx (x :: xs).length (x :: xs).length none = (x :: xs).length) := by
  rintro ⟨h, _⟩
  unfold HT.sIx at h
  simp at h
theorem sum_le {α : Type} {f : α → Nat} {B : Nat} : ∀ {l : List α}, (∀ x ∈ l, f x ≤ B) → (l.map f).sum ≤ l.length * B
  | [], _ => by simp
  | x :: r, h => by
    have h1 := h x (by simp)
    have h2 := sum_le (l := r) fun y hy => h y (by simp [hy])
    rw [List.map_cons, List.sum_cons, List.length_cons, Nat.succ_mul]
    omega
theorem take_next {α : Type} {l : List α} {i : Nat} {x : α} (h : l[i]? = some x) : l.take (i + 1) = l.take i ++ [x] := by
  rw [List.take_add_one, h]
  rfl
theorem join_kids (l : List Part) : Txt.join " " (l.map fun z => SX.S z.tx) = SX.S (TL.joinL [32] (l.map Part.tx)) := by
  rw [blank_eq, ← SX.join_S, List.map_map]
  rfl
theorem kids_size {l : List Part} (h4 : l.length ≤ 4) (hg : ∀ z ∈ l, z.good ∧ z.hgt ≤ 8) : ((l.map fun z => SX.S z.tx).map (·.length)).sum + (l.map fun z => SX.S z.tx).length * (" " : Str).length ≤ 16777216 := by
  have h1 : (" " : Str).length = 1 := by rw [blank_eq]; rfl
  rw [h1, List.map_map, List.length_map]
  have h2 := sum_le (f := (fun x : Str => x.length) ∘ fun z : Part => SX.S z.tx) (B := 700000) (l := l) fun z hz => by
    show (SX.S z.tx).length ≤ 700000
    rw [S_length]
    exact Part.tx_le (hg z hz).1 (hg z hz).2
  have h3 : l.length * 700000 ≤ 4 * 700000 := Nat.mul_le_mul_right _ h4
  omega
/-! ### a content's text -/
def ctx : Option Part → List Nat
  | none => []
  | some (.num n) => nl n
  | some p => [61, 32] ++ p.tx
theorem ctx_not {p : Part} (h : p.isNum = false) : ctx (some p) = [61, 32] ++ p.tx := by
  cases p with
  | num n => exact absurd h.symm Bool.false_ne_true
  | _ => rfl
theorem eqS : ("= " : Str) = SX.S [61, 32] := by decide +kernel
def spText (K : PySem.W.Frag) : Sp := fun vs H Q _ => ∃ (p : Option Part) (v : V), vs = [v] ∧ CA K H p v ∧ goodC p 8 ∧ ∀ (H' : Hp), Same H H' → Q (.str (SX.S (ctx p))) H'
/-! ### the cells that a content reads -/
def addU (acc : List Str) (x : Str) : List Str := if x ∈ acc then acc else acc ++ [x]
def dedupe (l : List Str) : List Str := l.foldl addU []
theorem mem_addU {acc : List Str} {x y : Str} : y ∈ addU acc x ↔ y ∈ acc ∨ y = x := by
  unfold addU
  by_cases h : x ∈ acc
  · rw [if_pos h]
    constructor
    · exact .inl
    · rintro (q | rfl)
      · exact q
      · exact h
  · rw [if_neg h]
    simp
theorem mem_foldU : ∀ {l acc : List Str} {y : Str}, y ∈ l.foldl addU acc ↔ y ∈ acc ∨ y ∈ l
  | [], acc, y => by simp
  | x :: r, acc, y => by
    rw [List.foldl_cons, mem_foldU, mem_addU]
    simp only [List.mem_cons]
    constructor
    · rintro ((h | h) | h)
      · exact .inl h
      · exact .inr (.inl h)
      · exact .inr (.inr h)
    · rintro (h | h | h)
      · exact .inl (.inl h)
      · exact .inl (.inr h)
      · exact .inr h
theorem fold_addU (acc pre : List Str) (x : Str) : (addU pre x).foldl addU acc = addU (pre.foldl addU acc) x := by
  by_cases h : x ∈ pre
  · have e : addU pre x = pre := if_pos h
    have e2 : addU (pre.foldl addU acc) x = pre.foldl addU acc := if_pos (mem_foldU.mpr (.inr h))
    rw [e, e2]
  · have e : addU pre x = pre ++ [x] := if_neg h
    rw [e, List.foldl_append]
    rfl
theorem fold_fold (acc : List Str) : ∀ (l pre : List Str), (l.foldl addU pre).foldl addU acc = l.foldl addU (pre.foldl addU acc)
  | [], pre => rfl
  | x :: r, pre => by
    rw [List.foldl_cons, fold_fold acc r (addU pre x), fold_addU]
    rfl
theorem fold_dedupe (acc l : List Str) : (dedupe l).foldl addU acc = l.foldl addU acc := fold_fold acc l []
theorem dedupe_nodup : ∀ {l acc : List Str}, (acc ++ l).Nodup → l.foldl addU acc = acc ++ l
  | [], acc, _ => by simp
  | x :: r, acc, h => by
    have hx : x ∉ acc := fun q => by
      have := List.nodup_append.mp h
      exact this.2.2 x q x (by simp) rfl
    have e : addU acc x = acc ++ [x] := if_neg hx
    rw [List.foldl_cons, e, dedupe_nodup (by simpa using h)]
    simp
theorem foldU_len : ∀ (l acc : List Str), (l.foldl addU acc).length ≤ acc.length + l.length
  | [], acc => by simp
  | x :: r, acc => by
    have h1 := foldU_len r (addU acc x)
    have h2 : (addU acc x).length ≤ acc.length + 1 := by
      unfold addU
      split <;> simp
    rw [List.foldl_cons, List.length_cons]
    omega
theorem rowL_mem {a n r : Nat} {z : Str} : z ∈ rowL a n r ↔ ∃ k, a ≤ k ∧ k < a + n ∧ z = SX.S [97 + k, 49 + r] := by
  unfold rowL
  simp only [List.mem_map, List.mem_range'_1]
  constructor
  · rintro ⟨k, ⟨h1, h2⟩, rfl⟩
    exact ⟨k, h1, h2, rfl⟩
  · rintro ⟨k, h1, h2, rfl⟩
    exact ⟨k, ⟨h1, h2⟩, rfl⟩
theorem S2_inj {a b c d : Nat} (h : SX.S [97 + a, 49 + b] = SX.S [97 + c, 49 + d]) : a = c ∧ b = d := by
  have q := SX.S_inj h
  simp only [List.cons.injEq, and_true] at q
  omega
theorem rowL_nodup (a r : Nat) : ∀ n, (rowL a n r).Nodup
  | 0 => by simp [rowL]
  | n + 1 => by
    rw [rowL_succ, List.nodup_append]
    refine ⟨rowL_nodup a r n, by simp, ?_⟩
    rintro x hx y hy rfl
    obtain ⟨k, h1, h2, e⟩ := rowL_mem.mp hx
    have e2 : x = SX.S [97 + (a + n), 49 + r] := by simpa using hy
    rw [e] at e2
    have := S2_inj e2
    omega
theorem rowsL_mem {a n b m : Nat} {z : Str} : z ∈ rowsL a n b m ↔ ∃ k r, a ≤ k ∧ k < a + n ∧ b ≤ r ∧ r < b + m ∧ z = SX.S [97 + k, 49 + r] := by
  unfold rowsL
  simp only [List.mem_flatMap, List.mem_range'_1, rowL_mem]
  constructor
  · rintro ⟨r, ⟨h1, h2⟩, k, h3, h4, rfl⟩
    exact ⟨k, r, h3, h4, h1, h2, rfl⟩
  · rintro ⟨k, r, h3, h4, h1, h2, rfl⟩
    exact ⟨r, ⟨h1, h2⟩, k, h3, h4, rfl⟩
theorem rowsL_nodup (a n b : Nat) : ∀ m, (rowsL a n b m).Nodup
  | 0 => by simp [rowsL]
  | m + 1 => by
    rw [rowsL_succ, List.nodup_append]
    refine ⟨rowsL_nodup a n b m, rowL_nodup _ _ _, ?_⟩
    rintro x hx y hy rfl
    obtain ⟨k, r, h1, h2, h3, h4, e⟩ := rowsL_mem.mp hx
    obtain ⟨k', h1', h2', e'⟩ := rowL_mem.mp hy
    rw [e] at e'
    have := S2_inj e'
    omega
theorem strL_nodup (x y : Cel) : (strL x y).Nodup := rowsL_nodup _ _ _ _
theorem strL_len (x y : Cel) : (strL x y).length ≤ 54 := by
  unfold strL
  rw [rowsL_len]
  have h1 := x.hc
  have h2 := y.hc
  have h3 := x.hr
  have h4 := y.hr
  have : (max x.c y.c + 1 - min x.c y.c) * (max x.r y.r + 1 - min x.r y.r) ≤ 6 * 9 := Nat.mul_le_mul (by omega) (by omega)
  omega
/-- all that a part reads, as often as it stands there -/
def Part.cells : Part → List Str
  | .num _ => []
  | .cel c => [c.s]
  | .sum c d => strL c d
  | .op _ p q => p.cells ++ q.cells
  | .pick p q r t => p.cells ++ (q.cells ++ (r.cells ++ t.cells))
theorem Part.cells_kids {p : Part} (o : p.isOp = true) : p.cells = p.kids.flatMap Part.cells := by
  cases p with
  | op w p q => simp [Part.kids, Part.cells]
  | pick p q r t => simp [Part.kids, Part.cells]
  | _ => exact absurd o Bool.false_ne_true
def Part.reads (p : Part) : List Str := dedupe p.cells
def readsC : Option Part → List Str
  | none => []
  | some p => p.reads
theorem Part.cells_len : ∀ (p : Part), p.cells.length ≤ 54 * 4 ^ p.hgt
  | .num n => by simp [Part.cells]
  | .cel c => by simp [Part.cells, Part.hgt]
  | .sum c d => by
    have := strL_len c d
    show (strL c d).length ≤ 54 * 4 ^ 1
    omega
  | .op w p q => by
    have h1 := Part.cells_len p
    have h2 := Part.cells_len q
    have e1 : 4 ^ p.hgt ≤ 4 ^ (max p.hgt q.hgt) := Nat.pow_le_pow_right (by decide) (by omega)
    have e2 : 4 ^ q.hgt ≤ 4 ^ (max p.hgt q.hgt) := Nat.pow_le_pow_right (by decide) (by omega)
    have e3 : 4 ^ (Part.op w p q).hgt = 4 ^ (max p.hgt q.hgt) * 4 := by show 4 ^ (max p.hgt q.hgt + 1) = _; rw [Nat.pow_succ]
    rw [e3]
    show (p.cells ++ q.cells).length ≤ _
    rw [List.length_append]
    omega
  | .pick p q r t => by
    have h1 := Part.cells_len p
    have h2 := Part.cells_len q
    have h3 := Part.cells_len r
    have h4 := Part.cells_len t
    have e1 : 4 ^ p.hgt ≤ 4 ^ (max (max p.hgt q.hgt) (max r.hgt t.hgt)) := Nat.pow_le_pow_right (by decide) (by omega)
    have e2 : 4 ^ q.hgt ≤ 4 ^ (max (max p.hgt q.hgt) (max r.hgt t.hgt)) := Nat.pow_le_pow_right (by decide) (by omega)
    have e3 : 4 ^ r.hgt ≤ 4 ^ (max (max p.hgt q.hgt) (max r.hgt t.hgt)) := Nat.pow_le_pow_right (by decide) (by omega)
    have e4 : 4 ^ t.hgt ≤ 4 ^ (max (max p.hgt q.hgt) (max r.hgt t.hgt)) := Nat.pow_le_pow_right (by decide) (by omega)
    have e5 : 4 ^ (Part.pick p q r t).hgt = 4 ^ (max (max p.hgt q.hgt) (max r.hgt t.hgt)) * 4 := by show 4 ^ (max (max p.hgt q.hgt) (max r.hgt t.hgt) + 1) = _; rw [Nat.pow_succ]
    rw [e5]
    show (p.cells ++ (q.cells ++ (r.cells ++ t.cells))).length ≤ _
    simp only [List.length_append]
    omega
theorem Part.cells_le {p : Part} (h : p.hgt ≤ 8) : p.cells.length ≤ 3600000 := by
  have h1 := Part.cells_len p
  have e : 4 ^ p.hgt ≤ 4 ^ 8 := Nat.pow_le_pow_right (by decide) h
  have e2 : (4 : Nat) ^ 8 = 65536 := by decide
  omega
theorem inS (x : Str) (l : List Str) : inV (.str x) (l.map V.str) = decide (x ∈ l) := by
  induction l with
  | nil => rfl
  | cons y r ih =>
    have e : inV (.str x) ((y :: r).map V.str) = (eqV (.str y) (.str x) || inV (.str x) (r.map V.str)) := rfl
    rw [e, ih]
    have e2 : eqV (.str y) (.str x) = decide (y = x) := by simp [eqV, Bool.beq_eq_decide_eq]
    rw [e2]
    by_cases h : y = x
    · subst h; simp
    · by_cases h2 : x ∈ r
      · simp [h, h2]
      · simp [h, h2]
        exact fun e => h e.symm
theorem flat_strs : ∀ l : List Str, (l.map V.str).all flatV = true
  | [] => rfl
  | _ :: r => flat_strs r
def spReads (K : PySem.W.Frag) (n : Nat) : Sp := fun vs H Q _ => ∃ (p : Option Part) (v : V), vs = [v] ∧ CA K H p v ∧ (∀ q, p = some q → q.hgt < n ∧ q.hgt ≤ 8) ∧ 0 < n ∧
  ∀ (r : Addr) (H' : Hp), H r = none → Same H H' → H' r = some (.lst ((readsC p).map V.str)) → Q (.ref r) H'
/-! ### the program's cells -/
def isCelL : List Nat → Bool
  | [a, b] => decide (97 ≤ a) && decide (a ≤ 102) && (decide (49 ≤ b) && decide (b ≤ 57))
  | _ => false
theorem isCelL_cel (c : Cel) : isCelL c.l = true := by
  have := c.hc
  have := c.hr
  simp [isCelL, Cel.l]
  omega
theorem isCelL_iff {l : List Nat} (h : isCelL l = true) : ∃ c : Cel, l = c.l := by
  match l, h with
  | [a, b], h =>
    simp only [isCelL, Bool.and_eq_true, decide_eq_true_eq] at h
    refine ⟨⟨a - 97, b - 49, by omega, by omega⟩, ?_⟩
    show [a, b] = [97 + (a - 97), 49 + (b - 49)]
    congr 1
    · omega
    · congr 1
      omega
theorem Cel.l_inj {c d : Cel} (h : c.l = d.l) : c = d := by
  cases c
  cases d
  simp only [Cel.l, List.cons.injEq, and_true] at h
  congr 1 <;> omega
def spIsCell : Sp := fun vs H Q _ => ∃ l : List Nat, vs = [.str (SX.S l)] ∧ l.length ≤ sizeLine ∧ Q (.bl (isCelL l)) H
def spPlace (CN : Addr) : Sp := fun vs H Q E => ∃ l : List Nat, vs = [.str (SX.S l)] ∧ l.length ≤ 10000000 ∧ (∀ c : Cel, l = c.l → ∀ t, H t = none → Q (.ref t) (upd H t (.tup [.int c.c, .int c.r]))) ∧ (isCelL l = false → E (.ref CN) none H)
def spStretch (CN : Addr) : Sp := fun vs H Q E => ∃ l m : List Nat, vs = [.str (SX.S l), .str (SX.S m)] ∧ l.length ≤ 10000000 ∧ m.length ≤ 10000000 ∧
  (∀ c d : Cel, l = c.l → m = d.l → ∀ (p : Addr) (H' : Hp), H p = none → Same H H' → H' p = some (.lst ((strL c d).map V.str)) → Q (.ref p) H') ∧ ((isCelL l = false ∨ isCelL m = false) → ∀ H', Same H H' → E (.ref CN) none H')
def spShifted (CN : Addr) : Sp := fun vs H Q E => ∃ (l : List Nat) (n : Int), vs = [.str (SX.S l), .int n] ∧ l.length ≤ 10000000 ∧
  (∀ c : Cel, l = c.l → ∀ (H' : Hp), Same H H' → (∀ d : Cel, d.c = c.c → (d.r : Int) = c.r + n → Q (.str d.s) H') ∧ ((c.r : Int) + n < 0 ∨ 9 ≤ (c.r : Int) + n → Q (.str (SX.S [])) H')) ∧ (isCelL l = false → ∀ H', Same H H' → E (.ref CN) none H')
theorem col_in (a : Nat) : decide (a ∈ ("abcdef" : Str).cps.toList) = (decide (97 ≤ a) && decide (a ≤ 102)) := by
  have e : ("abcdef" : Str).cps.toList = [97, 98, 99, 100, 101, 102] := by decide +kernel
  rw [e, Bool.eq_iff_iff]
  simp
  omega
theorem row_in (a : Nat) : decide (a ∈ ("123456789" : Str).cps.toList) = (decide (49 ≤ a) && decide (a ≤ 57)) := by
  have e : ("123456789" : Str).cps.toList = [49, 50, 51, 52, 53, 54, 55, 56, 57] := by decide +kernel
  rw [e, Bool.eq_iff_iff]
  simp
  omega
theorem col_idx : ∀ {c : Nat}, c < 6 → (Builtin.Str.occurrences ("abcdef" : Str) (SX.S [97 + c]) 0 ("abcdef" : Str).length 1).head? = some c := by decide +kernel
theorem row_idx : ∀ {c : Nat}, c < 9 → (Builtin.Str.occurrences ("123456789" : Str) (SX.S [49 + c]) 0 ("123456789" : Str).length 1).head? = some c := by decide +kernel
theorem head_rest {l : List Nat} {x : Nat} (h : l.head? = some x) : ∃ r, l = x :: r := by
  cases l with
  | nil => cases h
  | cons y r => cases h; exact ⟨r, rfl⟩
theorem cut_col : ∀ {a : Nat}, a < 6 → ∀ {n : Nat}, n < 7 → a + n ≤ 6 → cutS ("abcdef" : Str) (some (a : Int)) (some ((a + n : Nat) : Int)) = SX.S (List.range' (97 + a) n) := by decide +kernel
theorem cut_row : ∀ {a : Nat}, a < 9 → ∀ {n : Nat}, n < 10 → a + n ≤ 9 → cutS ("123456789" : Str) (some (a : Int)) (some ((a + n : Nat) : Int)) = SX.S (List.range' (49 + a) n) := by decide +kernel
theorem range_at {a n i c : Nat} (h : (SX.S (List.range' a n)).cps[i]? = some c) : i < n ∧ c = a + i := by
  have h : (List.range' a n).toArray[i]? = some c := h
  rw [List.getElem?_toArray] at h
  obtain ⟨hi, e⟩ := List.getElem?_eq_some_iff.mp h
  rw [List.getElem_range'] at e
  rw [List.length_range'] at hi
  exact ⟨hi, by omega⟩
theorem range_size (a n : Nat) : (SX.S (List.range' a n)).cps.size = n := by simp [SX.S]
theorem ten_m {n : Nat} (h : n ≤ 10000000) : n ≤ sizeLine := by rw [sizeLine_eq]; omega
/-! ### the program's words and cells -/
def svs (l : List (List Nat)) : List V := l.map fun z => V.str (SX.S z)
theorem svs_len (l : List (List Nat)) : (svs l).length = l.length := List.length_map _
theorem svs_app (l m : List (List Nat)) : svs (l ++ m) = svs l ++ svs m := List.map_append
theorem svs_map (l : List (List Nat)) : svs l = (l.map SX.S).map V.str := by
  unfold svs
  rw [List.map_map]
  rfl
def spWords (K : PySem.W.Frag) (n : Nat) : Sp := fun vs H Q _ => ∃ (p : Part) (v : V), vs = [v] ∧ PA K H p v ∧ p.good ∧ p.hgt ≤ n ∧ p.hgt ≤ 8 ∧ ∀ (r : Addr) (H' : Hp), H r = none → Same H H' → H' r = some (.lst (svs p.wl)) → Q (.ref r) H'
def spCells (K : PySem.W.Frag) (n : Nat) : Sp := fun vs H Q _ => ∃ (p : Part) (v : V), vs = [v] ∧ PA K H p v ∧ p.hgt ≤ n ∧ p.hgt ≤ 8 ∧ ∀ (r : Addr) (H' : Hp), H r = none → Same H H' → H' r = some (.lst (p.cells.map V.str)) → Q (.ref r) H'
theorem Part.wl_kids {p : Part} (o : p.isOp = true) : p.wl = p.wd :: p.kids.flatMap Part.wl := by
  cases p with
  | op w p q => simp [Part.kids, Part.wl, Part.wd]
  | pick p q r t => simp [Part.kids, Part.wl, Part.wd]
  | _ => exact absurd o Bool.false_ne_true
theorem joinL_len {s : List Nat} : ∀ l : List (List Nat), l.length ≤ (TL.joinL (32 :: s) l).length + 1
  | [] => by simp [TL.joinL]
  | [x] => by simp [TL.joinL]
  | x :: y :: r => by
    have := joinL_len (s := s) (y :: r)
    show (x :: y :: r).length ≤ (x ++ ((32 :: s) ++ TL.joinL (32 :: s) (y :: r))).length + 1
    simp only [List.length_append, List.length_cons] at this ⊢
    omega
theorem Part.wl_len {p : Part} (h : p.good) (n : p.hgt ≤ 8) : p.wl.length ≤ 700001 := by
  have h1 := Part.tx_le h n
  have h2 := joinL_len (s := []) p.wl
  unfold Part.tx at h1
  omega
theorem joinL_sum : ∀ l : List (List Nat), (l.map List.length).sum + l.length ≤ (TL.joinL [32] l).length + 1
  | [] => by simp
  | [x] => by simp [TL.joinL]
  | x :: y :: r => by
    have := joinL_sum (y :: r)
    show _ ≤ (x ++ ([32] ++ TL.joinL [32] (y :: r))).length + 1
    simp only [List.map_cons, List.sum_cons, List.length_append, List.length_cons, List.length_nil] at this ⊢
    omega
theorem join_wl (p : Part) : Txt.join " " (p.wl.map SX.S) = SX.S p.tx := by
  rw [blank_eq, SX.join_S]
  rfl
theorem wl_size {p : Part} (h : p.good) (n : p.hgt ≤ 8) : ((p.wl.map SX.S).map (·.length)).sum + (p.wl.map SX.S).length * (" " : Str).length ≤ 16777216 := by
  have h1 : (" " : Str).length = 1 := by rw [blank_eq]; rfl
  have h2 := joinL_sum p.wl
  have h3 := Part.tx_le h n
  unfold Part.tx at h3
  rw [h1, SX.lens, List.length_map]
  have e : p.wl.map (fun x => x.length) = p.wl.map List.length := rfl
  rw [e]
  omega
theorem keepTk {K : PySem.W.Frag} {r : Addr} {G G' : Hp} {ys : List V} (g : G r = some (.lst ys)) (kp : Keep r r G G') : Tk K G G' := fun a0 zs h => by
  rcases h with (h | ⟨o, h⟩) | h
  · have ne : a0 ≠ r := ne_of h g (by intro z; cases z)
    exact .inl (.inl (kp _ _ h ne ne))
  · have ne : a0 ≠ r := ne_of h g (by intro z; cases z)
    exact .inl (.inr ⟨o, kp _ _ h ne ne⟩)
  · exact .inr h
end U

namespace U
open PySem L2 PyProof.Rows
section
variable {X : Cx}
/-- name = {k: v for ..} on one line, the name a local -/
theorem ps_setDc {i : Nat} {y : Str} {py : Pos} {kx vx tg iter : Expr} {ifs : List Expr} {scope : Scope} {own : List (Str × Nat)} {pos spos : Pos} {wi : TI} {g : TG} {tt : TT} {tk tv : TE} (hc : X.calm = true) (hN : X.N.Nodup) (hy : X.N[i]? = some y)
    (hyl : X.env.scope.names.lookup y = some .local) (hsw : swapsWith (.DictComp kx vx [⟨tg, iter, ifs, 0⟩] scope pos) (some (.Name y py)) spos.line X.env = pure true) (hi : PI X tg iter wi) (ok : BlkOk X.N X.env.scope scope own)
    (hg : ∀ (s : Shared) (H : Hp) (C : Addr) (cl : List (Str × Addr)) (fp : List Addr), PG (X.blk s H scope (compEnvC scope cl C X.env) fp) tg g)
    (ht : ∀ (s : Shared) (H : Hp) (C : Addr) (cl : List (Str × Addr)) (fp : List Addr), PTs (X.blk s H scope (compEnvC scope cl C X.env) fp) ifs tt)
    (hk : ∀ (s : Shared) (H : Hp) (C : Addr) (cl : List (Str × Addr)) (fp : List Addr), PE (X.blk s H scope (compEnvC scope cl C X.env) fp) kx tk)
    (hv : ∀ (s : Shared) (H : Hp) (C : Addr) (cl : List (Str × Addr)) (fp : List Addr), PE (X.blk s H scope (compEnvC scope cl C X.env) fp) vx tv)
    (hs : ∀ x, foldedSetIterable iter X.env x = pure x := by intro _; rfl) :
    PS X (.Assign [.Name y py] (.DictComp kx vx [⟨tg, iter, ifs, 0⟩] scope pos) spos) (tAsg (tDc wi g tt tk tv (own.map (·.2))) (gName i)) := by
  refine ⟨fun pins s σ H D I h => ?_⟩
  rw [exec_Assign_Name_used _ _ _ _ hsw]
  refine wpAny_bind (wpAny_standAt (wpAny_bind ?_))
  have h : tDc wi g tt tk tv (own.map (·.2)) σ H (fun x H1 => gName i x σ H1 D.nx) := h
  refine wpAny_bind (thn (dc_core (use := some (assign (.Name y py) X.env)) (Qf := fun _ s' => SP X pins D .next s') hc hN I hi ok hg ht hk hv hs h fun L C s' m H' I' q hn f => ?_) fun _ s' hq => wpAny_pure (wpAny_pure hq))
  refine wpAny_assign_Name (store_ok2 (v := V.ref L) I' hN hy (.inl hyl) rfl (fun s2 I2 ⟨a, sb, ha⟩ => ?_) (.inr hyl))
  have f1 := f.2.1
  have haC : C ≠ a := by
    rcases ha with z | z
    · exact z ▸ f1
    · exact fun e => f.2.2.2.2.1 y a z e.symm
  refine ⟨m, hn.sameBut sb haC, fun h3 sb3 => ?_⟩
  exact ⟨_, H', I2.turned (t' := s2.toks) (fun b o hb e => (sb3.2 b hb).trans e) f.1 f1 f.2.2.2.1 f.2.2.2.2.1 f.2.2.2.2.2, q⟩
theorem sw_dc {kx vx : Expr} {gs : List Comprehension} {scope : Scope} {pos py : Pos} {y : Str} {l : Nat} {env : Env} (hk : env.scope.kind = .function) (hy : env.scope.names.lookup y = some .local) (hl : (py.line == pos.line) = true)
    (ha : (scope.names.any fun (n, k) => n == y && (k == .local || k == .cell)) = false) : swapsWith (.DictComp kx vx gs scope pos) (some (.Name y py)) l env = pure true :=
  sw_true (elt := kx) (gs := gs) (scope := scope) (pos := pos) (py := py) (y := y) (l := l) (env := env) hk hy hl ha
/-- a walk over a list that stays -/
theorem itl_loop {K : PySem.W.Frag} {a : Addr} {xs : List V} {H0 : Hp} {Qd : Hp → Prop} {body : V → Hp → (Hp → Prop) → Prop} (Pv : Nat → Hp → Prop) (h0 : Pv 0 H0) (hl : ∀ i H, i ≤ xs.length → Pv i H → SqL K H a xs)
    (hs : ∀ i x H, xs[i]? = some x → Pv i H → body x H (Pv (i + 1))) (hd : ∀ H, Pv xs.length H → Qd H) :
    ∃ W : Nat → Nat → Hp → Prop, (∃ m, W 0 m H0) ∧ ∀ i m H, W i m H → ((Itl K a).stop i H ∧ Qd H) ∨ ((Itl K a).go i H ∧ ∃ Nx : Hp → Prop, (∀ H', Nx H' → ∃ m', m' < m ∧ W (i + 1) m' H') ∧ ∀ v H', (Itl K a).yld i H v H' → body v H' Nx) := by
  refine ⟨fun i m H => m = xs.length - i ∧ i ≤ xs.length ∧ Pv i H, ⟨xs.length, by simp, Nat.zero_le _, h0⟩, fun i m H ⟨em, hi, p⟩ => ?_⟩
  subst em
  have q := hl i H hi p
  rcases Nat.lt_or_ge i xs.length with hlt | hge
  · exact .inr ⟨⟨xs, xs[i], q, List.getElem?_eq_getElem hlt⟩, Pv (i + 1), fun H' p' => ⟨xs.length - (i + 1), by omega, rfl, hlt, p'⟩, fun v H' y => by
      obtain ⟨e, y⟩ := y
      rw [e]
      exact hs i v H (y xs q) p⟩
  · have e : i = xs.length := by omega
    exact .inl ⟨⟨xs, q, hge⟩, hd H (e ▸ p)⟩
theorem itt_loop {K : PySem.W.Frag} {a : Addr} {xs : List V} {H0 : Hp} {Qd : Hp → Prop} {body : V → Hp → (Hp → Prop) → Prop} (Pv : Nat → Hp → Prop) (h0 : Pv 0 H0) (hl : ∀ i H, i ≤ xs.length → Pv i H → SqT K H a xs)
    (hs : ∀ i x H, xs[i]? = some x → Pv i H → body x H (Pv (i + 1))) (hd : ∀ H, Pv xs.length H → Qd H) :
    ∃ W : Nat → Nat → Hp → Prop, (∃ m, W 0 m H0) ∧ ∀ i m H, W i m H → ((Itt K a).stop i H ∧ Qd H) ∨ ((Itt K a).go i H ∧ ∃ Nx : Hp → Prop, (∀ H', Nx H' → ∃ m', m' < m ∧ W (i + 1) m' H') ∧ ∀ v H', (Itt K a).yld i H v H' → body v H' Nx) := by
  refine ⟨fun i m H => m = xs.length - i ∧ i ≤ xs.length ∧ Pv i H, ⟨xs.length, by simp, Nat.zero_le _, h0⟩, fun i m H ⟨em, hi, p⟩ => ?_⟩
  subst em
  have q := hl i H hi p
  rcases Nat.lt_or_ge i xs.length with hlt | hge
  · exact .inr ⟨⟨xs, xs[i], q, List.getElem?_eq_getElem hlt⟩, Pv (i + 1), fun H' p' => ⟨xs.length - (i + 1), by omega, rfl, hlt, p'⟩, fun v H' y => by
      obtain ⟨e, y⟩ := y
      rw [e]
      exact hs i v H (y xs q) p⟩
  · have e : i = xs.length := by omega
    exact .inl ⟨⟨xs, q, hge⟩, hd H (e ▸ p)⟩
theorem put_keys {κ : Type} [DecidableEq κ] (kvs : List (κ × V)) (k : κ) (v : V) : (putK kvs k v).map (·.1) = if k ∈ kvs.map (·.1) then kvs.map (·.1) else kvs.map (·.1) ++ [k] := by
  unfold putK
  have e : (kvs.any fun kv => decide (kv.1 = k)) = decide (k ∈ kvs.map (·.1)) := by
    rw [Bool.eq_iff_iff]
    simp only [List.any_eq_true, decide_eq_true_eq, List.mem_map]
  rw [e]
  by_cases h : k ∈ kvs.map (·.1)
  · rw [decide_eq_true h, if_pos rfl, if_pos h, List.map_map]
    refine List.map_congr_left fun p _ => ?_
    show (if p.1 = k then (p.1, v) else p).1 = p.1
    split <;> rfl
  · rw [decide_eq_false h, if_neg Bool.false_ne_true, if_neg h, List.map_append]
    rfl
/-- the dict's keys are the texts so far -/
theorem put_addU {kvs : List (Key × V)} {l : List Str} (h : kvs.map (·.1) = l.map Sum.inr) (x : Str) (v : V) : (putK kvs (Sum.inr x) v).map (·.1) = (addU l x).map Sum.inr := by
  rw [put_keys, h]
  have e : (Sum.inr x : Key) ∈ l.map Sum.inr ↔ x ∈ l := by
    simp
  unfold addU
  by_cases hx : x ∈ l
  · rw [if_pos hx, if_pos (e.mpr hx)]
  · rw [if_neg hx, if_neg fun z => hx (e.mp z), List.map_append]
    rfl
def spRC (K : PySem.W.Frag) : Sp := fun vs H Q _ => ∃ (p : Option Part) (v : V), vs = [v] ∧ CA K H p v ∧ (∀ q, p = some q → q.hgt ≤ 8) ∧
  ∀ (r : Addr) (H' : Hp), H r = none → Same H H' → H' r = some (.lst ((readsC p).map V.str)) → Q (.ref r) H'
end
end U

namespace U
open PySem L2 PyProof.Rows
/-! ### how a content is read: the mirror -/
def isDig (c : Nat) : Bool := decide (48 ≤ c) && decide (c ≤ 57)
def figsL (l : List Nat) : List Nat := match l with
  | 45 :: r => r
  | _ => l
def isNumL (l : List Nat) : Bool := (figsL l).all isDig && (!(figsL l).isEmpty && (decide ((figsL l).length ≤ 6) && (decide (l = [48]) || decide ((figsL l).head? ≠ some 48))))
def valL (l : List Nat) : Int := match l with
  | 45 :: r => -((NumText.digitsVal r : Nat) : Int)
  | _ => ((NumText.digitsVal l : Nat) : Int)
def celOf (l : List Nat) : Cel := match l with
  | [a, b] => ⟨(a - 97) % 6, (b - 49) % 9, Nat.mod_lt _ (by decide), Nat.mod_lt _ (by decide)⟩
  | _ => ⟨0, 0, by decide, by decide⟩
theorem celOf_l (c : Cel) : celOf c.l = c := by
  have h1 := c.hc
  have h2 := c.hr
  cases c with
  | mk a b _ _ =>
    show (⟨(97 + a - 97) % 6, (49 + b - 49) % 9, _, _⟩ : Cel) = _
    congr 1 <;> (simp only at h1 h2; omega)
def addL : List Nat := [97, 100, 100]
def subL : List Nat := [115, 117, 98]
def mulL : List Nat := [109, 117, 108]
def w3of (l : List Nat) : W3 := if l = addL then .add else if l = subL then .sub else .mul
def arity (l : List Nat) : Option Nat := if l = addL ∨ l = subL ∨ l = mulL then some 2 else if l = pickL then some 4 else none
def mkP (w : List Nat) : List Part → Option Part
  | [p, q] => some (.op (w3of w) p q)
  | [p, q, r, t] => some (.pick p q r t)
  | _ => none
abbrev Ws := List (List Nat)
def seqP (f : Ws → Option (Part × Ws)) : Nat → Ws → Option (List Part × Ws)
  | 0, ws => some ([], ws)
  | m + 1, ws => match f ws with
    | none => none
    | some (p, r) => match seqP f m r with
      | none => none
      | some (ps, r') => some (p :: ps, r')
def sumP : Ws → Option (Part × Ws)
  | c :: d :: r => if isCelL c = true ∧ isCelL d = true then some (.sum (celOf c) (celOf d), r) else none
  | _ => none
def pt : Nat → Ws → Option (Part × Ws)
  | 0, _ => none
  | _ + 1, [] => none
  | n + 1, w :: r =>
    if isNumL w = true then some (.num (valL w), r)
    else if isCelL w = true then some (.cel (celOf w), r)
    else if w = sumL then sumP r
    else match arity w with
      | none => none
      | some m => match seqP (pt n) m r with
        | none => none
        | some (ps, r') => match mkP w ps with
          | none => none
          | some p => some (p, r')
def spIsNum : Sp := fun vs H Q _ => ∃ l : List Nat, vs = [.str (SX.S l)] ∧ l.length ≤ 10000000 ∧ Q (.bl (isNumL l)) H
/-- words that may be asked: none longer than ten million signs -/
def okW (W : Ws) : Prop := ∀ w ∈ W, w.length ≤ 10000000
def spPartAt (K : PySem.W.Frag) (CB : Addr) (n : Nat) : Sp := fun vs H Q E => ∃ (a : Addr) (W : Ws) (k : Nat) (d : Int), vs = [.ref a, .int k, .int d] ∧ SqL K H a (svs W) ∧ okW W ∧ k ≤ W.length ∧ (n : Int) + d = 6 ∧
  (∀ p r, pt n (W.drop k) = some (p, r) → ∀ (t : Addr) (v : V) (H' : Hp), Same H H' → PA K H' p v → r.length ≤ W.length → H' t = some (.tup [v, .int ((W.length - r.length : Nat) : Int)]) → r = W.drop (W.length - r.length) → Q (.ref t) H') ∧
  (pt n (W.drop k) = none → ∀ H', Same H H' → E (.ref CB) none H')
def spSumAt (K : PySem.W.Frag) (CB : Addr) : Sp := fun vs H Q E => ∃ (a : Addr) (W : Ws) (k : Nat), vs = [.ref a, .int k] ∧ SqL K H a (svs W) ∧ okW W ∧ k < W.length ∧
  (∀ p r, sumP (W.drop (k + 1)) = some (p, r) → ∀ (t : Addr) (v : V) (H' : Hp), Same H H' → PA K H' p v → r.length ≤ W.length → H' t = some (.tup [v, .int ((W.length - r.length : Nat) : Int)]) → r = W.drop (W.length - r.length) → Q (.ref t) H') ∧
  (sumP (W.drop (k + 1)) = none → ∀ H', Same H H' → E (.ref CB) none H')
def spPartsAt (K : PySem.W.Frag) (CB : Addr) (n : Nat) : Sp := fun vs H Q E => ∃ (a : Addr) (W : Ws) (k : Nat) (d : Int) (w : List Nat) (m : Nat), vs = [.ref a, .int k, .int d] ∧ SqL K H a (svs W) ∧ okW W ∧ k < W.length ∧ W[k]? = some w ∧ arity w = some m ∧ (n : Int) + d + 1 = 6 ∧
  (∀ ps r p, seqP (pt n) m (W.drop (k + 1)) = some (ps, r) → mkP w ps = some p → ∀ (t : Addr) (v : V) (H' : Hp), Same H H' → PA K H' p v → r.length ≤ W.length → H' t = some (.tup [v, .int ((W.length - r.length : Nat) : Int)]) → r = W.drop (W.length - r.length) → Q (.ref t) H') ∧
  (seqP (pt n) m (W.drop (k + 1)) = none → ∀ H', Same H H' → E (.ref CB) none H')
def spPartsX (K : PySem.W.Frag) (CB : Addr) : Nat → Sp
  | 0 => fun _ _ _ _ => False
  | n + 1 => spPartsAt K CB n
/-- the dict PARTS of the module -/
structure PartsF (K : PySem.W.Frag) (w : World) (a : Addr) : Prop where
  dict : ∃ es n, KDict K w a es n
  two : ∀ l, arity l = some 2 → ∃ t, PySem.W.nsIn K a (SX.S l) = some (some (.int 2 t))
  four : ∀ l, arity l = some 4 → ∃ t, PySem.W.nsIn K a (SX.S l) = some (some (.int 4 t))
  no : ∀ l, arity l = none → PySem.W.nsIn K a (SX.S l) = some none
theorem arity_cases (l : List Nat) : arity l = some 2 ∨ arity l = some 4 ∨ arity l = none := by
  unfold arity
  split
  · exact .inl rfl
  · split
    · exact .inr (.inl rfl)
    · exact .inr (.inr rfl)
theorem seqP_len {f : Ws → Option (Part × Ws)} : ∀ {m : Nat} {ws : Ws} {ps : List Part} {r : Ws}, seqP f m ws = some (ps, r) → ps.length = m
  | 0, ws, ps, r, h => by
    cases h
    rfl
  | m + 1, ws, ps, r, h => by
    unfold seqP at h
    split at h
    · cases h
    · split at h
      · cases h
      · cases h
        rename_i q
        simp [seqP_len q]
theorem mkP_some {w : List Nat} {ps : List Part} {m : Nat} (h : arity w = some m) (hl : ps.length = m) : ∃ p, mkP w ps = some p := by
  rcases arity_cases w with e | e | e
  · rw [e] at h
    cases h
    match ps, hl with
    | [p, q], _ => exact ⟨_, rfl⟩
  · rw [e] at h
    cases h
    match ps, hl with
    | [p, q, r, t], _ => exact ⟨_, rfl⟩
  · rw [e] at h
    cases h
theorem mkP_pa {K : PySem.W.Frag} {H : Hp} {w : List Nat} {ps : List Part} {m : Nat} {p : Part} {t : Addr} {xs : List V} (h : arity w = some m) (hl : ps.length = m) (hp : mkP w ps = some p) (ht : SqT K H t (.str (SX.S w) :: xs)) (hx : PAs K H ps xs) : PA K H p (.ref t) := by
  have lx := hx.len
  rcases arity_cases w with e | e | e
  · rw [e] at h
    cases h
    match ps, hl, hp, hx with
    | [p, q], _, hp, hx =>
      cases hp
      match xs, lx, hx with
      | [x, y], _, hx =>
        have ew : (w3of w).s = SX.S w := by
          rw [W3.s_l]
          unfold arity at e
          split at e
          · rename_i z
            unfold w3of
            rcases z with rfl | rfl | rfl
            · rw [if_pos rfl]; rfl
            · rw [if_neg (by decide), if_pos rfl]; rfl
            · rw [if_neg (by decide), if_neg (by decide)]; rfl
          · split at e
            · cases e
            · cases e
        exact ⟨t, x, y, rfl, by rw [ew]; exact ht, hx.1, hx.2.1⟩
  · rw [e] at h
    cases h
    match ps, hl, hp, hx with
    | [p, q, r, u], _, hp, hx =>
      cases hp
      match xs, lx, hx with
      | [x, y, z, a], _, hx =>
        have ew : ("pick" : Str) = SX.S w := by
          rw [pickS]
          unfold arity at e
          split at e
          · cases e
          · split at e
            · rename_i z
              rw [z]
            · cases e
        exact ⟨t, x, y, z, a, rfl, by rw [ew]; exact ht, hx.1, hx.2.1, hx.2.2.1, hx.2.2.2.1⟩
  · rw [e] at h
    cases h
theorem PAs.snoc {K : PySem.W.Frag} {H : Hp} {p : Part} {x : V} : ∀ {ps : List Part} {xs : List V}, PAs K H ps xs → PA K H p x → PAs K H (ps ++ [p]) (xs ++ [x])
  | [], [], _, h => ⟨h, trivial⟩
  | _ :: _, _ :: _, h, q => ⟨h.1, PAs.snoc h.2 q⟩
theorem svs_at {W : Ws} {k : Nat} {w : List Nat} (h : W[k]? = some w) : atI (svs W) (k : Int) = some (.str (SX.S w)) := atI_nat (by unfold svs; rw [List.getElem?_map, h]; rfl)
theorem drop_at {W : Ws} {k : Nat} (h : k < W.length) : ∃ w, W[k]? = some w ∧ W.drop k = w :: W.drop (k + 1) := ⟨W[k], List.getElem?_eq_getElem h, List.drop_eq_getElem_cons h⟩
/-! ### numbers as texts -/
theorem minusS : ("-" : Str) = SX.S [45] := by decide +kernel
theorem figsL_neg (r : List Nat) : figsL (45 :: r) = r := rfl
theorem figsL_ne {c : Nat} (r : List Nat) (h : c ≠ 45) : figsL (c :: r) = c :: r := by
  unfold figsL
  split
  · rename_i e
    cases e
    exact absurd rfl h
  · rfl
theorem rp_minus (l : List Nat) : Txt.removeprefix (SX.S l) "-" = SX.S (figsL l) := by
  rw [minusS]
  unfold Txt.removeprefix
  rw [StrLaws.subAt_eq]
  have e0 : (SX.S l).cps.toList = l := rfl
  have e1 : (SX.S [45]).cps.toList = [45] := rfl
  have e2 : (SX.S [45]).length = 1 := rfl
  rw [e0, e1, e2, List.drop_zero]
  cases l with
  | nil => rfl
  | cons c r =>
    by_cases h : c = 45
    · subst h
      have e3 : (List.take 1 (45 :: r) == [45]) = true := by simp
      rw [e3, if_pos rfl]
      unfold Txt.affix
      rw [S_length]
      have e4 : ((45 :: r).length - 1 == (45 :: r).length) = false := by simp
      simp only [e4, Bool.false_eq_true, if_false]
      refine TL.ext_tl ?_
      show (Builtin.Str.strSub (SX.S (45 :: r)) 1 (45 :: r).length).cps.toList = r
      rw [StrLaws.strSub_toList, e0]
      simp
    · have e3 : (List.take 1 (c :: r) == [45]) = false := by
        simp [h]
      rw [e3, if_neg Bool.false_ne_true, figsL_ne r h]
      rfl
theorem dig_ascii : ∀ {c : Nat}, c < 128 → Unicode.isDigit c = isDig c := by decide +kernel
theorem num_ok (f : List Nat) : (Txt.isascii (SX.S f) && Txt.isdigit (SX.S f)) = (f.all isDig && !f.isEmpty) := by
  have e1 : Txt.isascii (SX.S f) = f.all (fun c => decide (c < 128)) := by
    unfold Txt.isascii SX.S
    simp
  have e2 : Txt.isdigit (SX.S f) = (!f.isEmpty && f.all Unicode.isDigit) := by
    unfold Txt.isdigit
    rw [S_length]
    have e : (SX.S f).cps.all Unicode.isDigit = f.all Unicode.isDigit := by unfold SX.S; simp
    rw [e]
    cases f <;> simp
  rw [e1, e2, Bool.eq_iff_iff]
  simp only [Bool.and_eq_true, List.all_eq_true, decide_eq_true_eq]
  constructor
  · rintro ⟨h1, h2, h3⟩
    exact ⟨fun c hc => (dig_ascii (h1 c hc)) ▸ h3 c hc, h2⟩
  · rintro ⟨h1, h2⟩
    have lt : ∀ c ∈ f, c < 128 := fun c hc => by
      have := h1 c hc
      simp only [isDig, Bool.and_eq_true, decide_eq_true_eq] at this
      omega
    exact ⟨lt, h2, fun c hc => (dig_ascii (lt c hc)).symm ▸ h1 c hc⟩
theorem zeroS : ("0" : Str) = SX.S [48] := by decide +kernel
theorem isNumL_len {l : List Nat} (h : isNumL l = true) : l.length ≤ 7 := by
  unfold isNumL at h
  simp only [Bool.and_eq_true, decide_eq_true_eq] at h
  have := h.2.2.1
  cases l with
  | nil => simp
  | cons c r =>
    by_cases e : c = 45
    · subst e
      rw [figsL_neg] at this
      simp only [List.length_cons]
      omega
    · rw [figsL_ne r e] at this
      omega
theorem isNumL_val {l : List Nat} (h : isNumL l = true) : PySem.intText? (SX.S l) = some (valL l) := by
  have hl := isNumL_len h
  unfold isNumL at h
  simp only [Bool.and_eq_true, decide_eq_true_eq, List.all_eq_true, Bool.not_eq_true', List.isEmpty_eq_false_iff] at h
  obtain ⟨h1, h2, _, _⟩ := h
  have dig : ∀ c ∈ figsL l, 48 ≤ c ∧ c ≤ 57 := fun c hc => by
    have := h1 c hc
    simpa [isDig] using this
  cases l with
  | nil => exact absurd rfl h2
  | cons c r =>
    by_cases e : c = 45
    · subst e
      rw [figsL_neg] at dig h2
      exact PySem.intText_neg (x := SX.S (45 :: r)) rfl dig h2 (by rw [S_length]; omega)
    · rw [figsL_ne r e] at dig h2
      have q := PySem.intText_digits (x := SX.S (c :: r)) dig h2 (by rw [S_length]; omega)
      rw [q]
      unfold valL
      split
      · rename_i z
        cases z
        exact absurd rfl e
      · rfl
theorem cut_nat (l : List V) (i j : Nat) : cutV l (some (i : Int)) (some (j : Int)) = (l.drop i).take (j - i) := by
  unfold cutV
  rw [HT.sIx_nat, HT.sIx_nat]
  by_cases h : i ≤ l.length
  · rw [Nat.min_eq_left h, List.take_eq_take_iff, List.length_drop]
    omega
  · rw [List.drop_eq_nil_of_le (by omega), List.drop_eq_nil_of_le (by omega)]
    simp
theorem cut_from (l : List V) (i : Nat) : cutV l (some (i : Int)) none = l.drop i := by
  unfold cutV
  rw [HT.sIx_nat, HT.sIx_none]
  by_cases h : i ≤ l.length
  · rw [Nat.min_eq_left h, List.take_of_length_le]
    rw [List.length_drop]
    omega
  · rw [List.drop_eq_nil_of_le (by omega), List.drop_eq_nil_of_le (by omega)]
    simp
theorem cut_to (l : List V) (j : Nat) : cutV l none (some (j : Int)) = l.take j := by
  unfold cutV
  rw [HT.sIx_nat, HT.sIx_none, List.drop_zero, List.take_eq_take_iff]
  omega
theorem cut_two (l : List V) (k : Nat) : cutV l (some ((k : Int) + 1)) (some ((k : Int) + 3)) = (l.drop (k + 1)).take 2 := by
  have q := cut_nat l (k + 1) (k + 3)
  have e : k + 3 - (k + 1) = 2 := by omega
  rw [e] at q
  exact q
theorem svs_drop (W : Ws) (k : Nat) : (svs W).drop k = svs (W.drop k) := by unfold svs; rw [List.map_drop]
theorem okW_drop {W : Ws} (h : okW W) (k : Nat) : okW (W.drop k) := fun w hw => h w (List.mem_of_mem_drop hw)
theorem celOf_of {l : List Nat} (h : isCelL l = true) : SX.S l = (celOf l).s := by
  obtain ⟨c, rfl⟩ := isCelL_iff h
  rw [celOf_l]
  rfl
theorem drop_back {W r : Ws} {k j : Nat} (h : W.drop k = r) (hk : k ≤ W.length) : r = W.drop (W.length - r.length) := by
  have e : r.length = W.length - k := by rw [← h, List.length_drop]
  have e2 : W.length - r.length = k := by omega
  rw [e2, h]
theorem seqP_some {f : Ws → Option (Part × Ws)} {m : Nat} {ws r : Ws} {p : Part} (h : f ws = some (p, r)) : seqP f (m + 1) ws = (match seqP f m r with | none => none | some (ps, r') => some (p :: ps, r')) := by
  rw [seqP, h]
theorem seqP_no {f : Ws → Option (Part × Ws)} {m : Nat} {ws : Ws} (h : f ws = none) : seqP f (m + 1) ws = none := by
  rw [seqP, h]
/-- the keys of a written dict, as texts -/
def dictKeys (es : Array DictEntry) : List Str := es.toList.filterMap fun e => match e.key with
  | .str x _ => some x
  | _ => none
theorem nsIn_none {K : PySem.W.Frag} {w : World} {a : Addr} {es : Array DictEntry} {n : Nat} (h : K.lookup a = some ⟨.type "dict", none, .dict es n, #[]⟩) (lit : PySem.W.KeysLit w.params es.toList) {ks : List Str} (hk : dictKeys es = ks) {z : Str} (hz : z ∉ ks) : PySem.W.nsIn K a z = some none := by
  have key : ∀ e ∈ es.toList, e.key.isStr z = false ∧ e.refKey = false := fun e he => by
    obtain ⟨x, t, ex, _⟩ := lit.all e he
    have mem : x ∈ ks := by
      rw [← hk]
      unfold dictKeys
      rw [List.mem_filterMap]
      exact ⟨e, he, by rw [ex]⟩
    constructor
    · rw [ex]
      cases q : (Value.str x t).isStr z with
      | false => rfl
      | true =>
        rw [PySem.W.isStr_of] at q
        obtain ⟨u, eu⟩ := Value.isStrOf_shape q
        cases eu
        exact absurd mem hz
    · unfold DictEntry.refKey
      rw [ex]
  unfold PySem.W.nsIn
  rw [h]
  simp only
  have f1 : es.toList.find? (fun e => e.key.isStr z) = none := List.find?_eq_none.mpr fun e he => by
    rw [(key e he).1]
    exact Bool.false_ne_true
  have f2 : es.toList.any (fun e => e.refKey) = false := List.any_eq_false.mpr fun e he => by
    rw [(key e he).2]
    exact Bool.false_ne_true
  rw [f1, f2]
  rfl
theorem partsF_mk {K : PySem.W.Frag} {w : World} {a : Addr} {es : Array DictEntry} {n : Nat} {t0 t1 t2 t3 : Tok} (h : K.lookup a = some ⟨.type "dict", none, .dict es n, #[]⟩) (lit : PySem.W.KeysLit w.params es.toList) (low : (a == sysModules) = false)
    (hk : dictKeys es = ([("add" : Str), "sub", "mul", "pick"] : List Str)) (v0 : PySem.W.nsIn K a "add" = some (some (.int 2 t0))) (v1 : PySem.W.nsIn K a "sub" = some (some (.int 2 t1))) (v2 : PySem.W.nsIn K a "mul" = some (some (.int 2 t2))) (v3 : PySem.W.nsIn K a "pick" = some (some (.int 4 t3))) : PartsF K w a := by
  have ea : ("add" : Str) = SX.S addL := by decide +kernel
  have es' : ("sub" : Str) = SX.S subL := by decide +kernel
  have em : ("mul" : Str) = SX.S mulL := by decide +kernel
  refine ⟨⟨es, n, h, lit, low⟩, fun l e => ?_, fun l e => ?_, fun l e => ?_⟩
  · unfold arity at e
    split at e
    · rename_i z
      rcases z with rfl | rfl | rfl
      · exact ⟨_, ea ▸ v0⟩
      · exact ⟨_, es' ▸ v1⟩
      · exact ⟨_, em ▸ v2⟩
    · split at e <;> cases e
  · unfold arity at e
    split at e
    · cases e
    · split at e
      · rename_i z
        rw [z]
        exact ⟨_, pickS ▸ v3⟩
      · cases e
  · refine nsIn_none h lit hk ?_
    unfold arity at e
    split at e
    · cases e
    · rename_i z1
      split at e
      · cases e
      · rename_i z2
        rw [ea, es', em, pickS]
        intro q
        simp only [List.mem_cons, List.not_mem_nil, or_false] at q
        rcases q with q | q | q | q
        · exact z1 (.inl (SX.S_inj q))
        · exact z1 (.inr (.inl (SX.S_inj q)))
        · exact z1 (.inr (.inr (SX.S_inj q)))
        · exact z2 (SX.S_inj q)
end U

namespace U
open PySem L2 PyProof.Rows
/-! ### a text is read: the mirror -/
def wsL (l : List Nat) : Ws := TL.spl [32] 0 [] l
def rd (l : List Nat) : Option (Option Part) :=
  if l = [] then some none
  else if isNumL l = true then some (some (.num (valL l)))
  else if (wsL l).head? ≠ some [61] then none
  else match pt 5 ((wsL l).drop 1) with
    | some (p, []) => if p.isNum = true then none else some (some p)
    | _ => none
theorem pre1 (c : Nat) (r : List Nat) : TL.pre [32] (c :: r) = decide (c = 32) := by
  unfold TL.pre
  by_cases h : c = 32
  · subst h; simp
  · simp [h]
theorem spl_len : ∀ (l acc w : List Nat), w ∈ TL.spl [32] 0 acc l → w.length ≤ acc.length + l.length
  | [], acc, w, h => by
    rw [TL.spl_nil] at h
    simp at h
    rw [h]
    simp
  | c :: r, acc, w, h => by
    by_cases e : c = 32
    · rw [TL.spl_hit (by rw [pre1, e]; rfl)] at h
      rcases List.mem_cons.mp h with q | q
      · rw [q]; simp
      · have := spl_len r [] w q
        simp only [List.length_nil, List.length_cons] at this ⊢
        omega
    · rw [TL.spl_miss (by rw [pre1]; exact decide_eq_false e)] at h
      have := spl_len r (acc ++ [c]) w h
      simp only [List.length_append, List.length_cons, List.length_nil] at this ⊢
      omega
theorem spl_ne (l acc : List Nat) : TL.spl [32] 0 acc l ≠ [] := by
  induction l generalizing acc with
  | nil => rw [TL.spl_nil]; simp
  | cons c r ih =>
    by_cases e : c = 32
    · rw [TL.spl_hit (by rw [pre1, e]; rfl)]; simp
    · rw [TL.spl_miss (by rw [pre1]; exact decide_eq_false e)]; exact ih _
theorem split_ws (l : List Nat) : Txt.split (SX.S l) " " = (wsL l).map SX.S := by
  rw [blank_eq]
  exact SX.split_S (by simp) (by decide)
theorem okW_ws {l : List Nat} (h : l.length ≤ 10000000) : okW (wsL l) := fun w hw => by
  have := spl_len l [] w hw
  simp only [List.length_nil] at this
  omega
def spRead (K : PySem.W.Frag) (CB : Addr) : Sp := fun vs H Q E => ∃ l : List Nat, vs = [.str (SX.S l)] ∧ l.length ≤ 10000000 ∧
  (∀ o, rd l = some o → ∀ (v : V) (H' : Hp), Same H H' → CA K H' o v → Q v H') ∧ (rd l = none → ∀ H', Same H H' → E (.ref CB) none H')
/-! ### what is written is read to the same -/
theorem numL_head {n : Nat} (h : n ≠ 0) : (TL.numL n).head? ≠ some 48 := by
  induction n using Nat.strongRecOn with
  | _ n ih =>
    by_cases hn : n < 10
    · rw [TL.numL_lt hn]
      simp
      omega
    · rw [TL.numL_step (by omega)]
      have := ih (n / 10) (by omega) (by omega)
      have ne := TL.numL_ne (n / 10)
      cases q : TL.numL (n / 10) with
      | nil => exact absurd q ne
      | cons c r =>
        rw [q] at this
        simpa using this
theorem numL_dig (n : Nat) : (TL.numL n).all isDig = true := by
  rw [List.all_eq_true]
  intro c hc
  have := TL.numL_digits n c hc
  simp [isDig, this]
theorem numL_not45 (n : Nat) : figsL (TL.numL n) = TL.numL n := by
  cases q : TL.numL n with
  | nil => rfl
  | cons c r =>
    refine figsL_ne r fun e => ?_
    have := TL.numL_free (n := n) (s := 45) (by omega)
    rw [q, e] at this
    exact this (by simp)
theorem isNumL_nl {n : Int} (h0 : -1000000 < n) (h1 : n < 1000000) : isNumL (nl n) = true := by
  cases n with
  | ofNat n =>
    have l6 := TL.numL_len (n := n) (k := 6) (by decide) (by simp only [Int.ofNat_eq_natCast] at h1; omega)
    show isNumL (TL.numL n) = true
    unfold isNumL
    rw [numL_not45, numL_dig, decide_eq_true l6]
    have ne := TL.numL_ne n
    simp only [Bool.true_and, Bool.and_eq_true, Bool.not_eq_true', List.isEmpty_eq_false_iff, Bool.or_eq_true, decide_eq_true_eq]
    refine ⟨ne, ?_⟩
    by_cases z : n = 0
    · left; rw [z, TL.numL_lt (by decide)]
    · right; exact numL_head z
  | negSucc n =>
    have l6 := TL.numL_len (n := n + 1) (k := 6) (by decide) (by omega)
    show isNumL (45 :: TL.numL (n + 1)) = true
    unfold isNumL
    rw [figsL_neg, numL_dig, decide_eq_true l6]
    have ne := TL.numL_ne (n + 1)
    simp only [Bool.true_and, Bool.and_eq_true, Bool.not_eq_true', List.isEmpty_eq_false_iff, Bool.or_eq_true, decide_eq_true_eq]
    exact ⟨ne, .inr (numL_head (by omega))⟩
theorem valL_nl (n : Int) : valL (nl n) = n := by
  cases n with
  | ofNat n =>
    show valL (TL.numL n) = _
    have e : valL (TL.numL n) = ((NumText.digitsVal (TL.numL n) : Nat) : Int) := by
      unfold valL
      split
      · rename_i q
        have := TL.numL_free (n := n) (s := 45) (by omega)
        rw [q] at this
        exact absurd (by simp) this
      · rfl
    rw [e, TL.numL_val]
    rfl
  | negSucc n =>
    show -((NumText.digitsVal (TL.numL (n + 1)) : Nat) : Int) = _
    rw [TL.numL_val]
    omega
theorem notNum {c : Nat} (r : List Nat) (h : c ≠ 45) (h2 : c < 48 ∨ 57 < c) : isNumL (c :: r) = false := by
  unfold isNumL
  rw [figsL_ne r h]
  have e : isDig c = false := by
    simp [isDig]
    omega
  simp [e]
theorem cel_notNum (c : Cel) : isNumL c.l = false := by
  have := c.hc
  exact notNum _ (by omega) (by omega)
theorem nl_notCel (n : Int) : isCelL (nl n) = false := by
  have key : ∀ m : Nat, ∀ c ∈ TL.numL m, 48 ≤ c ∧ c ≤ 57 := fun m => TL.numL_digits m
  cases h : isCelL (nl n) with
  | false => rfl
  | true =>
    obtain ⟨x, e⟩ := isCelL_iff h
    have hx := x.hc
    cases n with
    | ofNat n =>
      have := key n (97 + x.c) (by show _ ∈ nl (Int.ofNat n); rw [e]; simp [Cel.l])
      omega
    | negSucc n =>
      have e : (45 :: TL.numL (n + 1)) = [97 + x.c, 49 + x.r] := e
      simp at e
      omega
theorem w3_facts (w : W3) : isNumL w.l = false ∧ isCelL w.l = false ∧ w.l ≠ sumL ∧ arity w.l = some 2 ∧ w3of w.l = w := by
  cases w <;> refine ⟨by decide, by decide, by decide, by decide, by decide⟩
theorem pick_facts : isNumL pickL = false ∧ isCelL pickL = false ∧ pickL ≠ sumL ∧ arity pickL = some 4 := ⟨by decide, by decide, by decide, by decide⟩
theorem pt_word {n : Nat} {w : List Nat} {r : Ws} (h1 : isNumL w = false) (h2 : isCelL w = false) (h3 : w ≠ sumL) {m : Nat} (h4 : arity w = some m) {ps : List Part} {r' : Ws} (h5 : seqP (pt n) m r = some (ps, r')) {p : Part} (h6 : mkP w ps = some p) :
    pt (n + 1) (w :: r) = some (p, r') := by
  show (if isNumL w = true then _ else if isCelL w = true then _ else if w = sumL then _ else _) = _
  rw [h1, h2, if_neg Bool.false_ne_true, if_neg Bool.false_ne_true, if_neg h3, h4]
  simp only [h5, h6]
theorem pt_wl : ∀ (p : Part) (n : Nat) (r : Ws), p.good → p.hgt ≤ n → pt n (p.wl ++ r) = some (p, r)
  | .num m, n, r, g, h => by
    obtain ⟨k, rfl⟩ : ∃ k, n = k + 1 := ⟨n - 1, by have : 1 ≤ n := h; omega⟩
    show (if isNumL (nl m) = true then _ else _) = _
    rw [if_pos (isNumL_nl g.1 g.2), valL_nl]
    rfl
  | .cel c, n, r, g, h => by
    obtain ⟨k, rfl⟩ : ∃ k, n = k + 1 := ⟨n - 1, by have : 1 ≤ n := h; omega⟩
    show (if isNumL c.l = true then _ else if isCelL c.l = true then _ else _) = _
    rw [if_neg (by rw [cel_notNum]; exact Bool.false_ne_true), if_pos (isCelL_cel c), celOf_l]
    rfl
  | .sum c d, n, r, g, h => by
    obtain ⟨k, rfl⟩ : ∃ k, n = k + 1 := ⟨n - 1, by have : 1 ≤ n := h; omega⟩
    show (if isNumL sumL = true then _ else if isCelL sumL = true then _ else if sumL = sumL then sumP (c.l :: d.l :: r) else _) = _
    rw [if_neg (by decide), if_neg (by decide), if_pos rfl]
    show (if isCelL c.l = true ∧ isCelL d.l = true then some (Part.sum (celOf c.l) (celOf d.l), r) else none) = _
    rw [if_pos ⟨isCelL_cel c, isCelL_cel d⟩, celOf_l, celOf_l]
  | .op w p q, n, r, g, h => by
    obtain ⟨k, rfl⟩ : ∃ k, n = k + 1 := ⟨n - 1, by have : max p.hgt q.hgt + 1 ≤ n := h; omega⟩
    have h : max p.hgt q.hgt + 1 ≤ k + 1 := h
    obtain ⟨f1, f2, f3, f4, f5⟩ := w3_facts w
    have e1 := pt_wl p k (q.wl ++ r) g.1 (by omega)
    have e2 := pt_wl q k r g.2 (by omega)
    show pt (k + 1) (w.l :: ((p.wl ++ q.wl) ++ r)) = _
    rw [List.append_assoc]
    refine pt_word f1 f2 f3 f4 (ps := [p, q]) (by rw [seqP_some e1, seqP_some e2]; rfl) ?_
    show some (Part.op (w3of w.l) p q) = _
    rw [f5]
  | .pick p q s t, n, r, g, h => by
    obtain ⟨k, rfl⟩ : ∃ k, n = k + 1 := ⟨n - 1, by have : max (max p.hgt q.hgt) (max s.hgt t.hgt) + 1 ≤ n := h; omega⟩
    have h : max (max p.hgt q.hgt) (max s.hgt t.hgt) + 1 ≤ k + 1 := h
    obtain ⟨f1, f2, f3, f4⟩ := pick_facts
    have e1 := pt_wl p k (q.wl ++ (s.wl ++ (t.wl ++ r))) g.1 (by omega)
    have e2 := pt_wl q k (s.wl ++ (t.wl ++ r)) g.2.1 (by omega)
    have e3 := pt_wl s k (t.wl ++ r) g.2.2.1 (by omega)
    have e4 := pt_wl t k r g.2.2.2 (by omega)
    show pt (k + 1) (pickL :: ((p.wl ++ (q.wl ++ (s.wl ++ t.wl))) ++ r)) = _
    simp only [List.append_assoc]
    exact pt_word f1 f2 f3 f4 (ps := [p, q, s, t]) (by rw [seqP_some e1, seqP_some e2, seqP_some e3, seqP_some e4]; rfl) rfl
theorem wl_free : ∀ (p : Part), ∀ w ∈ p.wl, 32 ∉ w
  | .num n, w, h => by
    simp only [Part.wl, List.mem_singleton] at h
    rw [h]
    exact nl_free (by omega)
  | .cel c, w, h => by
    simp only [Part.wl, List.mem_singleton] at h
    rw [h]
    simp [Cel.l]
    omega
  | .sum c d, w, h => by
    simp only [Part.wl, List.mem_cons, List.not_mem_nil, or_false] at h
    rcases h with rfl | rfl | rfl
    · decide
    · simp [Cel.l]; omega
    · simp [Cel.l]; omega
  | .op o p q, w, h => by
    simp only [Part.wl, List.mem_cons, List.mem_append] at h
    rcases h with rfl | h | h
    · cases o <;> decide
    · exact wl_free p w h
    · exact wl_free q w h
  | .pick p q r t, w, h => by
    simp only [Part.wl, List.mem_cons, List.mem_append] at h
    rcases h with rfl | h | h | h | h
    · decide
    · exact wl_free p w h
    · exact wl_free q w h
    · exact wl_free r w h
    · exact wl_free t w h
theorem rd_ctx : ∀ {o : Option Part}, goodC o 5 → rd (ctx o) = some o
  | none, _ => rfl
  | some p, g => by
    by_cases hp : p.isNum = true
    · cases p with
      | num n =>
        show rd (nl n) = _
        unfold rd
        rw [if_neg (nl_ne n), if_pos (isNumL_nl g.1.1 g.1.2), valL_nl]
      | _ => exact absurd hp Bool.false_ne_true
    · have hp : p.isNum = false := Bool.eq_false_iff.mpr hp
      rw [ctx_not hp]
      have ej : [61, 32] ++ p.tx = TL.joinL [32] ([61] :: p.wl) := by
        have := joinL_app (s := [32]) (xs := [[61]]) (ys := p.wl) (by simp) p.wl_ne
        show [61, 32] ++ TL.joinL [32] p.wl = TL.joinL [32] ([[61]] ++ p.wl)
        rw [this]
        rfl
      have ew : wsL ([61, 32] ++ p.tx) = [61] :: p.wl := by
        rw [ej]
        refine TL.spl_join (by simp) fun w hw => ?_
        rcases List.mem_cons.mp hw with rfl | hw
        · decide
        · exact wl_free p w hw
      unfold rd
      rw [if_neg (by simp), if_neg (by rw [show [61, 32] ++ p.tx = 61 :: (32 :: p.tx) from rfl, notNum _ (by decide) (by decide)]; exact Bool.false_ne_true), ew, if_neg (by simp)]
      have e5 := pt_wl p 5 [] g.1 g.2
      rw [List.append_nil] at e5
      show (match pt 5 p.wl with | some (p, []) => if p.isNum = true then none else some (some p) | _ => none) = _
      rw [e5]
      simp [hp]
theorem str_cat_len (a b : Str) : (a ++ b).length = a.length + b.length := by
  show (a.cps ++ b.cps).size = _
  rw [Array.size_append]
  rfl
/-! ### contents as data -/
def Part.data : Part → PyData
  | .num n => .tuple [.str "num", .int n]
  | .cel c => .tuple [.str "cell", .str c.s]
  | .sum c d => .tuple [.str "sum", .str c.s, .str d.s]
  | .op w p q => .tuple [.str w.s, p.data, q.data]
  | .pick p q r t => .tuple [.str "pick", p.data, q.data, r.data, t.data]
theorem PA.dp {K : PySem.W.Frag} {H : Hp} : ∀ {p : Part} {v : V}, PA K H p v → Dp K H v p.data
  | .num n, v, ⟨a, e, h⟩ => e ▸ .tup h (.cons (.str _) (.cons (.int _) .nil))
  | .cel c, v, ⟨a, e, h⟩ => e ▸ .tup h (.cons (.str _) (.cons (.str _) .nil))
  | .sum c d, v, ⟨a, e, h⟩ => e ▸ .tup h (.cons (.str _) (.cons (.str _) (.cons (.str _) .nil)))
  | .op w p q, v, ⟨a, x, y, e, h, h1, h2⟩ => e ▸ .tup h (.cons (.str _) (.cons (PA.dp h1) (.cons (PA.dp h2) .nil)))
  | .pick p q r s, v, ⟨a, x, y, z, u, e, h, h1, h2, h3, h4⟩ => e ▸ .tup h (.cons (.str _) (.cons (PA.dp h1) (.cons (PA.dp h2) (.cons (PA.dp h3) (.cons (PA.dp h4) .nil)))))
theorem Part.data_depth : ∀ p : Part, PyData.depth p.data ≤ p.hgt
  | .num n => by simp [Part.data, Part.hgt, PyData.depth, PyData.depthAll]
  | .cel c => by simp [Part.data, Part.hgt, PyData.depth, PyData.depthAll]
  | .sum c d => by simp [Part.data, Part.hgt, PyData.depth, PyData.depthAll]
  | .op w p q => by
    have h1 := Part.data_depth p
    have h2 := Part.data_depth q
    simp only [Part.data, Part.hgt, PyData.depth, PyData.depthAll]
    omega
  | .pick p q r t => by
    have h1 := Part.data_depth p
    have h2 := Part.data_depth q
    have h3 := Part.data_depth r
    have h4 := Part.data_depth t
    simp only [Part.data, Part.hgt, PyData.depth, PyData.depthAll]
    omega
theorem Part.data_sz : ∀ p : Part, szOk p.data = true
  | .num n => by simp [Part.data, szOk, szAll]
  | .cel c => by simp [Part.data, szOk, szAll]
  | .sum c d => by simp [Part.data, szOk, szAll]
  | .op w p q => by simp [Part.data, szOk, szAll, Part.data_sz p, Part.data_sz q]
  | .pick p q r t => by simp [Part.data, szOk, szAll, Part.data_sz p, Part.data_sz q, Part.data_sz r, Part.data_sz t]
theorem dp_strs (K : PySem.W.Frag) (H : Hp) : ∀ l : List Str, DpAll K H (l.map V.str) (l.map PyData.str)
  | [] => .nil
  | x :: r => .cons (.str x) (dp_strs K H r)
theorem depth_strs : ∀ l : List Str, PyData.depthAll (l.map PyData.str) = 0
  | [] => by simp [PyData.depthAll]
  | x :: r => by simp [PyData.depthAll, PyData.depth, depth_strs r]
theorem sz_strs : ∀ l : List Str, szAll (l.map PyData.str) = true
  | [] => by simp [szAll]
  | x :: r => by simp [szAll, szOk, sz_strs r]
theorem dp_strl {K : PySem.W.Frag} {H : Hp} {r : Addr} {l : List Str} (h : H r = some (.lst (l.map V.str))) : Dp K H (.ref r) (.list (l.map PyData.str)) := .lst (SqL.of h) (dp_strs K H l)
theorem strl_ok {l : List Str} (h : l.length ≤ 1000000) : szOk (.list (l.map PyData.str)) = true := by
  simp [szOk, sz_strs, h]
/-- every text that a content reads is a cell: at most 54 of them -/
theorem cells_mem : ∀ (p : Part) (z : Str), z ∈ p.cells → ∃ c : Cel, z = c.s
  | .num n, z, h => by simp [Part.cells] at h
  | .cel c, z, h => by
    simp [Part.cells] at h
    exact ⟨c, h⟩
  | .sum c d, z, h => by
    obtain ⟨k, r, h1, h2, h3, h4, e⟩ := rowsL_mem.mp h
    have := c.hc
    have := d.hc
    have := c.hr
    have := d.hr
    exact ⟨⟨k, r, by omega, by omega⟩, e⟩
  | .op w p q, z, h => by
    rcases List.mem_append.mp h with h | h
    · exact cells_mem p z h
    · exact cells_mem q z h
  | .pick p q r t, z, h => by
    rcases List.mem_append.mp h with h | h
    · exact cells_mem p z h
    rcases List.mem_append.mp h with h | h
    · exact cells_mem q z h
    rcases List.mem_append.mp h with h | h
    · exact cells_mem r z h
    · exact cells_mem t z h
theorem foldU_nodup : ∀ (l acc : List Str), acc.Nodup → (l.foldl addU acc).Nodup
  | [], acc, h => h
  | x :: r, acc, h => by
    refine foldU_nodup r (addU acc x) ?_
    unfold addU
    split
    · exact h
    · rename_i q
      rw [List.nodup_append]
      refine ⟨h, by simp, ?_⟩
      rintro a ha b hb rfl
      simp at hb
      exact q (hb ▸ ha)
theorem reads_nodup (p : Part) : p.reads.Nodup := foldU_nodup _ _ List.nodup_nil
theorem reads_cel {p : Part} {z : Str} (h : z ∈ p.reads) : ∃ c : Cel, z = c.s := by
  have q := mem_foldU.mp h
  simp at q
  exact cells_mem p z q
def celNo (z : Str) : Nat := (z.cps.getD 0 0 - 97) * 9 + (z.cps.getD 1 0 - 49)
theorem celNo_s (c : Cel) : celNo c.s = c.c * 9 + c.r := by
  show (97 + c.c - 97) * 9 + (49 + c.r - 49) = _
  omega
theorem cels_54 {l : List Str} (nd : l.Nodup) (h : ∀ z ∈ l, ∃ c : Cel, z = c.s) : l.length ≤ 54 := by
  have nd2 : (l.map celNo).Nodup := by
    show (l.map celNo).Pairwise (· ≠ ·)
    rw [List.pairwise_map]
    refine List.Pairwise.imp_of_mem (fun {a b} ha hb hab e => ?_) nd
    obtain ⟨c, rfl⟩ := h a ha
    obtain ⟨d, rfl⟩ := h b hb
    rw [celNo_s, celNo_s] at e
    have h1 := c.hr
    have h2 := d.hr
    refine hab ?_
    unfold Cel.s Cel.l
    rw [show c.c = d.c by omega, show c.r = d.r by omega]
  have sub : l.map celNo ⊆ List.range 54 := by
    intro x hx
    obtain ⟨z, hz, rfl⟩ := List.mem_map.mp hx
    obtain ⟨c, rfl⟩ := h z hz
    rw [celNo_s, List.mem_range]
    have h1 := c.hc
    have h2 := c.hr
    omega
  have := nd2.length_le_of_subset sub
  simpa using this
theorem reads_54 (p : Part) : p.reads.length ≤ 54 := cels_54 (reads_nodup p) fun z h => reads_cel h
theorem readsC_54 (p : Option Part) : (readsC p).length ≤ 54 := by
  cases p with
  | none => simp [readsC]
  | some p => exact reads_54 p
theorem tx_le5 {p : Part} (h : p.good) (n : p.hgt ≤ 8) : (ctx (some p)).length ≤ 800000 := by
  cases p with
  | num m =>
    have := nl_len h.1 h.2
    show (nl m).length ≤ _
    omega
  | _ =>
    have := Part.tx_le h n
    rw [ctx_not rfl]
    simp only [List.length_append, List.length_cons, List.length_nil]
    omega
theorem ctx_le {o : Option Part} (h : goodC o 8) : (ctx o).length ≤ 800000 := by
  cases o with
  | none => simp [ctx]
  | some p => exact tx_le5 h.1 h.2
theorem goodC_mono {o : Option Part} {m n : Nat} (h : goodC o m) (l : m ≤ n) : goodC o n := by
  cases o with
  | none => trivial
  | some p => exact ⟨h.1, Nat.le_trans h.2 l⟩
/-- what law(script) promises: for a list of at most 63 ints the answer is True -/
def spLaw (K : PySem.W.Frag) : Sp := fun vs H Q _ => ∃ (a : Addr) (ns : List Int), vs = [.ref a] ∧ SqL K H a (ns.map V.int) ∧ ns.length ≤ 63 ∧ ∀ H', Q (.bl true) H'
end U

namespace U
open PySem L2 PyProof.Rows
/-! ### what is read is written just so -/
theorem ofNat_toNat {c : Nat} (h : c < 58) : (Char.ofNat c).toNat = c := by
  have : ∀ c : Nat, c < 58 → (Char.ofNat c).toNat = c := by decide
  exact this c h
theorem numL_back {f : List Nat} (hd : ∀ c ∈ f, 48 ≤ c ∧ c ≤ 57) (h0 : f ≠ []) (h : f = [48] ∨ f.head? ≠ some 48) : TL.numL (NumText.digitsVal f) = f := by
  obtain ⟨n, hn⟩ : ∃ n, f.length = n + 1 := ⟨f.length - 1, by have := List.length_pos_iff.mpr h0; omega⟩
  have q := NumText.toDigits_digitsVal n f hn hd (by
    rcases h with rfl | h
    · left; simp at hn; omega
    · right
      cases f with
      | nil => exact absurd rfl h0
      | cons c r =>
        refine ⟨c, r, rfl, ?_⟩
        have := hd c (by simp)
        simp at h
        omega)
  unfold TL.numL
  rw [q, List.map_map]
  have : ∀ l : List Nat, (∀ c ∈ l, 48 ≤ c ∧ c ≤ 57) → l.map (Char.toNat ∘ Char.ofNat) = l := by
    intro l
    induction l with
    | nil => intro _; rfl
    | cons c r ih =>
      intro h
      have hc := h c (by simp)
      rw [List.map_cons, ih fun d hm => h d (by simp [hm])]
      show (Char.ofNat c).toNat :: r = _
      rw [ofNat_toNat (by omega)]
  exact this f hd
theorem digitsVal_lt : ∀ (n : Nat) (f : List Nat), f.length = n → (∀ c ∈ f, 48 ≤ c ∧ c ≤ 57) → NumText.digitsVal f < 10 ^ n
  | 0, f, hl, _ => by
    rw [List.length_eq_zero_iff.mp hl]
    decide
  | n + 1, f, hl, h => by
    have hne : f ≠ [] := by intro e; rw [e] at hl; simp at hl
    have e := List.dropLast_concat_getLast hne
    have l1 : f.dropLast.length = n := by rw [List.length_dropLast, hl]; rfl
    have ih := digitsVal_lt n f.dropLast l1 fun d hm => h d (List.dropLast_subset f hm)
    have hc := h (f.getLast hne) (List.getLast_mem hne)
    rw [← e, NumText.digitsVal_snoc, Nat.pow_succ]
    omega
theorem isNumL_back {l : List Nat} (h : isNumL l = true) : nl (valL l) = l ∧ -1000000 < valL l ∧ valL l < 1000000 := by
  unfold isNumL at h
  simp only [Bool.and_eq_true, decide_eq_true_eq, List.all_eq_true, Bool.not_eq_true', List.isEmpty_eq_false_iff, Bool.or_eq_true] at h
  obtain ⟨h1, h2, h3, h4⟩ := h
  have dig : ∀ c ∈ figsL l, 48 ≤ c ∧ c ≤ 57 := fun c hc => by
    have := h1 c hc
    simpa [isDig] using this
  have lt := digitsVal_lt _ _ rfl dig
  have lt6 : NumText.digitsVal (figsL l) < 1000000 := Nat.lt_of_lt_of_le lt (show 10 ^ (figsL l).length ≤ 10 ^ 6 from Nat.pow_le_pow_right (by decide) h3)
  cases l with
  | nil => exact absurd rfl h2
  | cons c r =>
    by_cases e : c = 45
    · subst e
      rw [figsL_neg] at dig h2 h4 lt6
      have h4 : r.head? ≠ some 48 := by
        rcases h4 with h4 | h4
        · cases h4
        · exact h4
      have q := numL_back dig h2 (.inr h4)
      have ne0 : NumText.digitsVal r ≠ 0 := fun z => by
        rw [z, TL.numL_lt (by decide)] at q
        rw [← q] at h4
        exact h4 rfl
      have ev : valL (45 :: r) = -((NumText.digitsVal r : Nat) : Int) := rfl
      rw [ev]
      obtain ⟨k, hk⟩ : ∃ k, NumText.digitsVal r = k + 1 := ⟨NumText.digitsVal r - 1, by omega⟩
      rw [hk] at q lt6 ⊢
      refine ⟨?_, by omega, by omega⟩
      show 45 :: TL.numL (k + 1) = _
      rw [q]
    · rw [figsL_ne r e] at dig h2 h4 lt6
      have ev : valL (c :: r) = ((NumText.digitsVal (c :: r) : Nat) : Int) := by
        unfold valL
        split
        · rename_i z
          cases z
          exact absurd rfl e
        · rfl
      rw [ev]
      refine ⟨numL_back dig h2 h4, by omega, by omega⟩
theorem celOf_back {l : List Nat} (h : isCelL l = true) : (celOf l).l = l := by
  obtain ⟨c, rfl⟩ := isCelL_iff h
  rw [celOf_l]
def wls : List Part → Ws
  | [] => []
  | p :: r => p.wl ++ wls r
theorem seqP_back {f : Ws → Option (Part × Ws)} {n : Nat} (hf : ∀ ws p r, f ws = some (p, r) → ws = p.wl ++ r ∧ p.good ∧ p.hgt ≤ n) : ∀ (m : Nat) (ws r : Ws) (ps : List Part), seqP f m ws = some (ps, r) → ws = wls ps ++ r ∧ ∀ p ∈ ps, p.good ∧ p.hgt ≤ n
  | 0, ws, r, ps, h => by
    cases h
    exact ⟨rfl, fun _ h => nomatch h⟩
  | m + 1, ws, r, ps, h => by
    unfold seqP at h
    split at h
    · cases h
    · rename_i p r1 q1
      split at h
      · cases h
      · rename_i ps' r2 q2
        cases h
        obtain ⟨e1, g1⟩ := hf _ _ _ q1
        obtain ⟨e2, g2⟩ := seqP_back hf m _ _ _ q2
        refine ⟨by rw [e1, e2]; simp [wls], fun x hx => ?_⟩
        rcases List.mem_cons.mp hx with rfl | hx
        · exact g1
        · exact g2 x hx
theorem arity_two {w : List Nat} (h : arity w = some 2) : (w3of w).l = w := by
  unfold arity at h
  split at h
  · rename_i z
    unfold w3of
    rcases z with rfl | rfl | rfl
    · rw [if_pos rfl]; rfl
    · rw [if_neg (by decide), if_pos rfl]; rfl
    · rw [if_neg (by decide), if_neg (by decide)]; rfl
  · split at h <;> cases h
theorem arity_four {w : List Nat} (h : arity w = some 4) : w = pickL := by
  unfold arity at h
  split at h
  · cases h
  · split at h
    · assumption
    · cases h
theorem pt_back : ∀ (n : Nat) (ws : Ws) (p : Part) (r : Ws), pt n ws = some (p, r) → ws = p.wl ++ r ∧ p.good ∧ p.hgt ≤ n
  | 0, ws, p, r, h => by cases h
  | n + 1, [], p, r, h => by cases h
  | n + 1, w :: rest, p, r, h => by
    unfold pt at h
    split at h
    · rename_i hn
      cases h
      obtain ⟨e, g1, g2⟩ := isNumL_back hn
      exact ⟨by show _ = [nl (valL w)] ++ rest; rw [e]; rfl, ⟨g1, g2⟩, Nat.succ_le_succ (Nat.zero_le _)⟩
    · split at h
      · rename_i hc
        cases h
        exact ⟨by show _ = [(celOf w).l] ++ rest; rw [celOf_back hc]; rfl, trivial, Nat.succ_le_succ (Nat.zero_le _)⟩
      · split at h
        · rename_i hs
          subst hs
          unfold sumP at h
          split at h
          · split at h
            · rename_i hc
              cases h
              refine ⟨?_, trivial, Nat.succ_le_succ (Nat.zero_le _)⟩
              show _ = [sumL, (celOf _).l, (celOf _).l] ++ _
              rw [celOf_back hc.1, celOf_back hc.2]
              rfl
            · cases h
          · cases h
        · split at h
          · cases h
          · rename_i m hm
            split at h
            · cases h
            · rename_i ps r' hs
              have hl := seqP_len hs
              obtain ⟨e, g⟩ := seqP_back (fun ws p r => pt_back n ws p r) m _ _ _ hs
              split at h
              · cases h
              · rename_i p' hp
                cases h
                rcases arity_cases w with a | a | a
                · rw [a] at hm
                  cases hm
                  match ps, hl, hp, e, g with
                  | [x, y], _, hp, e, g =>
                    cases hp
                    have gx := g x (by simp)
                    have gy := g y (by simp)
                    refine ⟨?_, ⟨gx.1, gy.1⟩, ?_⟩
                    · show _ = (w3of w).l :: (x.wl ++ y.wl) ++ r
                      rw [arity_two a, e]
                      simp [wls]
                    · show max x.hgt y.hgt + 1 ≤ n + 1
                      omega
                · rw [a] at hm
                  cases hm
                  match ps, hl, hp, e, g with
                  | [x, y, z, t], _, hp, e, g =>
                    cases hp
                    have gx := g x (by simp)
                    have gy := g y (by simp)
                    have gz := g z (by simp)
                    have gt := g t (by simp)
                    refine ⟨?_, ⟨gx.1, gy.1, gz.1, gt.1⟩, ?_⟩
                    · show _ = pickL :: (x.wl ++ (y.wl ++ (z.wl ++ t.wl))) ++ r
                      rw [arity_four a, e]
                      simp [wls]
                    · show max (max x.hgt y.hgt) (max z.hgt t.hgt) + 1 ≤ n + 1
                      omega
                · rw [a] at hm
                  cases hm
theorem join_spl : ∀ (l acc : List Nat), TL.joinL [32] (TL.spl [32] 0 acc l) = acc ++ l
  | [], acc => by
    rw [TL.spl_nil]
    simp [TL.joinL]
  | c :: r, acc => by
    by_cases e : c = 32
    · rw [TL.spl_hit (by rw [pre1, e]; rfl)]
      have ih := join_spl r []
      cases q : TL.spl [32] 0 [] r with
      | nil => exact absurd q (spl_ne r [])
      | cons x xs =>
        rw [q] at ih
        show acc ++ ([32] ++ TL.joinL [32] (x :: xs)) = _
        rw [ih, e]
        rfl
    · rw [TL.spl_miss (by rw [pre1]; exact decide_eq_false e), join_spl r (acc ++ [c])]
      simp
theorem rd_back {l : List Nat} {o : Option Part} (h : rd l = some o) : ctx o = l ∧ goodC o 5 := by
  unfold rd at h
  split at h
  · rename_i e
    cases h
    exact ⟨e.symm, trivial⟩
  · split at h
    · rename_i hn
      cases h
      obtain ⟨e, g1, g2⟩ := isNumL_back hn
      exact ⟨e, ⟨g1, g2⟩, by show 1 ≤ 5; decide⟩
    · split at h
      · cases h
      · rename_i hh
        split at h
        · rename_i p hp
          split at h
          · cases h
          · rename_i hnum
            cases h
            obtain ⟨e, g1, g2⟩ := pt_back 5 _ _ _ hp
            rw [List.append_nil] at e
            have hnum : p.isNum = false := Bool.eq_false_iff.mpr hnum
            refine ⟨?_, g1, g2⟩
            rw [ctx_not hnum]
            have hw : wsL l = [61] :: p.wl := by
              have hh : (wsL l).head? = some [61] := by
                cases q : decide ((wsL l).head? = some [61]) with
                | true => exact of_decide_eq_true q
                | false => exact absurd (of_decide_eq_false q) hh
              cases q : wsL l with
              | nil => rw [q] at hh; cases hh
              | cons x xs =>
                rw [q] at hh e
                simp at hh
                rw [hh]
                simp at e
                rw [e]
            have j := join_spl l []
            have j : TL.joinL [32] (wsL l) = l := j
            rw [hw] at j
            rw [← j]
            have := joinL_app (s := [32]) (xs := [[61]]) (ys := p.wl) (by simp) p.wl_ne
            show [61, 32] ++ TL.joinL [32] p.wl = TL.joinL [32] ([[61]] ++ p.wl)
            rw [this]
            rfl
        · cases h
end U

namespace U
open PySem L2 PyProof.Rows
section
variable {X : Cx} {k : Nat} {x : Str} {ps : List Str} {sp : Sp} {p pos : Pos} {e : Expr} {es : List Expr} {t : TA} {E : L2.St → XK}
/-- a def that may raise, called within a try -/
theorem pc_s (c : CalX X.prog X.w X.K X.mg X.base k x ps sp) (hr : Room k X.A) (hg : Gl X x) (hx : ∀ σ, PassesAt (L2N.CX X.prog X.w) X σ (E σ)) (ha : L2.PA X (e :: es) t)
    (hdb : (x == ("__debug__" : Str)) = false := by decide) (he : starEach (e :: es) X.env = (false, eval e X.env) :: starEach es X.env := by rfl) (hpl : (backTo pos (starEach es X.env)).any (·.1) = false := by rfl) :
    PE X (.Call (.Name x p) (e :: es) [] pos) (tCallS sp E t) := by
  obtain ⟨f, fd, F, hm, kp, b⟩ := c.ex
  exact pe_callS F hr hg hm kp b hx ha hdb he hpl
end
/-- isinstance of what the suite holds, told without its class -/
def rIsX (K : PySem.W.Frag) (D a : Addr) (cls : Value) (d : Option Addr) : List V → Hp → VK → Prop := fun xs H Q => cls = .ref D ∧ d = none ∧ rIsE K D a xs H Q
theorem call_isX {X : Cx} {a D : Addr} {cls : Value} {d : Option Addr} {oe : Obj} {pn : List (Addr × Obj)} (C : ExcC X.K D) (hz : Zc cls d oe) (hf : ∃ vs, oe.data = .fields vs) : CallR (X.suite a ((a, oe) :: pn)) (.builtin "isinstance") (rIsX X.K D a cls d) := by
  intro pins s σ H xs us Q I r h
  obtain ⟨rfl, rfl, h⟩ := h
  exact call_isE C hz hf pins s σ H xs us Q I r h
/-- what the written part says of an own exception class besides -/
structure ExcM (K : PySem.W.Frag) (C : Addr) : Prop where
  d : PySem.W.hasDictIn K C = true
  s : PySem.W.isClsIn K C = true
  r : PySem.W.subIn K (.ref C) (.ref C) = some true
theorem kit_sub {K : PySem.W.Frag} {mg : Str → Option Value} {x : Str} {C D : Addr} {b : Bool} (eC : ExcF K mg x C) (mC : ExcM K C) (mD : ExcM K D) (h : PySem.W.subIn K (.ref D) (.ref C) = some b) : PySem.W.kitOne K (.ref D) (.ref C) = some b := by
  have ec : ((PySem.W.clsIn K C).isSome && PySem.W.typeIn K (.ref C) == some (.type "type")) = true := by
    have q : (PySem.W.clsIn K C).isSome = true := mC.s
    rw [q, eC.t] <;> rfl
  unfold PySem.W.kitOne
  by_cases e : (Value.ref D == Value.ref C) = true
  · rw [if_pos e]
    have e2 : D = C := Value.ref.inj (beq_iff_eq.mp e)
    rw [← e2, mD.r] at h
    exact h
  · rw [if_neg e]
    show (if ((PySem.W.clsIn K C).isSome && PySem.W.typeIn K (.ref C) == some (.type "type")) = true then PySem.W.subIn K (.ref D) (.ref C) else none) = some b
    rw [if_pos ec]
    exact h
theorem kit_val {K : PySem.W.Frag} {D : Addr} {b : Bool} (h : PySem.W.subIn K (.ref D) (.type "ValueError") = some b) : PySem.W.kitOne K (.ref D) (.type "ValueError") = some b := by
  unfold PySem.W.kitOne
  rw [if_neg (by intro e; cases (beq_iff_eq.mp e))]
  show (if PySem.W.kitMeta "ValueError" = true then PySem.W.subIn K (.ref D) (.type "ValueError") else none) = some b
  rw [if_pos (by decide +kernel)]
  exact h
theorem exm_sub {K : PySem.W.Frag} {mg : Str → Option Value} {x : Str} {C D : Addr} {b : Bool} (eC : ExcF K mg x C) (mC : ExcM K C) (h : PySem.W.subIn K (.ref D) (.ref C) = some b) : PySem.W.exmOne K (.ref D) (.ref C) = some b :=
  PySem.W.exm_ref eC.b mC.d eC.t h
theorem isX_ref {K : PySem.W.Frag} {C D a : Addr} {b : Bool} {H : Hp} {Q : VK} (h : PySem.W.kitOne K (.ref D) (.ref C) = some b) (q : Q (.bl b) H) : rIsX K D a (.ref D) none [.ref a, .ref C] H Q :=
  ⟨rfl, rfl, _, .ref C, b, rfl, fun u r => r, h, q⟩
theorem isX_val {K : PySem.W.Frag} {D a : Addr} {b : Bool} {H : Hp} {Q : VK} (h : PySem.W.kitOne K (.ref D) (.type "ValueError") = some b) (q : Q (.bl b) H) : rIsX K D a (.ref D) none [.ref a, .ty "ValueError"] H Q :=
  ⟨rfl, rfl, _, .type "ValueError", b, rfl, fun u r => r, h, q⟩
theorem cut_le (z : Str) (lo hi : Option Int) : (cutS z lo hi).length ≤ z.length := by
  unfold cutS
  show (List.toArray _).size ≤ z.cps.size
  rw [List.size_toArray, List.length_take, List.length_drop, Array.length_toList]
  omega
theorem S_of (z : Str) : z = SX.S z.cps.toList := rfl
theorem len_of (z : Str) : z.cps.toList.length = z.length := rfl
theorem boot_ValueError : bootBuiltins "ValueError" = some (.type "ValueError") := by decide +kernel
theorem ix_listK {X : Cx} {K : PySem.W.Frag} (h : X.K = K) : IxR X (rIxL K) := h ▸ ix_list
theorem ix_tupK {X : Cx} {K : PySem.W.Frag} (h : X.K = K) : IxR X (rIxT K) := h ▸ ix_tup
end U

namespace U
open PySem L2 PyProof.Rows
structure GRef (mg : Str → Option Value) (x : Str) (C : Addr) : Prop where
  g : mg x = some (.ref C)
theorem op_notIn_K {X : Cx} {K : PySem.W.Frag} (h : X.K = K) : OpR X (compareOp .NotIn) (rIn K true) := h ▸ op_notIn_seq
theorem trq {X : Cx} {pn : List (Addr × Obj)} {xe : Value → Shared → Prop} {q : Str} (h : X.env.qual = q) : (X.tr pn xe).env.qual = q := h
theorem trs {X : Cx} {pn : List (Addr × Obj)} {xe : Value → Shared → Prop} (h : X.stack = X.env :: X.outer) : (X.tr pn xe).stack = (X.tr pn xe).env :: (X.tr pn xe).outer := h
theorem trf {X : Cx} {pn : List (Addr × Obj)} {xe : Value → Shared → Prop} (h : X.env.frame = some X.env.locals) : (X.tr pn xe).env.frame = some (X.tr pn xe).env.locals := h
theorem trc {X : Cx} {pn : List (Addr × Obj)} {xe : Value → Shared → Prop} {c : Addr} (h : X.env.code = .ref c) : (X.tr pn xe).env.code = .ref c := h
theorem trK {X : Cx} {pn : List (Addr × Obj)} {xe : Value → Shared → Prop} {K : PySem.W.Frag} (h : X.K = K) : (X.tr pn xe).K = K := h
theorem trM {X : Cx} {pn : List (Addr × Obj)} {xe : Value → Shared → Prop} {m : Str → Option Value} (h : X.mg = m) : (X.tr pn xe).mg = m := h
theorem kit_sub2 {K : PySem.W.Frag} {C D : Addr} {b : Bool} (ht : PySem.W.typeIn K (.ref C) = some (.type "type")) (hs : PySem.W.isClsIn K C = true) (mD : ExcM K D) (h : PySem.W.subIn K (.ref D) (.ref C) = some b) : PySem.W.kitOne K (.ref D) (.ref C) = some b := by
  have ec : ((PySem.W.clsIn K C).isSome && PySem.W.typeIn K (.ref C) == some (.type "type")) = true := by
    have q : (PySem.W.clsIn K C).isSome = true := hs
    rw [q, ht] <;> rfl
  unfold PySem.W.kitOne
  by_cases e : (Value.ref D == Value.ref C) = true
  · rw [if_pos e]
    have e2 : D = C := Value.ref.inj (beq_iff_eq.mp e)
    rw [← e2, mD.r] at h
    exact h
  · rw [if_neg e]
    show (if ((PySem.W.clsIn K C).isSome && PySem.W.typeIn K (.ref C) == some (.type "type")) = true then PySem.W.subIn K (.ref D) (.ref C) else none) = some b
    rw [if_pos ec]
    exact h
theorem pi_listK {X : Cx} {K : PySem.W.Frag} {tg e : Expr} {te : TE} (h : X.K = K) (he : PE X e te) : PI X tg e (iList K te) := h ▸ pi_list he
theorem op_eqD_K {X : Cx} {K : PySem.W.Frag} (hu : X.A.units + 64 < cLine) (h : X.K = K) : OpR X (compareOp .Eq) (rEqD K) := h ▸ op_eqD hu
theorem op_neD_K {X : Cx} {K : PySem.W.Frag} (hu : X.A.units + 64 < cLine) (h : X.K = K) : OpR X (compareOp .NotEq) (rNeD K) := h ▸ op_neD hu
def lamT (PT : Addr) : List (Addr × Str) := [(PT, ("law" : Str) ++ "<lambda>")]
/-! ### a comprehension whose test never holds, the test told at the block's own start -/
theorem back_X {X : Cx} {ps qs : List (Addr × Obj)} {τ σ : L2.St} {s s1 : Shared} {G H1 : Hp} {scope : Scope} {ce : Env} {fp : List Addr} (I : Inv X ps τ G s) (hfp : ∀ b ∈ fp, FpOk X ps G b) (I1 : Inv (X.blk s G scope ce fp) qs σ H1 s1) : Inv X ps τ H1 s1 := by
  apply I.call' (ch := fp) I1.os I1.base I1.hok I1.bare
  intro b mb
  have f := hfp b mb
  exact ⟨f.2.2.2.1, f.2.1, f.2.2.2.2.1, f.2.2.2.2.2⟩
/-- x(e) within such a block, x a def whose body is read where it is called: I is the maker's state -/
theorem pe_inB {X : Cx} {ps : List (Addr × Obj)} {τ : L2.St} {s : Shared} {G : Hp} {scope : Scope} {ce : Env} {fp : List Addr} {x qual a : Str} {st : Stmt} {g : Addr} {fd : FuncData} {N : List Str} {k : Nat} {e : Expr} {ta : TA} {p pos : Pos} {R : V → Hp → VK → Prop}
    (I : Inv X ps τ G s) (hfp : ∀ b ∈ fp, FpOk X ps G b) (F : Fun X.K x qual st g fd) (S : FnScope N [a] (defScope st)) (hm : X.mg x = some (.ref g)) (hb : Binds X.K fd [a] []) (hr : Room (k + 1) X.A)
    (hg : Gl (X.blk s G scope ce fp) x) (ha : L2.PA (X.blk s G scope ce fp) [e] ta)
    (body : ∀ (s1 : Shared) (H1 : Hp) (cdv : Value) (y : V) (Q : VK), Inv X ps τ H1 s1 → Room k (X.A.deeper (envOfC qual (defScope st) s1.heap.objs.size g cdv)) → R y H1 Q →
      ∃ t, PSs (cxOf CX0 X.prog X.w X.K X.mg X.base N qual (defScope st) g cdv X.A X.stack s1 H1 E0) (defBody st) t ∧ t { nx := fun _ H' => Q .non H', rt := Q } (L2.start N [y]) H1)
    (hdb : (x == ("__debug__" : Str)) = false := by decide) (he : starEach [e] ce = (false, eval e ce) :: starEach [] ce := by rfl) (hpl : (backTo pos (starEach [] ce)).any (·.1) = false := by rfl) :
    PE (X.blk s G scope ce fp) (.Call (.Name x p) [e] [] pos) (fun σ H Q => ta σ H fun vs H1 => ∃ y, vs = [y] ∧ R y H1 Q) := by
  constructor
  intro qs z σ H Q J h
  apply wpAny_Call_Name_kw (ld_glob J hg hm _ hdb)
  apply PySem.W.callWith_K (h₀ := X.base) J.ok.mod.kin F.kp (thn (ha.run pos qs z σ H _ J h) _) he hpl
  rintro us z1 ⟨vs, H1, J1, rv, y, rfl, r⟩
  refine ⟨J1.kIn, ?_⟩
  cases rv with
  | cons ry rn =>
    rename_i u _
    cases rn
    obtain ⟨oc, od, kV, doc, pm, an, cdv, ct, osl, efd, lk, hcd⟩ := F.ex
    subst efd
    have rc : codeAny (model X.prog X.w) X.A (.call (.ref g) ⟨[u], []⟩) (CR CX0 X.stack X.prog X.w H1 z1 Q E0) z1 := by
      apply LamX.run_ofS (N := N) (ps := [a]) (us := [u]) (vs := [y]) lk hcd S hr J1.env0 (hb z1 [u] J1.kIn rfl) (.cons ry .nil) rfl
      intro hr'
      exact body z1 H1 cdv y Q (back_X I hfp J1) hr' r
    apply wpAny_call (codeAny_mono rc _)
    intro q z2 hq
    cases q with
    | error e => exact (show False from hq).elim
    | ok fl =>
      cases fl with
      | ret u => exact J1.after hq
      | _ => exact False.elim hq
/-! ### lambdas in a list -/
section
variable {X : Cx} {T : List (Addr × Str)} {c P : Addr} {params : Arguments} {body : Expr} {scope : Scope} {lpos pos : Pos}
abbrev lamO (X : Cx) (params : Arguments) (body : Expr) (scope : Scope) (c' : Addr) (pm ctv : Value) : Obj := PySem.W.kla_obj "<lambda>" (X.env.qual ++ "<lambda>") params body scope (cloFrom X.env.cells scope.names []) pm c' ctv
/-- [lambda: ..] as arguments: the new function is pinned -/
theorem run_lam {ps : List (Addr × Obj)} {τ : L2.St} {s : Shared} {H : Hp} {Q : List Value → Shared → Prop} (I : Inv X ps τ H s) (hst : X.stack = X.env :: X.outer) (hfr : X.env.frame = some X.env.locals)
    (TB : LamX.TabB X.base X.mg c P) (hcode : X.env.code = .ref c) (hmT : (P, X.env.qual ++ "<lambda>") ∈ T) (hu : ∀ p ∈ T, p.1 = P → p.2 = X.env.qual ++ "<lambda>") (hT : LamX.Tabs T H) (hdef : defaultsOf params X.env = ([], [])) (L : LamX.LamS X.env.scope scope)
    (hq : ∀ (f c' : Addr) (pm ctv : Value) (H1 : Hp) (s' : Shared), Inv X ((f, lamO X params body scope c' pm ctv) :: ps) τ H1 s' → LamX.ExtN H H1 → LamX.Tabs T H1 → f ∉ frs X.stack → H1 c' = some (LamX.CodeO c' (X.env.qual ++ "<lambda>")) → Q [.ref f] s') :
    wpAny (model X.prog X.w) X.A (spliced [(false, eval (.Lambda params body scope lpos) X.env)]) Q X.xe s := by
  apply Calls.spliced_cons
  apply LamX.lam_make2 I TB hcode hmT hu hT hdef (L.has I.ok)
  intro f c' pm ctv H1 s' I1 eN T1 hf hfn nfr hco
  apply Calls.spliced_nil
  apply hq f c' pm ctv H1 s' _ eN T1 nfr hco
  apply I1.pins_of
  intro q mq
  cases List.mem_cons.mp mq with
  | inr m => exact I1.pin q (List.mem_append_right _ m)
  | inl e =>
    subst e
    refine ⟨hf, hfn, fun z => nfr ?_, fun m => nfr ?_, fun v z => by cases z⟩
    · rw [hst]
      exact List.mem_filterMap.mpr ⟨X.env, List.mem_cons_self, by rw [hfr]; exact congrArg some z.symm⟩
    · rw [hst]
      obtain ⟨e, me, q⟩ := List.mem_filterMap.mp m
      exact List.mem_filterMap.mpr ⟨e, List.mem_cons_of_mem _ me, q⟩
/-- behind such a statement -/
theorem sp_back {ps : List (Addr × Obj)} {q : Addr × Obj} {D : Ends} {f : Flow} {s' : Shared} (ok : X.Ok) (h : SP (X.tr (X.pn ++ q :: ps) X.xe) [] D f s') : SP X ps D f s' := by
  have w : ∀ {σ' : L2.St} {H' : Hp}, Inv (X.tr (X.pn ++ q :: ps) X.xe) [] σ' H' s' → Inv X ps σ' H' s' := by
    intro σ' H' J
    have J := J.ofTry ok
    apply J.pins_of
    intro r mr
    exact J.pin r (List.mem_append_right _ (List.mem_cons_of_mem _ mr))
  cases f with
  | ret u =>
    obtain ⟨v, σ', H', J, r⟩ := h
    exact ⟨v, σ', H', w J, r⟩
  | _ =>
    obtain ⟨σ', H', J, r⟩ := h
    exact ⟨σ', H', w J, r⟩
/-- x = [lambda: ..] and what follows -/
theorem pss_setLam {i : Nat} {x : Str} {p p2 : Pos} {rest : List Stmt} {u : Addr → Addr → Value → Value → TS} (hst : X.stack = X.env :: X.outer) (hfr : X.env.frame = some X.env.locals) (hN : X.N.Nodup) (hi : X.N[i]? = some x) (hx : Loc X.env.scope x)
    (TB : LamX.TabB X.base X.mg c P) (hcode : X.env.code = .ref c) (hmT : (P, X.env.qual ++ "<lambda>") ∈ T) (hu : ∀ p ∈ T, p.1 = P → p.2 = X.env.qual ++ "<lambda>") (hdef : defaultsOf params X.env = ([], [])) (L : LamX.LamS X.env.scope scope)
    (hrest : ∀ (f c' : Addr) (pm ctv : Value) (pn : List (Addr × Obj)), (∀ q ∈ X.pn, q ∈ pn) → (f, lamO X params body scope c' pm ctv) ∈ pn → f ∉ frs X.stack → PSs (X.tr pn X.xe) rest (u f c' pm ctv))
    (hs : swapsWith (.List [.Lambda params body scope lpos] p2) (some (.Name x p)) pos.line X.env = pure false := by rfl) (hf : X.fn x = true ∨ X.env.scope.names.lookup x = some .local := by first | exact .inl rfl | exact .inr rfl | assumption) :
    PSs X (.Assign [.Name x p] (.List [.Lambda params body scope lpos] p2) pos :: rest) (fun D σ H => LamX.Tabs T H ∧ ∀ (f c' : Addr) (pm ctv : Value) (H1 : Hp) (w : Addr), LamX.ExtN H H1 → LamX.Tabs T H1 → H1 c' = some (LamX.CodeO c' (X.env.qual ++ "<lambda>")) → H1 w = none →
      u f c' pm ctv D (σ.set i (some (.ref w))) (upd H1 w (.lst [.ref f]))) := by
  constructor
  intro ps s τ H D I h
  apply wpAny_execs_cons
  apply wpAny_Assign_Name _ hs
  apply wpAny_List_spliced
  apply run_lam I hst hfr TB hcode hmT hu h.1 hdef L
  intro f c' pm ctv H1 s' J eN T1 nf hco
  refine ⟨small (by show 1 ≤ 1000; decide), ?_⟩
  have fr := J.hok.fresh (Nat.le_refl s'.heap.objs.size)
  have J2 : Inv X ((f, lamO X params body scope c' pm ctv) :: ps) τ (upd H1 s'.heap.objs.size (.lst [.ref f])) { s' with heap := s'.heap.push { cls := .type "list", data := .seq [Value.ref f].toArray } } := by
    apply J.laid (t' := s'.toks) (fun b o e => Heap.get?_push_of_some _ e) (Nat.le_refl _)
    exact ⟨small (by show 1 ≤ 1000; decide), [.ref f], 0, .cons rfl .nil, Heap.get?_push_size _ rfl⟩
  apply store_ok (v := .ref s'.heap.objs.size) J2 hN hi hx rfl _ hf
  intro s2 J3
  apply thn ((hrest f c' pm ctv (X.pn ++ (f, lamO X params body scope c' pm ctv) :: ps) (fun q m => List.mem_append_left _ m) (List.mem_append_right _ List.mem_cons_self) nf).run [] s2 _ _ D (J3.toTry X.xe) (h.2 f c' pm ctv H1 _ eN T1 hco fr))
  intro fl s3 r
  exact sp_back I.ok r
/-- x.append(lambda: ..) and what follows -/
theorem pss_appLam {i : Nat} {x : Str} {p ap cp : Pos} {rest : List Stmt} {u : Addr → Addr → Value → Value → TS} (hst : X.stack = X.env :: X.outer) (hfr : X.env.frame = some X.env.locals) (hx : PE X (.Name x p) (tVar i))
    (TB : LamX.TabB X.base X.mg c P) (hcode : X.env.code = .ref c) (hmT : (P, X.env.qual ++ "<lambda>") ∈ T) (hu : ∀ p ∈ T, p.1 = P → p.2 = X.env.qual ++ "<lambda>") (hdef : defaultsOf params X.env = ([], [])) (L : LamX.LamS X.env.scope scope)
    (hrest : ∀ (f c' : Addr) (pm ctv : Value) (pn : List (Addr × Obj)), (∀ q ∈ X.pn, q ∈ pn) → (f, lamO X params body scope c' pm ctv) ∈ pn → f ∉ frs X.stack → PSs (X.tr pn X.xe) rest (u f c' pm ctv))
    (hs : swapsWith (.Call (.Attribute (.Name x p) "append" ap) [.Lambda params body scope lpos] [] cp) none pos.line X.env = pure false := by rfl)
    (hbase : attributeBase (.Name x p) "append" X.env (eval (.Name x p) X.env) = eval (.Name x p) X.env := by rfl)
    (hfew : ((backTo cp (starEach [.Lambda params body scope lpos] X.env)).all (fun x => !x.1) && (backToKw cp (keywordEach [] X.env)).all (fun x => x.1.isSome) && decide (([.Lambda params body scope lpos] : List Expr).length + ([] : List Keyword).length + (if ([] : List Keyword).isEmpty then 0 else 1) < 30)) = true := by rfl)
    (hline : (ap.endLine == cp.line) = true := by rfl) :
    PSs X (.Expr (.Call (.Attribute (.Name x p) "append" ap) [.Lambda params body scope lpos] [] cp) pos :: rest) (fun D σ H => LamX.Tabs T H ∧ ∃ (w : Addr), σ[i]? = some (some (.ref w)) ∧ (∃ xs, H w = some (.lst xs)) ∧ ∀ (f c' : Addr) (pm ctv : Value) (H1 : Hp) (xs : List V), LamX.ExtN H H1 → LamX.Tabs T H1 → H1 c' = some (LamX.CodeO c' (X.env.qual ++ "<lambda>")) → H1 w = some (.lst xs) →
      xs.length < sizeLine ∧ u f c' pm ctv D σ (upd H1 w (.lst (xs ++ [.ref f])))) := by
  constructor
  intro ps s τ H D I h
  obtain ⟨hT, w, hw, ⟨xs, hl⟩, h⟩ := h
  apply wpAny_execs_cons
  apply wpAny_Expr_any _ I.quiet hs
  apply wpAny_Call_method_late hbase hfew hline rfl
  apply thn (hx.run ps s τ H (fun v H1 => v = .ref w ∧ H1 = H) I ⟨_, hw, rfl, rfl⟩)
  rintro v s1 ⟨_, _, J, rv, rfl, rfl⟩
  obtain ⟨t1, t2⟩ := tyV_is (T := "list") J rv (.inl ⟨rfl, _, SqL.of hl⟩)
  refine ⟨"list", _, PySem.F.plainAttrs_list, PySem.F.slot_list_append, PySem.F.type_list_append, t1, t2, ?_⟩
  apply Calls.callWith_builtin rfl
  apply Calls.evalArgs_plain
  apply run_lam J hst hfr TB hcode hmT hu hT hdef L
  intro f c' pm ctv H1 s' J1 eN T1 nf hco
  have hw1 := eN w _ hl (fun ps z => by cases z)
  obtain ⟨hz, hu2⟩ := h f c' pm ctv H1 xs eN T1 hco hw1
  apply thn (mt_append _ s' τ H1 (.ref w) [.ref f] v [.ref f] (fun _ H' => H' = upd H1 w (.lst (xs ++ [.ref f]))) J1 rv (.cons rfl .nil) ⟨w, xs, .ref f, rfl, rfl, hw1, hz, rfl⟩)
  rintro _ s3 ⟨_, _, J3, _, rfl⟩
  apply thn ((hrest f c' pm ctv (X.pn ++ (f, lamO X params body scope c' pm ctv) :: ps) (fun q m => List.mem_append_left _ m) (List.mem_append_right _ List.mem_cons_self) nf).run [] s3 _ _ D (J3.toTry X.xe) hu2)
  intro fl s4 r
  exact sp_back I.ok r
theorem pss_setLam1 {i : Nat} {x : Str} {p p2 : Pos} {rest : List Stmt} {u : Addr → Addr → Value → Value → TS} (hst : X.stack = X.env :: X.outer) (hfr : X.env.frame = some X.env.locals) (hN : X.N.Nodup) (hi : X.N[i]? = some x) (hx : Loc X.env.scope x)
    (TB : LamX.TabB X.base X.mg c P) (hcode : X.env.code = .ref c) (hdef : defaultsOf params X.env = ([], [])) (L : LamX.LamS X.env.scope scope)
    (hrest : ∀ (f c' : Addr) (pm ctv : Value) (pn : List (Addr × Obj)), (∀ q ∈ X.pn, q ∈ pn) → (f, lamO X params body scope c' pm ctv) ∈ pn → f ∉ frs X.stack → PSs (X.tr pn X.xe) rest (u f c' pm ctv))
    (hs : swapsWith (.List [.Lambda params body scope lpos] p2) (some (.Name x p)) pos.line X.env = pure false := by rfl) (hf : X.fn x = true ∨ X.env.scope.names.lookup x = some .local := by first | exact .inl rfl | exact .inr rfl | assumption) :
    PSs X (.Assign [.Name x p] (.List [.Lambda params body scope lpos] p2) pos :: rest) (fun D σ H => LamX.Tabs [(P, X.env.qual ++ "<lambda>")] H ∧ ∀ (f c' : Addr) (pm ctv : Value) (H1 : Hp) (w : Addr), LamX.ExtN H H1 → LamX.Tabs [(P, X.env.qual ++ "<lambda>")] H1 → H1 c' = some (LamX.CodeO c' (X.env.qual ++ "<lambda>")) → H1 w = none →
      u f c' pm ctv D (σ.set i (some (.ref w))) (upd H1 w (.lst [.ref f]))) :=
  pss_setLam hst hfr hN hi hx TB hcode (List.mem_singleton.mpr rfl) (fun p m _ => by rw [List.mem_singleton.mp m]) hdef L hrest hs hf
theorem pss_appLam1 {i : Nat} {x : Str} {p ap cp : Pos} {rest : List Stmt} {u : Addr → Addr → Value → Value → TS} (hst : X.stack = X.env :: X.outer) (hfr : X.env.frame = some X.env.locals) (hx : PE X (.Name x p) (tVar i))
    (TB : LamX.TabB X.base X.mg c P) (hcode : X.env.code = .ref c) (hdef : defaultsOf params X.env = ([], [])) (L : LamX.LamS X.env.scope scope)
    (hrest : ∀ (f c' : Addr) (pm ctv : Value) (pn : List (Addr × Obj)), (∀ q ∈ X.pn, q ∈ pn) → (f, lamO X params body scope c' pm ctv) ∈ pn → f ∉ frs X.stack → PSs (X.tr pn X.xe) rest (u f c' pm ctv))
    (hs : swapsWith (.Call (.Attribute (.Name x p) "append" ap) [.Lambda params body scope lpos] [] cp) none pos.line X.env = pure false := by rfl)
    (hbase : attributeBase (.Name x p) "append" X.env (eval (.Name x p) X.env) = eval (.Name x p) X.env := by rfl)
    (hfew : ((backTo cp (starEach [.Lambda params body scope lpos] X.env)).all (fun x => !x.1) && (backToKw cp (keywordEach [] X.env)).all (fun x => x.1.isSome) && decide (([.Lambda params body scope lpos] : List Expr).length + ([] : List Keyword).length + (if ([] : List Keyword).isEmpty then 0 else 1) < 30)) = true := by rfl)
    (hline : (ap.endLine == cp.line) = true := by rfl) :
    PSs X (.Expr (.Call (.Attribute (.Name x p) "append" ap) [.Lambda params body scope lpos] [] cp) pos :: rest) (fun D σ H => LamX.Tabs [(P, X.env.qual ++ "<lambda>")] H ∧ ∃ (w : Addr), σ[i]? = some (some (.ref w)) ∧ (∃ xs, H w = some (.lst xs)) ∧ ∀ (f c' : Addr) (pm ctv : Value) (H1 : Hp) (xs : List V), LamX.ExtN H H1 → LamX.Tabs [(P, X.env.qual ++ "<lambda>")] H1 → H1 c' = some (LamX.CodeO c' (X.env.qual ++ "<lambda>")) → H1 w = some (.lst xs) →
      xs.length < sizeLine ∧ u f c' pm ctv D σ (upd H1 w (.lst (xs ++ [.ref f])))) :=
  pss_appLam hst hfr hx TB hcode (List.mem_singleton.mpr rfl) (fun p m _ => by rw [List.mem_singleton.mp m]) hdef L hrest hs hbase hfew hline
theorem pss_setLamQ {q : Str} {i : Nat} {x : Str} {p p2 : Pos} {rest : List Stmt} {u : Addr → Addr → Value → Value → TS} (hq : X.env.qual = q) (hst : X.stack = X.env :: X.outer) (hfr : X.env.frame = some X.env.locals) (hN : X.N.Nodup) (hi : X.N[i]? = some x) (hx : Loc X.env.scope x)
    (TB : LamX.TabB X.base X.mg c P) (hcode : X.env.code = .ref c) (hdef : defaultsOf params X.env = ([], [])) (L : LamX.LamS X.env.scope scope)
    (hrest : ∀ (f c' : Addr) (pm ctv : Value) (pn : List (Addr × Obj)), (∀ q ∈ X.pn, q ∈ pn) → (f, lamO X params body scope c' pm ctv) ∈ pn → f ∉ frs X.stack → PSs (X.tr pn X.xe) rest (u f c' pm ctv))
    (hs : swapsWith (.List [.Lambda params body scope lpos] p2) (some (.Name x p)) pos.line X.env = pure false := by rfl) (hf : X.fn x = true ∨ X.env.scope.names.lookup x = some .local := by first | exact .inl rfl | exact .inr rfl | assumption) :
    PSs X (.Assign [.Name x p] (.List [.Lambda params body scope lpos] p2) pos :: rest) (fun D σ H => LamX.Tabs [(P, q ++ "<lambda>")] H ∧ ∀ (f c' : Addr) (pm ctv : Value) (H1 : Hp) (w : Addr), LamX.ExtN H H1 → LamX.Tabs [(P, q ++ "<lambda>")] H1 → H1 c' = some (LamX.CodeO c' (q ++ "<lambda>")) → H1 w = none →
      u f c' pm ctv D (σ.set i (some (.ref w))) (upd H1 w (.lst [.ref f]))) := by
  subst hq
  exact pss_setLam1 hst hfr hN hi hx TB hcode hdef L hrest hs hf
theorem pss_appLamQ {q : Str} {i : Nat} {x : Str} {p ap cp : Pos} {rest : List Stmt} {u : Addr → Addr → Value → Value → TS} (hq : X.env.qual = q) (hst : X.stack = X.env :: X.outer) (hfr : X.env.frame = some X.env.locals) (hx : PE X (.Name x p) (tVar i))
    (TB : LamX.TabB X.base X.mg c P) (hcode : X.env.code = .ref c) (hdef : defaultsOf params X.env = ([], [])) (L : LamX.LamS X.env.scope scope)
    (hrest : ∀ (f c' : Addr) (pm ctv : Value) (pn : List (Addr × Obj)), (∀ q ∈ X.pn, q ∈ pn) → (f, lamO X params body scope c' pm ctv) ∈ pn → f ∉ frs X.stack → PSs (X.tr pn X.xe) rest (u f c' pm ctv))
    (hs : swapsWith (.Call (.Attribute (.Name x p) "append" ap) [.Lambda params body scope lpos] [] cp) none pos.line X.env = pure false := by rfl)
    (hbase : attributeBase (.Name x p) "append" X.env (eval (.Name x p) X.env) = eval (.Name x p) X.env := by rfl)
    (hfew : ((backTo cp (starEach [.Lambda params body scope lpos] X.env)).all (fun x => !x.1) && (backToKw cp (keywordEach [] X.env)).all (fun x => x.1.isSome) && decide (([.Lambda params body scope lpos] : List Expr).length + ([] : List Keyword).length + (if ([] : List Keyword).isEmpty then 0 else 1) < 30)) = true := by rfl)
    (hline : (ap.endLine == cp.line) = true := by rfl) :
    PSs X (.Expr (.Call (.Attribute (.Name x p) "append" ap) [.Lambda params body scope lpos] [] cp) pos :: rest) (fun D σ H => LamX.Tabs [(P, q ++ "<lambda>")] H ∧ ∃ (w : Addr), σ[i]? = some (some (.ref w)) ∧ (∃ xs, H w = some (.lst xs)) ∧ ∀ (f c' : Addr) (pm ctv : Value) (H1 : Hp) (xs : List V), LamX.ExtN H H1 → LamX.Tabs [(P, q ++ "<lambda>")] H1 → H1 c' = some (LamX.CodeO c' (q ++ "<lambda>")) → H1 w = some (.lst xs) →
      xs.length < sizeLine ∧ u f c' pm ctv D σ (upd H1 w (.lst (xs ++ [.ref f])))) := by
  subst hq
  exact pss_appLam1 hst hfr hx TB hcode hdef L hrest hs hbase hfew hline
end
section
variable {X : Cx} {elt tg iter : Expr} {ifs : List Expr} {scope : Scope} {own : List (Str × Nat)} {pos : Pos} {wi : TI} {g : TG} {tt : TT}
theorem pe_lcN {Pr : L2.St → Prop} (hcalm : X.calm = true) (nd : X.N.Nodup) (hi : PI X tg iter wi) (ok : BlkOk X.N X.env.scope scope own)
    (hb : ∀ (ps : List (Addr × Obj)) (τ : L2.St) (s : Shared) (G : Hp) (C : Addr) (cl : List (Str × Addr)) (fp : List Addr), Inv X ps τ G s → (∀ b ∈ fp, FpOk X ps G b) → Pr τ →
      PG (X.blk s G scope (compEnvC scope cl C X.env) fp) tg g ∧ PTs (X.blk s G scope (compEnvC scope cl C X.env) fp) ifs tt)
    (hfs : ∀ x, foldedSetIterable iter X.env x = pure x := by intro _; rfl) :
    PE X (.ListComp elt [⟨tg, iter, ifs, 0⟩] scope pos) (fun σ H Q => Pr σ ∧ tLc wi g tt (fun _ _ _ => False) (own.map (·.2)) σ H Q) := by
  constructor
  intro ps s τ G Q I h
  obtain ⟨hPr, h⟩ := h
  have cells : ∀ y ∈ scope.names, y.2 = .free → ∃ c, X.env.cells.lookup y.1 = some c := by
    intro y my ey
    cases ok.free y my ey with
    | inl k => exact I.ok.has _ (.inl k)
    | inr k => exact I.ok.has _ (.inr k)
  rw [eval_ListComp]
  apply wpAny_comprehension_free (use := none) rfl hfs (closure_ok cells) ok.kind
  · intro y my ey
    rw [ok.uniq y my, ey]
  apply thn (hi.run ps s τ G _ I h)
  intro xv sa ha
  apply thn ha
  rintro itv sb ⟨it, fp, tn, J, Gb, rfl, Ib, T, tb, fb, rd⟩
  refine wpAny_newObj_type (newEnv_comp ?_) (Nat.zero_le _)
  obtain ⟨D, eD⟩ : ∃ D, sb.heap.objs.size = D := ⟨_, rfl⟩
  rw [eD]
  obtain ⟨W, ⟨m0, w0⟩, turn⟩ := rd D (Ib.hok.fresh (Nat.le_of_eq eD))
  have gD := Ib.hok.fresh (Nat.le_of_eq eD)
  obtain ⟨sc, esc⟩ : ∃ z : Shared, z = { sb with heap := sb.heap.push { cls := .type "list", data := .seq ([] : List Value).toArray } } := ⟨_, rfl⟩
  have hc : sc.heap = sb.heap.push { cls := .type "list", data := .seq ([] : List Value).toArray } := congrArg Shared.heap esc
  have up : ∀ b o, sb.heap.get? b = some o → sc.heap.get? b = some o := by
    intro b o e
    rw [hc]
    exact Heap.get?_push_of_some _ e
  have Ic : Inv X ps τ (upd Gb D (.lst [])) sc := by
    subst esc
    apply Ib.laid (t' := sb.toks) up (Nat.le_of_eq eD)
    refine ⟨Nat.zero_le _, [], 0, .nil, ?_⟩
    rw [← eD]
    exact Heap.get?_push_size _ rfl
  obtain ⟨Gc, eG⟩ : ∃ z, z = upd Gb D (.lst []) := ⟨_, rfl⟩
  rw [← eG] at Ic w0
  have fc : ∀ b ∈ fp, FpOk X ps Gc b ∧ b < sc.heap.objs.size := by
    intro b mb
    obtain ⟨o, eo, _⟩ := T.obj _ _ tb b mb
    have lt := Heap.lt_size eo
    constructor
    · refine ⟨?_, (fb b mb).2⟩
      rw [eG, L2.upd_ne (show b ≠ D by rw [← eD]; exact Nat.ne_of_lt lt)]
      exact (fb b mb).1
    · exact Heap.lt_size (up _ _ eo)
  have tc := T.keep _ _ _ tb fun b _ o e => up b o e
  have Id := block_start Ic ok nd fc
  obtain ⟨pg, pt⟩ := hb ps τ sc Gc sc.heap.objs.size (cellsFrom (sc.heap.objs.size + 1) scope.names (cloFrom X.env.cells scope.names [])) fp Ic (fun b mb => (fc b mb).1) hPr
  rw [← esc]
  obtain ⟨ce, ece⟩ : ∃ z, z = compEnvC scope (cellsFrom (sc.heap.objs.size + 1) scope.names (cloFrom X.env.cells scope.names [])) sc.heap.objs.size X.env := ⟨_, rfl⟩
  rw [← ece] at Id pg pt
  have lo : ce.locals = sc.heap.objs.size := by rw [ece]; rfl
  obtain ⟨sd, esd⟩ : ∃ z : Shared, z = { sc with heap := pushCells (sc.heap.push { cls := .type "dict", data := .dict #[] }) scope.names } := ⟨_, rfl⟩
  rw [← esd] at Id
  have td : tn 0 sd.heap := T.keep 0 sc.heap sd.heap tc fun b _ o e => by
    rw [esd]
    exact pushCells_keeps _ _ _ _ (Heap.get?_push_of_some _ e)
  have free0 : ∀ b ∈ fp, Gc b = none := fun b mb => (fc b mb).1.1
  have still : ∀ {τ' : L2.St} {G' : Hp} {s' : Shared}, Inv (X.blk sc Gc scope ce fp) [] τ' G' s' → (∀ b ∈ fp, G' b = none) → ∀ b ∈ fp, FpOk (X.blk sc Gc scope ce fp) [] G' b := by
    intro τ' G' s' Ie n b mb
    refine ⟨n b mb, (Ie.ok.exf b mb).1, Ie.ok.exfs b mb, .inl mb, ?_, ?_⟩
    · intro x c e
      exact (Ie.ok.exf b mb).2 x c e
    · intro p mp
      cases (show p ∈ ([] : List (Addr × Obj)) from mp)
  have walk : codeAny (model X.prog X.w) X.A (.compLoop (.ListComp elt [⟨tg, iter, ifs, 0⟩] scope pos) 0 (.ref it) (.ref D) ce)
      (compPost (model X.prog X.w) X.A X.xe none (EP X ps τ Q) (.ref D) sc.heap.objs.size) sd := by
    apply compLoop_any (fun n z => ∃ i G', Inv (X.blk sc Gc scope ce fp) [] (wipe τ (own.map (·.2))) G' z ∧ tn i z.heap ∧ (∀ b ∈ fp, G' b = none) ∧ W i n G') _ m0 ⟨0, Gc, Id, td, free0, w0⟩
    rintro n z ⟨i, G5, I5, t5, n5, w5⟩
    cases turn i n G5 w5 with
    | inl stop =>
      apply thnF (T.done (X.blk sc Gc scope ce fp) rfl rfl rfl hcalm i [] z _ G5 (fun _ _ => False) I5 (still I5 n5) t5 stop.1)
      rintro r z6 ⟨rfl, I6⟩
      have I7 : Inv X ps τ G5 z6 := by
        apply Ic.call' (ch := fp) I6.os I6.base I6.hok I6.bare
        intro b mb
        have f := (fc b mb).1
        exact ⟨f.2.2.2.1, f.2.1, f.2.2.2.2.1, f.2.2.2.2.2⟩
      have nL : G5 sc.heap.objs.size = none := lo ▸ I6.free
      obtain ⟨m, hm, _⟩ := I6.loc
      have hm : z6.heap.Ns sc.heap.objs.size m := lo ▸ hm
      obtain ⟨f0, f1, f2, f3, f4, f5⟩ := Ic.fpOk (Nat.le_refl _) nL
      refine ⟨m, hm, ?_⟩
      intro h9 sb9
      exact ⟨.ref D, G5, I7.turned (t' := z6.toks) (fun b o hb e => (sb9.2 b hb).trans e) f0 f1 f3 f4 f5, rfl, stop.2⟩
    | inr go =>
      obtain ⟨jg, Nx, hN, step⟩ := go
      apply thnF (T.item (X.blk sc Gc scope ce fp) rfl rfl rfl hcalm i [] z _ G5 (fun _ _ => False) I5 (still I5 n5) t5 jg)
      rintro r z6 ⟨u, rfl, h6⟩
      apply thnF h6
      rintro _ z7 ⟨x, G7, I7, r7, y7, t7, n7⟩
      have J7 := I7.pinned (still I7 n7) (T.obj _ _ t7)
      apply thnF (pg.run _ z7 _ G7 x u _ J7 r7 (step x G7 y7))
      rintro _ z8 ⟨τ8, G8, I8, w8, q8⟩
      apply thnF (pt.run _ z8 τ8 G8 _ I8 q8)
      rintro b z9 ⟨G9, I9, q9⟩
      cases b with
      | true =>
        rw [if_pos rfl] at q9
        exact q9.elim
      | false =>
        rw [if_neg Bool.false_ne_true] at q9 ⊢
        obtain ⟨m', lt, w'⟩ := hN G9 q9
        have pin : ∀ b ∈ fp, ∀ o, z7.heap.get? b = some o → z9.heap.get? b = some o ∧ G9 b = none := by
          intro b mb o e
          have q := I9.pin (b, o) (List.mem_append_right _ (List.mem_append_right _ (mem_pinsAt mb e)))
          exact ⟨q.1, q.2.1⟩
        have ll : (wipe τ (own.map (·.2))).length = τ8.length := by rw [← w8, wipe_length]
        refine ⟨m', lt, i + 1, G9, ?_, T.keep (i + 1) z7.heap z9.heap t7 (fun b mb o e => (pin b mb o e).1), ?_, w'⟩
        · apply (I9.unpinned (pins := [])).weak ll
          intro j v e
          rw [← w8] at e
          exact (wipe_some e).1
        · intro b mb
          obtain ⟨o, e, _⟩ := T.obj _ _ t7 b mb
          exact (pin b mb o e).2
  show codeAny _ _ (.compStart (.ListComp elt [⟨tg, iter, ifs, 0⟩] scope pos) 0 (.ref it) (.ref D) (compEnvC scope (cellsFrom (sc.heap.objs.size + 1) scope.names (cloFrom X.env.cells scope.names [])) sc.heap.objs.size X.env)) _ { sc with heap := pushCells (sc.heap.push { cls := .type "dict", data := .dict #[] }) scope.names }
  rw [← ece, ← esd]
  exact codeAny_compStart_list walk (T.self X.A 0 _ _ _ td walk)
end
end U

namespace U
open PySem L2 PyProof.Rows
/-! ### look-ups in lists of pairs -/
section
variable {α β : Type}
def lk (cs : List (Str × α)) (x : Str) : Option α := (cs.find? fun e => decide (e.1 = x)).map (·.2)
def put (cs : List (Str × α)) (x : Str) (a : α) : List (Str × α) := if (cs.any fun e => decide (e.1 = x)) = true then cs.map (fun e => if e.1 = x then (e.1, a) else e) else cs ++ [(x, a)]
def ks (cs : List (Str × α)) : List Str := cs.map (·.1)
theorem lk_nil {x : Str} : lk ([] : List (Str × α)) x = none := rfl
theorem lk_cons {e : Str × α} {cs : List (Str × α)} {x : Str} : lk (e :: cs) x = if e.1 = x then some e.2 else lk cs x := by
  unfold lk
  rw [List.find?_cons]
  by_cases h : e.1 = x
  · rw [decide_eq_true h, if_pos h]
    rfl
  · rw [decide_eq_false h, if_neg h]
theorem lk_mem {cs : List (Str × α)} {x : Str} {a : α} (h : lk cs x = some a) : (x, a) ∈ cs := by
  induction cs with
  | nil => cases h
  | cons e r ih =>
    rw [lk_cons] at h
    by_cases q : e.1 = x
    · rw [if_pos q] at h
      cases h
      subst q
      exact List.mem_cons_self
    · rw [if_neg q] at h
      exact List.mem_cons_of_mem _ (ih h)
theorem lk_none {cs : List (Str × α)} {x : Str} : lk cs x = none ↔ x ∉ ks cs := by
  induction cs with
  | nil => simp [lk, ks]
  | cons e r ih =>
    rw [lk_cons]
    by_cases q : e.1 = x
    · rw [if_pos q]
      simp [ks, q]
    · rw [if_neg q, ih]
      have : ¬ x = e.1 := fun z => q z.symm
      simp [ks, this]
theorem lk_some {cs : List (Str × α)} {x : Str} (h : x ∈ ks cs) : ∃ a, lk cs x = some a := by
  cases q : lk cs x with
  | none => exact absurd h (lk_none.mp q)
  | some a => exact ⟨a, rfl⟩
theorem mem_ks {cs : List (Str × α)} {x : Str} {a : α} (h : lk cs x = some a) : x ∈ ks cs := List.mem_map.mpr ⟨_, lk_mem h, rfl⟩
theorem lk_isSome {cs : List (Str × α)} {x : Str} : (lk cs x).isSome = decide (x ∈ ks cs) := by
  cases q : lk cs x with
  | none => rw [decide_eq_false (lk_none.mp q)]; rfl
  | some a => rw [decide_eq_true (mem_ks q)]; rfl
theorem lk_of_mem {cs : List (Str × α)} {x : Str} {a : α} (n : (ks cs).Nodup) (h : (x, a) ∈ cs) : lk cs x = some a := by
  induction cs with
  | nil => cases h
  | cons e r ih =>
    have n : (e.1 :: ks r).Nodup := n
    rw [List.nodup_cons] at n
    rw [lk_cons]
    rcases List.mem_cons.mp h with q | q
    · subst q
      exact if_pos rfl
    · have : e.1 ≠ x := fun z => n.1 (z ▸ List.mem_map.mpr ⟨_, q, rfl⟩)
      rw [if_neg this]
      exact ih n.2 q
theorem any_ks (cs : List (Str × α)) (x : Str) : (cs.any fun e => decide (e.1 = x)) = decide (x ∈ ks cs) := by
  rw [Bool.eq_iff_iff]
  simp only [List.any_eq_true, decide_eq_true_eq, ks, List.mem_map]
theorem put_new {cs : List (Str × α)} {x : Str} {a : α} (h : x ∉ ks cs) : put cs x a = cs ++ [(x, a)] := by
  unfold put
  rw [any_ks, decide_eq_false h]
  rfl
theorem ks_put {cs : List (Str × α)} {x : Str} {a : α} : ks (put cs x a) = addU (ks cs) x := by
  unfold put addU
  rw [any_ks]
  by_cases h : x ∈ ks cs
  · rw [decide_eq_true h, if_pos rfl, if_pos h]
    unfold ks
    rw [List.map_map]
    refine List.map_congr_left fun p _ => ?_
    show (if p.1 = x then (p.1, a) else p).1 = p.1
    split <;> rfl
  · rw [decide_eq_false h, if_neg Bool.false_ne_true, if_neg h]
    simp [ks]
theorem lk_app {cs ds : List (Str × α)} {x : Str} : lk (cs ++ ds) x = (lk cs x).or (lk ds x) := by
  induction cs with
  | nil => simp [lk]
  | cons e r ih =>
    rw [List.cons_append, lk_cons, lk_cons, ih]
    by_cases q : e.1 = x
    · rw [if_pos q, if_pos q]; rfl
    · rw [if_neg q, if_neg q]
theorem lk_put {cs : List (Str × α)} {x y : Str} {a : α} : lk (put cs x a) y = if x = y then some a else lk cs y := by
  by_cases h : x ∈ ks cs
  · have e : put cs x a = cs.map (fun e => if e.1 = x then (e.1, a) else e) := by
      unfold put
      rw [any_ks, decide_eq_true h]
      rfl
    rw [e]
    clear e
    induction cs with
    | nil => cases h
    | cons e r ih =>
      rw [List.map_cons, lk_cons, lk_cons]
      by_cases q : e.1 = x
      · rw [if_pos q]
        show (if e.1 = y then some a else _) = _
        by_cases z : e.1 = y
        · rw [if_pos z, if_pos (q.symm.trans z)]
        · rw [if_neg z, if_neg (fun w => z (q.trans w)), if_neg z]
          by_cases m : x ∈ ks r
          · rw [ih m, if_neg (fun w => z (q.trans w))]
          · congr 1
            have : r.map (fun e => if e.1 = x then (e.1, a) else e) = r.map id := List.map_congr_left fun p hp => if_neg fun w => m (List.mem_map.mpr ⟨p, hp, w⟩)
            rw [this, List.map_id]
      · rw [if_neg q]
        have m : x ∈ ks r := by
          rcases List.mem_cons.mp h with z | z
          · exact absurd z.symm q
          · exact z
        rw [ih m]
        by_cases z : e.1 = y
        · rw [if_pos z, if_pos z, if_neg (fun w => q (z.trans w.symm))]
        · rw [if_neg z, if_neg z]
  · rw [put_new h, lk_app]
    by_cases z : x = y
    · subst z
      rw [lk_none.mpr h, if_pos rfl, lk_cons, if_pos rfl]
      rfl
    · rw [if_neg z, lk_cons, if_neg z, lk_nil]
      cases lk cs y <;> rfl
theorem addU_nodup {l : List Str} {x : Str} (h : l.Nodup) : (addU l x).Nodup := by
  unfold addU
  by_cases q : x ∈ l
  · rw [if_pos q]; exact h
  · rw [if_neg q, List.nodup_append]
    exact ⟨h, by simp, fun a ha b hb e => q (by simp at hb; rw [← hb, ← e]; exact ha)⟩
theorem put_nodup {cs : List (Str × α)} {x : Str} {a : α} (h : (ks cs).Nodup) : (ks (put cs x a)).Nodup := ks_put ▸ addU_nodup h
theorem put_len {cs : List (Str × α)} {x : Str} {a : α} : (put cs x a).length ≤ cs.length + 1 := by
  have h := congrArg List.length (ks_put (cs := cs) (x := x) (a := a))
  unfold ks addU at h
  rw [List.length_map] at h
  rw [h]
  split <;> simp
theorem mem_put {cs : List (Str × α)} {x : Str} {a : α} {e : Str × α} (h : e ∈ put cs x a) : e = (x, a) ∨ e ∈ cs := by
  unfold put at h
  by_cases q : (cs.any fun e => decide (e.1 = x)) = true
  · rw [if_pos q] at h
    obtain ⟨p, hp, e2⟩ := List.mem_map.mp h
    by_cases z : p.1 = x
    · rw [if_pos z] at e2
      exact .inl (by rw [← e2, z])
    · rw [if_neg z] at e2
      exact .inr (e2 ▸ hp)
  · rw [if_neg q] at h
    rcases List.mem_append.mp h with z | z
    · exact .inr z
    · exact .inl (by simpa using z)
end
/-! ### values -/
inductive Wo where
  | num (n : Int) | ring | wide
  deriving DecidableEq
def cap (n : Int) : Wo := if 999999999 < n ∨ n < -999999999 then .wide else .num n
def W3.run : W3 → Int → Int → Int
  | .add, i, j => i + j
  | .sub, i, j => i - j
  | .mul, i, j => i * j
def two (w : W3) : Wo → Wo → Wo
  | .num i, .num j => cap (w.run i j)
  | .num _, o => o
  | o, _ => o
def pickW : Wo → Wo → Wo → Wo → Wo
  | .num i, .num j, a, b => if i < j then a else b
  | .num _, o, _, _ => o
  | o, _, _, _ => o
def sumF (f : Str → Wo) (l : List Str) (t : Wo) : Wo := l.foldl (fun t x => two .add t (f x)) t
def Part.ev (f : Str → Wo) : Part → Wo
  | .num n => .num n
  | .cel c => f c.s
  | .sum c d => sumF f (strL c d) (.num 0)
  | .op w p q => two w (p.ev f) (q.ev f)
  | .pick p q r t => pickW (p.ev f) (q.ev f) (r.ev f) (t.ev f)
theorem sumF_congr {f g : Str → Wo} : ∀ {l : List Str} {t : Wo}, (∀ x ∈ l, f x = g x) → sumF f l t = sumF g l t
  | [], _, _ => rfl
  | x :: r, t, h => by
    show sumF f r (two .add t (f x)) = sumF g r (two .add t (g x))
    rw [h x List.mem_cons_self]
    exact sumF_congr fun y hy => h y (List.mem_cons_of_mem _ hy)
theorem Part.ev_congr {f g : Str → Wo} : ∀ {p : Part}, (∀ x ∈ p.cells, f x = g x) → p.ev f = p.ev g
  | .num _, _ => rfl
  | .cel c, h => h _ (by simp [Part.cells])
  | .sum c d, h => sumF_congr h
  | .op w p q, h => by
    show two w _ _ = two w _ _
    rw [Part.ev_congr (p := p) fun x hx => h x (List.mem_append_left _ hx), Part.ev_congr (p := q) fun x hx => h x (List.mem_append_right _ hx)]
  | .pick p q r t, h => by
    show pickW _ _ _ _ = pickW _ _ _ _
    have h : ∀ x ∈ p.cells ++ (q.cells ++ (r.cells ++ t.cells)), f x = g x := h
    rw [Part.ev_congr (p := p) fun x hx => h x (by simp [hx]), Part.ev_congr (p := q) fun x hx => h x (by simp [hx]), Part.ev_congr (p := r) fun x hx => h x (by simp [hx]), Part.ev_congr (p := t) fun x hx => h x (by simp [hx])]
def Wo.ok : Wo → Prop
  | .num n => -999999999 ≤ n ∧ n ≤ 999999999
  | _ => True
theorem cap_ok (n : Int) : (cap n).ok := by
  unfold cap
  by_cases h : 999999999 < n ∨ n < -999999999
  · rw [if_pos h]; trivial
  · rw [if_neg h]
    show -999999999 ≤ n ∧ n ≤ 999999999
    omega
theorem two_ok (w : W3) : ∀ {a b : Wo}, a.ok → b.ok → (two w a b).ok
  | .num i, .num j, _, _ => cap_ok _
  | .num i, .ring, _, _ => trivial
  | .num i, .wide, _, _ => trivial
  | .ring, _, _, _ => trivial
  | .wide, _, _, _ => trivial
theorem sumF_ok {f : Str → Wo} (hf : ∀ x, (f x).ok) : ∀ {l : List Str} {t : Wo}, t.ok → (sumF f l t).ok
  | [], _, h => h
  | x :: r, t, h => sumF_ok (l := r) hf (two_ok .add h (hf x))
theorem Part.ev_ok {f : Str → Wo} (hf : ∀ x, (f x).ok) : ∀ {p : Part}, p.good → (p.ev f).ok
  | .num n, h => by
    have h : -1000000 < n ∧ n < 1000000 := h
    show -999999999 ≤ n ∧ n ≤ 999999999
    omega
  | .cel c, _ => hf _
  | .sum c d, _ => sumF_ok hf (by show -999999999 ≤ (0 : Int) ∧ (0 : Int) ≤ 999999999; omega)
  | .op w p q, h => two_ok w (Part.ev_ok hf h.1) (Part.ev_ok hf h.2)
  | .pick p q r t, h => by
    have h1 := Part.ev_ok hf h.1
    have h2 := Part.ev_ok hf h.2.1
    have h3 := Part.ev_ok hf h.2.2.1
    have h4 := Part.ev_ok hf h.2.2.2
    show (pickW (p.ev f) (q.ev f) (r.ev f) (t.ev f)).ok
    cases ep : p.ev f with
    | num i =>
      cases eq : q.ev f with
      | num j =>
        show (if i < j then r.ev f else t.ev f).ok
        split
        · exact h3
        · exact h4
      | ring => trivial
      | wide => trivial
    | ring => trivial
    | wide => trivial
/-! ### reading -/
theorem mem_dedupe {l : List Str} {x : Str} : x ∈ dedupe l ↔ x ∈ l := by
  unfold dedupe
  rw [mem_foldU]
  simp
/-- what a cell's content reads -/
def rds (cs : List (Str × Part)) (x : Str) : List Str := readsC (lk cs x)
theorem rds_some {cs : List (Str × Part)} {x : Str} {p : Part} (h : lk cs x = some p) : rds cs x = p.reads := by unfold rds; rw [h]; rfl
theorem rds_none {cs : List (Str × Part)} {x : Str} (h : lk cs x = none) : rds cs x = [] := by unfold rds; rw [h]; rfl
theorem mem_rds {cs : List (Str × Part)} {x y : Str} {p : Part} (h : lk cs x = some p) : y ∈ rds cs x ↔ y ∈ p.cells := by
  rw [rds_some h]
  exact mem_dedupe
/-- y is come to from x by reading, by one step or more -/
inductive Rch (cs : List (Str × Part)) : Str → Str → Prop
  | one {x y : Str} : y ∈ rds cs x → Rch cs x y
  | more {x y z : Str} : Rch cs x y → z ∈ rds cs y → Rch cs x z
theorem Rch.trans {cs : List (Str × Part)} {x y z : Str} (a : Rch cs x y) (b : Rch cs y z) : Rch cs x z := by
  induction b with
  | one h => exact .more a h
  | more _ h ih => exact .more ih h
theorem Rch.key {cs : List (Str × Part)} {x y : Str} (a : Rch cs x y) : x ∈ ks cs := by
  induction a with
  | one h =>
    cases q : lk cs _ with
    | none => rw [rds_none q] at h; cases h
    | some p => exact mem_ks q
  | more _ _ ih => exact ih
open Classical in
noncomputable def wvF (cs : List (Str × Part)) : Nat → Str → Wo
  | 0, _ => .num 0
  | n + 1, x => match lk cs x with
    | none => .num 0
    | some p => if Rch cs x x then .ring else p.ev (wvF cs n)
noncomputable def wv (cs : List (Str × Part)) : Str → Wo := wvF cs (cs.length + 1)
section
variable {cs : List (Str × Part)} {x y : Str} {p : Part} {n m : Nat}
theorem wvF_none (h : lk cs x = none) : wvF cs n x = .num 0 := by
  cases n with
  | zero => rfl
  | succ n => simp only [wvF, h]
theorem wvF_ring (h : lk cs x = some p) (r : Rch cs x x) : wvF cs (n + 1) x = .ring := by
  simp only [wvF, h]
  exact if_pos r
theorem wvF_ev (h : lk cs x = some p) (r : ¬ Rch cs x x) : wvF cs (n + 1) x = p.ev (wvF cs n) := by
  simp only [wvF, h]
  exact if_neg r
open Classical in
/-- how many keys are come to -/
noncomputable def msr (cs : List (Str × Part)) (x : Str) : Nat := (cs.filter fun e => decide (Rch cs x e.1)).length
theorem msr_le : msr cs x ≤ cs.length := List.length_filter_le _ _
theorem filter_lt {α : Type} {P Q : α → Bool} : ∀ {l : List α} {e : α}, (∀ x, P x = true → Q x = true) → e ∈ l → P e = false → Q e = true → (l.filter P).length < (l.filter Q).length
  | [], _, _, h, _, _ => by cases h
  | a :: r, e, imp, h, p, q => by
    have le : ∀ l : List α, (l.filter P).length ≤ (l.filter Q).length := fun l => by
      induction l with
      | nil => simp
      | cons b s ih =>
        rw [List.filter_cons, List.filter_cons]
        by_cases hb : P b = true
        · rw [if_pos hb, if_pos (imp b hb)]
          simp only [List.length_cons]
          omega
        · rw [if_neg hb]
          split
          · simp only [List.length_cons]
            omega
          · exact ih
    rw [List.filter_cons, List.filter_cons]
    rcases List.mem_cons.mp h with z | z
    · subst z
      rw [if_neg (by rw [p]; exact Bool.false_ne_true), if_pos q]
      have := le r
      simp only [List.length_cons]
      omega
    · have ih := filter_lt imp z p q
      by_cases hb : P a = true
      · rw [if_pos hb, if_pos (imp a hb)]
        simp only [List.length_cons]
        omega
      · rw [if_neg hb]
        split
        · simp only [List.length_cons]
          omega
        · exact ih
open Classical in
theorem msr_lt (hxy : Rch cs x y) (hy : y ∈ ks cs) (hr : ¬ Rch cs y y) : msr cs y < msr cs x := by
  obtain ⟨e, he, e1⟩ := List.mem_map.mp hy
  refine filter_lt (e := e) (fun z hz => ?_) he ?_ ?_
  · rw [decide_eq_true_eq] at hz ⊢
    exact hxy.trans hz
  · rw [decide_eq_false_iff_not, e1]
    exact hr
  · rw [decide_eq_true_eq, e1]
    exact hxy
open Classical in
theorem msr_pos (hxy : Rch cs x y) (hy : y ∈ ks cs) : 0 < msr cs x := by
  obtain ⟨e, he, e1⟩ := List.mem_map.mp hy
  unfold msr
  refine List.length_pos_of_mem (a := e) (List.mem_filter.mpr ⟨he, ?_⟩)
  rw [decide_eq_true_eq, e1]
  exact hxy
theorem wvF_stable : ∀ {n m : Nat} {x : Str}, msr cs x < n → msr cs x < m → wvF cs n x = wvF cs m x
  | 0, _, _, h, _ => absurd h (Nat.not_lt_zero _)
  | _ + 1, 0, _, _, h => absurd h (Nat.not_lt_zero _)
  | n + 1, m + 1, x, h1, h2 => by
    cases q : lk cs x with
    | none => rw [wvF_none q, wvF_none q]
    | some p =>
      by_cases r : Rch cs x x
      · rw [wvF_ring q r, wvF_ring q r]
      · rw [wvF_ev q r, wvF_ev q r]
        refine Part.ev_congr fun y hy => ?_
        have hxy : Rch cs x y := .one ((mem_rds q).mpr hy)
        cases qy : lk cs y with
        | none => rw [wvF_none qy, wvF_none qy]
        | some py =>
          have ky := mem_ks qy
          by_cases ry : Rch cs y y
          · have := msr_pos hxy ky
            obtain ⟨n', rfl⟩ : ∃ k, n = k + 1 := ⟨n - 1, by omega⟩
            obtain ⟨m', rfl⟩ : ∃ k, m = k + 1 := ⟨m - 1, by omega⟩
            rw [wvF_ring qy ry, wvF_ring qy ry]
          · have := msr_lt hxy ky ry
            exact wvF_stable (by omega) (by omega)
theorem wv_none (h : lk cs x = none) : wv cs x = .num 0 := wvF_none h
theorem wv_ring (h : x ∈ ks cs) (r : Rch cs x x) : wv cs x = .ring := let ⟨_, e⟩ := lk_some h; wvF_ring e r
theorem wv_ev (h : lk cs x = some p) (r : ¬ Rch cs x x) : wv cs x = p.ev (wv cs) := by
  unfold wv
  rw [wvF_ev h r]
  refine Part.ev_congr fun y hy => ?_
  have hxy : Rch cs x y := .one ((mem_rds h).mpr hy)
  have hx := msr_le (cs := cs) (x := x)
  cases qy : lk cs y with
  | none => rw [wvF_none qy, wvF_none qy]
  | some py =>
    have ky := mem_ks qy
    by_cases ry : Rch cs y y
    · have := msr_pos hxy ky
      obtain ⟨l', e⟩ : ∃ k, cs.length = k + 1 := ⟨cs.length - 1, by omega⟩
      rw [e, wvF_ring qy ry, wvF_ring qy ry]
    · have := msr_lt hxy ky ry
      exact wvF_stable (by omega) (by omega)
theorem wvF_ok (g : ∀ e ∈ cs, e.2.good) : ∀ (n : Nat) (x : Str), (wvF cs n x).ok
  | 0, x => by show -999999999 ≤ (0 : Int) ∧ (0 : Int) ≤ 999999999; omega
  | n + 1, x => by
    cases q : lk cs x with
    | none => rw [wvF_none q]; show -999999999 ≤ (0 : Int) ∧ (0 : Int) ≤ 999999999; omega
    | some p =>
      by_cases r : Rch cs x x
      · rw [wvF_ring q r]; trivial
      · rw [wvF_ev q r]
        exact Part.ev_ok (wvF_ok g n) (g _ (lk_mem q))
theorem wv_ok (g : ∀ e ∈ cs, e.2.good) (x : Str) : (wv cs x).ok := wvF_ok g _ x
end
/-! ### the fifty-four cells -/
def isC (y : Str) : Prop := ∃ c : Cel, y = c.s
def allC : List Str := rowsL 0 6 0 9
theorem allC_len : allC.length = 54 := by unfold allC; rw [rowsL_len]
theorem isC_mem {y : Str} (h : isC y) : y ∈ allC := by
  obtain ⟨c, rfl⟩ := h
  exact rowsL_mem.mpr ⟨c.c, c.r, Nat.zero_le _, by have := c.hc; omega, Nat.zero_le _, by have := c.hr; omega, rfl⟩
theorem strL_isC {c d : Cel} {y : Str} (h : y ∈ strL c d) : isC y := by
  obtain ⟨k, r, h1, h2, h3, h4, rfl⟩ := rowsL_mem.mp h
  have a1 := c.hc
  have a2 := d.hc
  have a3 := c.hr
  have a4 := d.hr
  exact ⟨⟨k, r, by omega, by omega⟩, rfl⟩
theorem cells_isC : ∀ {p : Part} {y : Str}, y ∈ p.cells → isC y
  | .num _, _, h => by cases h
  | .cel c, y, h => ⟨c, List.mem_singleton.mp h⟩
  | .sum c d, y, h => strL_isC h
  | .op w p q, y, h => (List.mem_append.mp h).elim cells_isC cells_isC
  | .pick p q r t, y, h => (List.mem_append.mp h).elim cells_isC fun h => (List.mem_append.mp h).elim cells_isC fun h => (List.mem_append.mp h).elim cells_isC cells_isC
theorem nodup_le : ∀ {l m : List Str}, l.Nodup → (∀ y ∈ l, y ∈ m) → l.length ≤ m.length
  | [], _, _, _ => Nat.zero_le _
  | x :: r, m, n, h => by
    rw [List.nodup_cons] at n
    have hx := h x List.mem_cons_self
    have e := List.length_erase_of_mem hx
    have p := List.length_pos_of_mem hx
    have ih := nodup_le (l := r) (m := m.erase x) n.2 fun y hy => (List.mem_erase_of_ne fun (z : y = x) => n.1 (z ▸ hy)).mpr (h y (List.mem_cons_of_mem _ hy))
    simp only [List.length_cons]
    omega
theorem cells_le54 {l : List Str} (n : l.Nodup) (h : ∀ y ∈ l, isC y) : l.length ≤ 54 := allC_len ▸ nodup_le n fun y hy => isC_mem (h y hy)
theorem rds_isC {cs : List (Str × Part)} {x y : Str} (h : y ∈ rds cs x) : isC y := by
  cases q : lk cs x with
  | none => rw [rds_none q] at h; cases h
  | some p => exact cells_isC ((mem_rds q).mp h)
theorem rds_nodup (cs : List (Str × Part)) (x : Str) : (rds cs x).Nodup := by
  cases q : lk cs x with
  | none => rw [rds_none q]; exact List.nodup_nil
  | some p => rw [rds_some q]; exact reads_nodup p
theorem rds_len (cs : List (Str × Part)) (x : Str) : (rds cs x).length ≤ 54 := cells_le54 (rds_nodup cs x) fun _ h => rds_isC h
theorem Rch.isC {cs : List (Str × Part)} {x y : Str} (h : Rch cs x y) : isC y := by
  cases h with
  | one h => exact rds_isC h
  | more _ h => exact rds_isC h
/-! ### what is come to, by a pile of those that wait -/
structure CT (cs : List (Str × Part)) (x : Str) (F W : List Str) : Prop where
  nd : F.Nodup
  fr : ∀ u ∈ F, Rch cs x u
  wt : ∀ u ∈ W, u = x ∨ u ∈ F
  cl : ∀ u, u = x ∨ u ∈ F → u ∈ W ∨ ∀ z ∈ rds cs u, z ∈ F
structure CTi (cs : List (Str × Part)) (x y : Str) (dn F W : List Str) : Prop where
  nd : F.Nodup
  fr : ∀ u ∈ F, Rch cs x u
  wt : ∀ u ∈ W, u = x ∨ u ∈ F
  yv : y = x ∨ y ∈ F
  dn : ∀ z ∈ dn, z ∈ F
  cl : ∀ u, u = x ∨ u ∈ F → u ∈ W ∨ u = y ∨ ∀ z ∈ rds cs u, z ∈ F
section
variable {cs : List (Str × Part)} {x y z : Str} {dn F W : List Str}
theorem CT.init : CT cs x [] [x] := ⟨List.nodup_nil, fun _ h => (by cases h), fun u h => .inl (List.mem_singleton.mp h), fun u h => .inl (h.elim (fun h => List.mem_singleton.mpr h) fun h => by cases h)⟩
theorem CT.len (c : CT cs x F W) : F.length ≤ 54 := cells_le54 c.nd fun u h => (c.fr u h).isC
theorem CTi.len (c : CTi cs x y dn F W) : F.length ≤ 54 := cells_le54 c.nd fun u h => (c.fr u h).isC
theorem CT.pop (c : CT cs x F (W ++ [y])) : CTi cs x y [] F W :=
  ⟨c.nd, c.fr, fun u h => c.wt u (List.mem_append_left _ h), c.wt y (by simp), fun _ h => (by cases h), fun u h => by
    rcases c.cl u h with q | q
    · rcases List.mem_append.mp q with q | q
      · exact .inl q
      · exact .inr (.inl (List.mem_singleton.mp q))
    · exact .inr (.inr q)⟩
theorem CTi.skip (c : CTi cs x y dn F W) (h : z ∈ F) : CTi cs x y (dn ++ [z]) F W :=
  ⟨c.nd, c.fr, c.wt, c.yv, fun u hu => (List.mem_append.mp hu).elim (c.dn u) fun q => List.mem_singleton.mp q ▸ h, c.cl⟩
theorem CTi.add (c : CTi cs x y dn F W) (h : z ∉ F) (hz : z ∈ rds cs y) : CTi cs x y (dn ++ [z]) (F ++ [z]) (W ++ [z]) := by
  have sub : ∀ {u}, u ∈ F → u ∈ F ++ [z] := fun h => List.mem_append_left _ h
  refine ⟨?_, fun u hu => ?_, fun u hu => ?_, c.yv.imp _root_.id sub, fun u hu => ?_, fun u hu => ?_⟩
  · have e : addU F z = F ++ [z] := if_neg h
    exact e ▸ addU_nodup c.nd
  · rcases List.mem_append.mp hu with q | q
    · exact c.fr u q
    · rw [List.mem_singleton.mp q]
      rcases c.yv with e | e
      · exact .one (e ▸ hz)
      · exact .more (c.fr y e) hz
  · rcases List.mem_append.mp hu with q | q
    · exact (c.wt u q).imp _root_.id sub
    · exact .inr (List.mem_append_right _ q)
  · rcases List.mem_append.mp hu with q | q
    · exact sub (c.dn u q)
    · exact List.mem_append_right _ q
  · have old : u = x ∨ u ∈ F → u ∈ W ++ [z] ∨ u = y ∨ ∀ t ∈ rds cs u, t ∈ F ++ [z] := fun q => by
      rcases c.cl u q with q | q | q
      · exact .inl (List.mem_append_left _ q)
      · exact .inr (.inl q)
      · exact .inr (.inr fun t ht => sub (q t ht))
    rcases hu with q | q
    · exact old (.inl q)
    · rcases List.mem_append.mp q with q | q
      · exact old (.inr q)
      · exact .inl (List.mem_append_right _ q)
theorem CTi.close (c : CTi cs x y (rds cs y) F W) : CT cs x F W :=
  ⟨c.nd, c.fr, c.wt, fun u hu => by
    rcases c.cl u hu with q | q | q
    · exact .inl q
    · exact .inr (q ▸ c.dn)
    · exact .inr q⟩
theorem CT.fin (c : CT cs x F []) : ∀ u, u ∈ F ↔ Rch cs x u := fun u => ⟨c.fr u, fun h => by
  have cl : ∀ u, u = x ∨ u ∈ F → ∀ z ∈ rds cs u, z ∈ F := fun u hu => (c.cl u hu).elim (fun z => by cases z) _root_.id
  induction h with
  | one h => exact cl _ (.inl rfl) _ h
  | more _ h ih => exact cl _ (.inr ih) _ h⟩
/-! ### .. by a row of those that wait, told when they are met -/
structure LT (cs : List (Str × Part)) (x : Str) (F W : List Str) : Prop where
  nd : F.Nodup
  fr : ∀ u ∈ F, Rch cs x u
  wr : ∀ u ∈ W, Rch cs x u
  c0 : ∀ z ∈ rds cs x, z ∈ F ∨ z ∈ W
  cl : ∀ u ∈ F, ∀ z ∈ rds cs u, z ∈ F ∨ z ∈ W
theorem LT.init : LT cs x [] (rds cs x) := ⟨List.nodup_nil, fun _ h => (by cases h), fun _ h => .one h, fun _ h => .inr h, fun _ h => (by cases h)⟩
theorem LT.len (c : LT cs x F W) : F.length ≤ 54 := cells_le54 c.nd fun u h => (c.fr u h).isC
theorem LT.skip (c : LT cs x F (y :: W)) (h : y ∈ F) : LT cs x F W := by
  have mv : ∀ {z}, z ∈ F ∨ z ∈ y :: W → z ∈ F ∨ z ∈ W := fun q => q.elim .inl fun q => (List.mem_cons.mp q).elim (fun e => .inl (e ▸ h)) .inr
  exact ⟨c.nd, c.fr, fun u hu => c.wr u (List.mem_cons_of_mem _ hu), fun z hz => mv (c.c0 z hz), fun u hu z hz => mv (c.cl u hu z hz)⟩
theorem LT.add (c : LT cs x F (y :: W)) (h : y ∉ F) : LT cs x (F ++ [y]) (W ++ rds cs y) := by
  have ry := c.wr y List.mem_cons_self
  have mv : ∀ {z}, z ∈ F ∨ z ∈ y :: W → z ∈ F ++ [y] ∨ z ∈ W ++ rds cs y := fun q => q.elim (fun q => .inl (List.mem_append_left _ q)) fun q => (List.mem_cons.mp q).elim (fun e => .inl (by simp [e])) fun q => .inr (List.mem_append_left _ q)
  refine ⟨?_, fun u hu => ?_, fun u hu => ?_, fun z hz => mv (c.c0 z hz), fun u hu z hz => ?_⟩
  · have e : addU F y = F ++ [y] := if_neg h
    exact e ▸ addU_nodup c.nd
  · rcases List.mem_append.mp hu with q | q
    · exact c.fr u q
    · exact List.mem_singleton.mp q ▸ ry
  · rcases List.mem_append.mp hu with q | q
    · exact c.wr u (List.mem_cons_of_mem _ q)
    · exact .more ry q
  · rcases List.mem_append.mp hu with q | q
    · exact mv (c.cl u q z hz)
    · rw [List.mem_singleton.mp q] at hz
      exact .inr (List.mem_append_right _ hz)
theorem LT.fin (c : LT cs x F []) : ∀ u, u ∈ F ↔ Rch cs x u := fun u => ⟨c.fr u, fun h => by
  induction h with
  | one h => exact (c.c0 _ h).elim _root_.id fun z => by cases z
  | more _ h ih => exact (c.cl _ ih _ h).elim _root_.id fun z => by cases z⟩
/-! ### values, round by round -/
def gets (ws : List (Str × Wo)) (y : Str) : Wo := (lk ws y).getD (.num 0)
structure RK (cs : List (Str × Part)) (ws : List (Str × Wo)) : Prop where
  sd : ∀ x a, lk ws x = some a → x ∈ ks cs ∧ a = wv cs x
  nd : (ks ws).Nodup
theorem RK.put {ws : List (Str × Wo)} (r : RK cs ws) (h : x ∈ ks cs) : RK cs (put ws x (wv cs x)) :=
  ⟨fun u a e => by
    rw [lk_put] at e
    by_cases q : x = u
    · rw [if_pos q] at e
      cases e
      subst q
      exact ⟨h, rfl⟩
    · rw [if_neg q] at e
      exact r.sd u a e, put_nodup r.nd⟩
/-- once all that a part reads is known, or empty, it comes to its value -/
theorem RK.eval {ws : List (Str × Wo)} {p : Part} (r : RK cs ws) (h : lk cs x = some p) (nr : ¬ Rch cs x x) (k : ∀ y ∈ rds cs x, y ∈ ks cs → y ∈ ks ws) : p.ev (gets ws) = wv cs x := by
  rw [wv_ev h nr]
  refine Part.ev_congr fun y hy => ?_
  unfold gets
  cases e : lk ws y with
  | some a => exact (r.sd y a e).2
  | none =>
    have ny : y ∉ ks cs := fun q => lk_none.mp e (k y ((mem_rds h).mpr hy) q)
    exact (wv_none (lk_none.mpr ny)).symm
/-- among those that are left one reads none of them -/
theorem ready_of {left : List Str} (hl : ∀ x ∈ left, x ∈ ks cs ∧ ¬ Rch cs x x) : ∀ (n : Nat) (x : Str), x ∈ left → msr cs x < n → ∃ z ∈ left, ∀ y ∈ rds cs z, y ∉ left
  | 0, _, _, h => absurd h (Nat.not_lt_zero _)
  | n + 1, x, hx, hn => by
    by_cases q : ∃ y ∈ rds cs x, y ∈ left
    · obtain ⟨y, hy, yl⟩ := q
      have := msr_lt (.one hy) (hl y yl).1 (hl y yl).2
      exact ready_of hl n y yl (by omega)
    · exact ⟨x, hx, fun y hy yl => q ⟨y, hy, yl⟩⟩
end
end U

namespace U
open PySem PySem.Spec L2 PyProof.Rows
section
variable {X : Cx} {ps : List (Addr × Obj)} {σ : L2.St} {H : Hp} {s : Shared}
/-- the scope of a generator expression over x that captures y of the def's scope -/
def GS (sc scope : Scope) (x y : Str) : Prop := scope.kind = .function ∧ scope.isCoroutine = false ∧ (∀ p ∈ scope.names, p.2 ≠ .cell) ∧ scope.names.lookup (".0" : Str) = some .local ∧ scope.names.lookup x = some .local ∧ scope.names.lookup y = some .free ∧ sc.names.lookup y = some .cell ∧
  ∀ p ∈ scope.names, p.2 = .free → sc.names.lookup p.1 = some .cell ∨ sc.names.lookup p.1 = some .free
instance (sc scope : Scope) (x y : Str) : Decidable (GS sc scope x y) := by unfold GS; infer_instance
/-- the generator at g over the texts ws stands ready: its truth at each turn is f of that text -/
def Rdy (X : Cx) (ps : List (Addr × Obj)) (σ : L2.St) (G : Hp) (P : Addr) (ws : List Str) (f : Str → Bool) (g : Addr) (t : Shared) : Prop :=
  ∃ (fp wr : List Addr) (M : Array GenState → Array GenState → Prop) (F : Nat → Value → Prop) (St : Nat → Shared → Prop), WalksS X.prog X.w X.A.in1 g fp wr M ws.length F St ∧ St 0 t ∧
    TruthOf X.prog X.w X.A.in1 F (fun j => (ws[j]?.map f).getD false) ∧ ∀ t', Moved wr M t t' → ∃ G2, GxR.Tabbed P G G2 ∧ Inv X ps σ G2 t'
theorem rdy_any (ws : List Str) (f : Str → Bool) : ((List.range ws.length).any fun j => (ws[j]?.map f).getD false) = ws.any f := by
  rw [Bool.eq_iff_iff, List.any_eq_true, List.any_eq_true]
  constructor
  · rintro ⟨j, hj, e⟩
    have lt := List.mem_range.mp hj
    rw [List.getElem?_eq_getElem lt] at e
    exact ⟨_, List.getElem_mem lt, e⟩
  · rintro ⟨b, hb, e⟩
    obtain ⟨j, lt, q⟩ := List.getElem_of_mem hb
    refine ⟨j, List.mem_range.mpr lt, ?_⟩
    rw [List.getElem?_eq_getElem lt, q]
    exact e
/-- z in y, where z is the turn's text and y a captured list of texts -/
theorem elt_in {prog : Program} {w : World} {A : Around} {E : Value → Shared → Prop} {ce : Env} {x y : Str} {p1 p2 p3 : Pos} {a : Str} {u : Tok} {t : Shared} {m : Str → Option Value} {cy L : Addr} {ls : List Str} {its : List Value}
    (kf : ce.scope.kind = .function) (lx : ce.scope.names.lookup x = some .local) (ly : ce.scope.names.lookup y = some .free) (hn : t.heap.Ns ce.locals m) (hm : m x = some (.str a u)) (hc : ce.cells.lookup y = some cy) (hv : t.heap.IsCell cy (some (.ref L)))
    (hl : t.heap.IsList L its.toArray) (rv : Vals (ls.map V.str) its) (dx : (x == ("__debug__" : Str)) = false) (dy : (y == ("__debug__" : Str)) = false) (cy0 : (y == ("__classdict__" : Str)) = false) :
    wpAny (model prog w) A (eval (.Compare (.Name x p1) [.In] [.Name y p2] p3) ce) (fun v t2 => v = .bool (decide (a ∈ ls)) ∧ Keeps t t2) E t := by
  refine wpAny_Compare1 (wpAny_Name (wpAny_loadName_local kf lx hn hm (wpAny_Name (wpAny_loadName_free kf ly hc hv ?_ cy0) dy)) dx)
  have rx : RelV (.str a) (.str a u) := ⟨u, rfl⟩
  refine SeqAt.in_listAt (eqU (.str a)) hl (fun z hz => mem_eqAt rx rfl rv (flat_strs ls) z (by simpa using hz)) ⟨?_, GxR.keeps_refl _⟩
  rw [show its.toArray.any (eqU (.str a)) = its.any (eqU (.str a)) by simp, any_eqU rv (flat_strs ls)]
  exact congrArg Value.bool (inS a ls)
theorem gen_in {c P : Addr} {iter : Expr} {x y : Str} {px p1 p2 p3 gpos : Pos} {scope : Scope} {i k : Nat} {te : TE} {Q' : Value → Shared → Prop} {R : List Str → List Str → Hp → Prop}
    (hr : Room k X.A) (TB : GxR.TabB X.base X.mg c P) (hcode : X.env.code = .ref c) (S : GS X.env.scope scope x y) (hyi : X.N[i]? = some y)
    (hi : PE X iter te) (hs : ∀ v, genFold iter X.env v = pure v) (dx : (x == ("__debug__" : Str)) = false) (dy : (y == ("__debug__" : Str)) = false) (cy0 : (y == ("__classdict__" : Str)) = false)
    (I : Inv X ps σ H s) (h : te σ H fun v G => ∃ (yl L : Addr) (ws ls : List Str), v = .ref yl ∧ σ[i]? = some (some (.ref L)) ∧ SqL X.K G yl (ws.map V.str) ∧ SqL X.K G L (ls.map V.str) ∧ GxR.TabG G P ∧ R ws ls G)
    (hQ : ∀ ws ls G g t, R ws ls G → Rdy X ps σ G P ws (fun a => decide (a ∈ ls)) g t → Q' (.ref g) t) :
    wpAny (model X.prog X.w) X.A (eval (.GeneratorExp (.Compare (.Name x p1) [.In] [.Name y p2] p3) [⟨.Name x px, iter, [], 0⟩] scope gpos) X.env) Q' X.xe s := by
  obtain ⟨S_kind, S_co, S_cell, S_dot, S_loc, hyf, hyc, S_fr⟩ := S
  have S_free : ∀ p ∈ scope.names, p.2 = .free → ∃ c, X.env.cells.lookup p.1 = some c := fun p hp e => (S_fr p hp e).elim (fun z => I.ok.has _ (.inl z)) fun z => I.ok.has _ (.inr z)
  refine wpAny_GeneratorExp_walksQ hr.hd S_co (closure_ok S_free) S_cell S_dot S_loc S_kind (by have := hr.dp; omega) (thn (hi.run ps s σ H _ I h) fun xv s1 ⟨v, G, J, r1, q1⟩ => ?_) hs
  obtain ⟨yl, L, ws, ls, rfl, hσ, hyl, hL, ⟨qs, hP, ht⟩, q1⟩ := q1
  obtain rfl : xv = Value.ref yl := r1
  obtain ⟨its, rv, hl, _⟩ := J.list hyl
  obtain ⟨jts, rw_, hl2, _⟩ := J.list hL
  have yL := hl.isList
  have LL := hl2.isList
  -- the captured list's cell
  obtain ⟨cy, hcy, hcell⟩ : ∃ cy, X.env.cells.lookup y = some cy ∧ s1.heap.IsCell cy (some (.ref L)) := by
    obtain ⟨m, _, hm⟩ := J.loc
    obtain ⟨u, ru, lo⟩ := hm i y _ hyi hσ (.inr (.inl hyc))
    obtain rfl : u = Value.ref L := ru
    rcases lo with ⟨z, _⟩ | ⟨_, q⟩
    · have z : X.env.scope.names.lookup y = some .local := z
      rw [hyc] at z
      cases z
    · exact q
  have hce : (cloFrom X.env.cells scope.names []).lookup y = some cy := NdefX.clo_has S_free (PySem.mem_of_lookup hyf) hcy
  have n2 : its.length = ws.length := by rw [← rv.length, List.length_map]
  have turn : ∀ (j : Nat) (v : Value), its.toArray[j]? = some v → ∃ (a : Str) (u : Tok), ws[j]? = some a ∧ v = .str a u := fun j v hv => by
    have h1 : its[j]? = some v := by simpa using hv
    have h2 : j < ws.length := n2 ▸ (List.getElem?_eq_some_iff.mp h1).1
    obtain ⟨a, ha⟩ : ∃ a, ws[j]? = some a := ⟨_, List.getElem?_eq_getElem h2⟩
    obtain ⟨u, hu, ru⟩ := rv.get (show (ws.map V.str)[j]? = some (V.str a) by rw [List.getElem?_map, ha] <;> rfl)
    rw [h1] at hu
    cases hu
    obtain ⟨t, e⟩ := (show ∃ t, v = Value.str a t from ru)
    exact ⟨a, t, ha, e⟩
  refine wpAny_pyIter_list yL ?_
  generalize ho : ({ cls := .type "list_iterator", data := .fields #[.ref yl, .int 0 0] } : Obj) = it
  have itS : (s1.heap.push it).IsListIter s1.heap.objs.size yl 0 := by subst ho; exact ⟨_, Heap.get?_push_size _ rfl, rfl, rfl⟩
  have lt_of : ∀ {b : Addr} {l : Array Value}, s1.heap.IsList b l → b < s1.heap.objs.size := fun z => let ⟨_, e, _⟩ := z; Heap.lt_size e
  have P1 := J.hok P _ hP
  have Plt := Heap.lt_size P1
  have P2 := Heap.get?_push_of_some it P1
  have code2 : PySem.W.CodeHd (s1.heap.push it) c P := TB.code.keeps fun b u e => Heap.get?_push_of_some _ (J.bk b u e)
  have lim := J.nolimit.push it
  have sz : (s1.heap.push it).objs.size = s1.heap.objs.size + 1 := Heap.size_push ..
  have nP : ∀ {b : Addr} {o : Obj}, s1.heap.get? b = some o → (∀ z, o.data ≠ .fields z) → b ≠ P := fun {b o} e n z => by
    rw [z] at e
    have := (Option.some.inj (P1.symm.trans e))
    subst this
    exact n _ rfl
  have rest : ∀ (code : Value) (h3 : Heap) (tk : Nat) (rs : Array Value), Heap.ExtBut P (s1.heap.push it) h3 → (s1.heap.push it).objs.size ≤ h3.objs.size → h3.get? P = some { cls := .none, data := .fields rs } → (∃ more, rs = qs ++ more) → TriplesOk rs.toList →
      wpAny (model X.prog X.w) X.A (builtinsFor X.env.globals X.env.builtins) (fun bi s4 => ∃ Ia fp wr n0 Pf St0 pz F, Value.ref s1.heap.objs.size = .ref Ia ∧ (∀ A' : Around, A'.handled = none → Walks X.prog X.w A' Ia fp wr n0 Pf St0) ∧ St0 0 s4.heap ∧ (∀ b ∈ fp, b < s4.heap.objs.size) ∧ s4.heap.NoLimit ∧ cStatics ∉ wr ∧
          (∀ hh : Heap, (∀ b o, s4.heap.get? b = some o → hh.get? b = some o) → QuietGen X.prog X.w (genEnv scope (cloFrom X.env.cells scope.names []) s4.heap.objs.size code bi X.env) x [] (.Compare (.Name x p1) [.In] [.Name y p2] p3) (List.range s4.heap.objs.size) wr Pf pz F hh) ∧
          (∀ a h5 tk gs, gs.bare = true → s4.heap.objs.size < a → h5.objs.size = a + 1 → (∀ b o, s4.heap.get? b = some o → h5.get? b = some o) → WalksS X.prog X.w X.A.in4 a (a :: s4.heap.objs.size :: List.range s4.heap.objs.size) (s4.heap.objs.size :: wr) (GenOnlyQ s4.gens.size) (passing pz n0 0).length
              (fun j y => ∃ i, (passing pz n0 0)[j]? = some i ∧ F i y) (GenAt X.prog X.w X.A.in4 a s4.gens.size s4.heap.objs.size (List.range s4.heap.objs.size) wr pz n0 F) →
            GenAt X.prog X.w X.A.in4 a s4.gens.size s4.heap.objs.size (List.range s4.heap.objs.size) wr pz n0 F 0 { s4 with gens := s4.gens.push gs, toks := tk, heap := h5 } → Q' (.ref a) { s4 with gens := s4.gens.push gs, toks := tk, heap := h5 })) X.xe { s1 with heap := h3, toks := tk } := by
    intro code h3 tk rs hx hsz hP3 hmore ht3
    obtain ⟨bm, ob, e1, e2, e3, e4, e5, e6, e7, e8⟩ := TB.bm
    obtain ⟨_, ⟨o9, es9, ep9, ho9, hd9, r9⟩, l9⟩ := J.nolimit
    have cP : cStatics ≠ P := nP ho9 fun z e => by rw [hd9] at e; cases e
    have cl : cStatics < s1.heap.objs.size := Heap.lt_size ho9
    have up3 : ∀ b u, b ≠ P → s1.heap.get? b = some u → h3.get? b = some u := fun b u hb e => hx b u hb (Heap.get?_push_of_some _ e)
    have lst3 : ∀ {b : Addr} {l : Array Value}, s1.heap.IsList b l → h3.IsList b l := fun {b l} ⟨o, e, a1, n, a2⟩ => ⟨o, up3 _ _ (nP e fun z q => by rw [a2] at q; cases q) e, a1, n, a2⟩
    refine wpAny_builtinsFor (m := X.mg) (by rw [J.ok.glob]; exact ((J.mod.glob.keeps J.bk).push it).extBut hx TB.gP) e1 e2 (up3 _ _ e4 (J.bk _ _ e5)) e6 e7 e8 ?_
    refine ⟨_, [s1.heap.objs.size, yl], [s1.heap.objs.size], its.toArray.size, (fun i v => its.toArray[i]? = some v), (fun i h => h.IsListIter s1.heap.objs.size yl i ∧ h.IsList yl its.toArray), (fun _ => true), (fun i v => ∃ a, ws[i]? = some a ∧ v = .bool (decide (a ∈ ls))), rfl,
      (fun A' hA => Walks.list hA _ _ (Nat.ne_of_lt (lt_of yL)) _), ⟨itS.at fun u e => hx _ u (Nat.ne_of_gt Plt) e, lst3 yL⟩, ?_, lim.extBut hx cP, ?_, ?_, ?_⟩
    · intro b hb
      have h6 : s1.heap.objs.size < h3.objs.size := by omega
      rcases List.mem_cons.mp hb with z | z
      · exact z ▸ h6
      · rw [List.mem_singleton.mp z]
        exact Nat.lt_trans (lt_of yL) h6
    · intro z
      exact Nat.ne_of_lt cl (List.mem_singleton.mp z)
    · intro hh hhr
      refine ⟨fun A' E' j v t m hA hv hn hm hk => ?_, fun A' E' j v t m hA hv hp hn hm hk => ?_⟩
      · simp only [List.forIn_nil]
        exact wpAny_pure ⟨rfl, GxR.keeps_refl _⟩
      obtain ⟨a, u, ha, rfl⟩ := turn j v hv
      have stay : ∀ b o, b < s1.heap.objs.size → h3.get? b = some o → t.heap.get? b = some o := fun b o hb e => hk b (List.mem_range.mpr (Nat.lt_of_lt_of_le hb (by show s1.heap.objs.size ≤ h3.objs.size; omega))) (fun z => Nat.ne_of_lt hb (List.mem_singleton.mp z)) o (hhr b o e)
      have lstT : t.heap.IsList L jts.toArray := by
        obtain ⟨o, e, r⟩ := lst3 LL
        exact ⟨o, stay _ _ (lt_of LL) e, r⟩
      have celT : t.heap.IsCell cy (some (.ref L)) := by
        obtain ⟨o, e, r⟩ := hcell
        exact ⟨o, stay _ _ (Heap.lt_size e) (up3 _ _ (nP e fun z q => by rw [r] at q; cases q) e), r⟩
      refine wpAny_mono (elt_in (ce := genEnv scope (cloFrom X.env.cells scope.names []) h3.objs.size code _ X.env) (A := A') (E := E') S_kind S_loc hyf hn hm hce celT lstT rw_ dx dy cy0) (fun v t2 r => ⟨⟨a, ha, r.1⟩, r.2⟩) fun _ _ e => e
    · intro g h5 tk5 gs hgb hag hsz5 hk5 W5 hat
      simp only [GxR.passing_true, List.length_range] at W5
      have n5 : its.toArray.size = ws.length := by rw [List.size_toArray, n2]
      rw [n5] at W5 hat
      refine hQ ws ls G g _ q1 ⟨_, _, _, _, _, W5.in4_1, hat, ?_, fun t' hm => ?_⟩
      · rintro j v sj Qj Ej ⟨i2, hij, a, ha, rfl⟩ hq
        obtain ⟨hj, ej⟩ := List.getElem?_eq_some_iff.mp hij
        rw [List.getElem_range] at ej
        subst ej
        have hq : Qj ((ws[j]?.map fun a => decide (a ∈ ls)).getD false) sj := hq
        rw [ha] at hq
        exact wpAny_truthy_bool hq
      · obtain ⟨more, em⟩ := hmore
        have off : ∀ b u, s1.heap.get? b = some u → b ∉ h3.objs.size :: [s1.heap.objs.size] := fun b u e hb => by
          have lt := Heap.lt_size e
          have h6 : s1.heap.objs.size < h3.objs.size := by omega
          rcases List.mem_cons.mp hb with z | z
          · have z : b = h3.objs.size := z
            rw [z] at lt
            exact Nat.lt_asymm h6 lt
          · rw [List.mem_singleton.mp z] at lt
            exact Nat.lt_irrefl _ lt
        have K1 := GxR.inv_tab (more := more) (h' := t'.heap) (g' := t'.gens) (d' := t'.drawn) (t' := t'.toks) J hP (fun b u hb e => hm.heap b u (off b u e) (hk5 b u (up3 b u hb e))) (by rw [← em]; exact hm.heap P _ (off P _ P1) (hk5 P _ hP3)) (AllBare.movedS (J.bare.push hgb) hm)
        rw [GxR.sh_eta s1 t' hm.os] at K1
        exact ⟨upd G P (.tbl (qs ++ more)), ⟨⟨_, upd_same, by rw [← em]; exact ht3⟩, fun b hb => upd_ne hb⟩, K1⟩
  refine ⟨lim, ?_⟩
  cases hf : codeAmong gpos qs.toList with
  | some cv => exact wpAny_genexprCode_hit hcode (code2.code P2 ht) hf (rest cv _ s1.toks qs (Heap.ExtBut.refl _ _) (Nat.le_refl _) P2 ⟨#[], by simp⟩ ht)
  | none =>
    refine wpAny_genexprCodeX hcode (code2.code P2 ht) (code2.tab P2) hf fun c' h' tk hx hge hlt hco' _ htab' _ => ?_
    obtain ⟨o1, vs, f1, tf, fl, tg, inF, tx, tt, op, _, _, _, _, _, _, _, _, _, htr, _⟩ := hco'
    exact rest _ h' tk _ hx (Nat.le_trans hge (Nat.le_of_lt hlt)) htab'.2 ⟨_, rfl⟩ htr
/-- any(x in y for x in e): e a list of texts, y a captured one; behind it the def's table may have grown -/
def tAnyIn (K : PySem.W.Frag) (P : Addr) (i : Nat) (te : TE) : TE := fun σ H Q => te σ H fun v G => ∃ (yl L : Addr) (ws ls : List Str), v = .ref yl ∧ σ[i]? = some (some (.ref L)) ∧ SqL K G yl (ws.map V.str) ∧ SqL K G L (ls.map V.str) ∧ GxR.TabG G P ∧
  ∀ G2, GxR.Tabbed P G G2 → Q (.bl (ws.any fun a => decide (a ∈ ls))) G2
theorem pe_anyIn {c P : Addr} {iter : Expr} {x y : Str} {px p p1 p2 p3 pos gpos : Pos} {scope : Scope} {i k : Nat} {te : TE}
    (hr : Room k X.A) (hg : Gl X "any") (hm : X.mg "any" = none) (TB : GxR.TabB X.base X.mg c P) (hcode : X.env.code = .ref c) {sc : Scope} (hsc : X.env.scope = sc) (S : GS sc scope x y) (hyi : X.N[i]? = some y)
    (hi : PE X iter te) (hs : ∀ v, genFold iter X.env v = pure v := by intro _; rfl) (dx : (x == ("__debug__" : Str)) = false := by decide) (dy : (y == ("__debug__" : Str)) = false := by decide) (cy0 : (y == ("__classdict__" : Str)) = false := by decide)
    (he : starEach [.GeneratorExp (.Compare (.Name x p1) [.In] [.Name y p2] p3) [⟨.Name x px, iter, [], 0⟩] scope gpos] X.env = (false, eval (.GeneratorExp (.Compare (.Name x p1) [.In] [.Name y p2] p3) [⟨.Name x px, iter, [], 0⟩] scope gpos) X.env) :: starEach [] X.env := by rfl) :
    PE X (.Call (.Name "any" p) [.GeneratorExp (.Compare (.Name x p1) [.In] [.Name y p2] p3) [⟨.Name x px, iter, [], 0⟩] scope gpos] [] pos) (tAnyIn X.K P i te) := by
  refine ⟨fun ps s σ H Q I h => wpAny_Call_Name_kw (ld_blt I hg hm boot_any (PyProof.Rows.callWith_builtin1 ?_ he (by rfl)))⟩
  rw [he]
  show wpAny _ _ (spliced ((false, eval (.GeneratorExp (.Compare (.Name x p1) [.In] [.Name y p2] p3) [⟨.Name x px, iter, [], 0⟩] scope gpos) X.env) :: backTo pos (starEach [] X.env))) _ _ s
  refine Calls.spliced_cons (gen_in (R := fun ws ls G => ∀ G2, GxR.Tabbed P G G2 → Q (.bl (ws.any fun a => decide (a ∈ ls))) G2) hr TB hcode (hsc ▸ S) hyi hi hs dx dy cy0 I h fun ws ls G g t hR hG => ?_)
  obtain ⟨fp, wr, M, F, St, W, hst, htr, hI⟩ := hG
  refine Calls.spliced_nil (call_any_walkS (W.self 0 _ _ _ hst ⟨g, fp, wr, M, _, F, St, _, rfl, W, hst, htr, fun t' hmv => ?_⟩))
  obtain ⟨G2, hT, J⟩ := hI t' hmv
  refine ⟨.bl _, G2, J, rfl, ?_⟩
  rw [rdy_any ws fun a => decide (a ∈ ls)]
  exact hR G2 hT
end
end U

namespace U
open PySem PySem.Spec L2 PyProof.Rows
/-! ### a def whose code object is told -/
structure FunC (K : PySem.W.Frag) (x qual : Str) (st : Stmt) (f c : Addr) (fd : FuncData) : Prop where
  ex : ∃ (oc : Value) (od : Option Addr) (kV doc pm : Value) (an : Option Addr) (ct : Value) (osl : Array (Option Value)), fd = PySem.W.fnOf x qual (defArgs st) (defBody st) (defScope st) .none kV doc pm an (.ref c) ct ∧ K.lookup f = some ⟨oc, od, .func fd, osl⟩ ∧ PySem.W.codeIn K (.ref c) qual = true
  kp : PySem.W.keepIn K (.ref f) = true
section
variable {P : Program} {w : World} {K : PySem.W.Frag} {mg : Str → Option Value} {base : Heap} {x qual : Str} {st : Stmt} {f c : Addr} {fd : FuncData} {N ps : List Str} {k : Nat} {sp : Sp}
theorem FunC.ok (F : FunC K x qual st f c fd) (S : FnScope N ps (defScope st)) (len : ∀ vs H Q E, sp vs H Q E → vs.length = ps.length)
    (hb : ∀ (A : Around) (outer : List Env) (s : Shared) (H : Hp) (vs : List V) (Q : VK) (E : XK), Room k (A.deeper (envOfC qual (defScope st) s.heap.objs.size f (.ref c))) → sp vs H Q E →
      ∃ t, PSs (cxOf CX0 P w K mg base N qual (defScope st) f (.ref c) A outer s H E).nox (defBody st) t ∧ t { nx := fun _ H' => Q .non H', rt := Q } (L2.start N vs) H) : FnOk P w K mg base CX0 (k + 1) f fd ps sp := by
  obtain ⟨oc, od, kV, doc, pm, an, ct, osl, rfl, lk, hcd⟩ := F.ex
  exact fn_of lk hcd S len fun A outer s H vs Q E hr h => let ⟨t, a, b⟩ := hb A outer s H vs Q E hr h; ⟨t, a.nox, b⟩
theorem funC_mk {oc : Value} {od an : Option Addr} {osl : Array (Option Value)} {kV doc pm ct : Value} (l : K.lookup f = some ⟨oc, od, .func (PySem.W.fnOf x qual (defArgs st) (defBody st) (defScope st) .none kV doc pm an (.ref c) ct), osl⟩)
    (h : PySem.W.codeIn K (.ref c) qual = true) (kp : PySem.W.keepIn K (.ref f) = true) : FunC K x qual st f c (PySem.W.fnOf x qual (defArgs st) (defBody st) (defScope st) .none kV doc pm an (.ref c) ct) := ⟨⟨oc, od, kV, doc, pm, an, ct, osl, rfl, l, h⟩, kp⟩
end
/-- the tables of all defs of the text are empty at its end -/
theorem walk_tabs {l : PySem.W.OpenLaw} {n k : Nat} {q : Program} {loose : List Str} {XP : (Str → Option Value) → Heap → Prop} {YP : World → Heap → Prop} {d : DefRec} {K : Params → PySem.W.Frag} {CX : World → CXT} {x : Str}
    (hn : l.most = some n) (hn2 : n ≤ sizeLine) (hdf : d.params.defaults = []) (hr : Room k callerA) (hY : ∀ (w : World) (h : Heap), YP w h → (K w.params).In h)
    (F : ∀ (w : World) (mg : Str → Option Value) (fa : Addr) (h : Heap), YP w h → (K w.params).In h → h.Ns mainGlobals mg → mg d.name = some (.ref fa) → (∀ (nm : Str) (g : Addr), ((recsOf q).any fun e => e.name == nm) = true → mg nm = some (.ref g) → LamX.OwnTab (K w.params) g h) → LamX.LawAtS l w (K w.params) (CX w) k n x mg fa h)
    (hCX : ∀ (w : World) (H : Hp) (s : Shared) (e : Value) (s' : Shared), CX w [] H s (fun _ _ _ => False) e s' → False) : PySem.W.WalkO q loose XP YP l.row.toRowW d [] (fun f vs => PySem.call f vs) := by
  refine Att.attach_callB hn hdf fun w s₀ s₁ mg mb fa o pm cd doc a vs ns G Y ho hd hcd hmg hobj hints hlen hbits hg => ?_
  have KX := hY w _ Y
  have own : ∀ (nm : Str) (g : Addr), ((recsOf q).any fun e => e.name == nm) = true → mg nm = some (.ref g) → LamX.OwnTab (K w.params) g s₁.heap := by
    intro nm g hrec hmg2 c P o1 fd1 e dd vs1 sl k1 k2 k3 k4 k5
    obtain ⟨dL, hm, hn1⟩ := List.any_eq_true.mp hrec
    obtain ⟨ga, go, gd, gc, gP, h1, h2, h3, h4, _, ⟨⟨oc, vc, e1, _, e3, e4⟩, hP⟩⟩ := G.T.tab dL hm
    rw [beq_iff_eq.mp hn1, hmg2] at h1
    cases h1
    have g1 := KX _ _ k1
    have g2 := KX _ _ k4
    rw [g1] at h2
    cases h2
    rw [k2] at h3
    cases h3
    rw [k3] at h4
    cases h4
    rw [g2] at e1
    cases e1
    cases e3
    rw [k5] at e4
    cases e4
    exact hP
  obtain ⟨fd, cs, sp, hT, nT, C, hb, hsp, hF⟩ := F w mg fa _ Y KX G.T.g hmg own
  exact LamX.law_callTs KX G.T.g G.T.b G.T.builtins G.T.nolimit hg hT nT C G.T.bmain hobj hints (Nat.le_trans hlen hn2) hr hF hb (fun H hH hS => hsp H a ns hlen hbits hH hS) fun H e s' => hCX w H s₁ e s'
/-! ### tables on the heap beside lists of pairs -/
section
variable {α β : Type}
def Al (R : α → V → Prop) : List (Str × α) → List (Key × V) → Prop
  | [], [] => True
  | (x, a) :: r, (k, v) :: s => k = Sum.inr x ∧ R a v ∧ Al R r s
  | _, _ => False
variable {R R' : α → V → Prop}
theorem Al.mono (h : ∀ a v, R a v → R' a v) : ∀ {cs : List (Str × α)} {kvs : List (Key × V)}, Al R cs kvs → Al R' cs kvs
  | [], [], _ => trivial
  | _ :: _, _ :: _, ⟨e, r, t⟩ => ⟨e, h _ _ r, Al.mono h t⟩
theorem Al.len : ∀ {cs : List (Str × α)} {kvs : List (Key × V)}, Al R cs kvs → kvs.length = cs.length
  | [], [], _ => rfl
  | _ :: _, _ :: _, ⟨_, _, t⟩ => by simp [Al.len t]
theorem Al.keys : ∀ {cs : List (Str × α)} {kvs : List (Key × V)}, Al R cs kvs → kvs.map (·.1) = (ks cs).map Sum.inr
  | [], [], _ => rfl
  | _ :: _, _ :: _, ⟨e, _, t⟩ => by
    have := Al.keys t
    simp only [List.map_cons, ks] at this ⊢
    rw [this, e]
theorem Al.get : ∀ {cs : List (Str × α)} {kvs : List (Key × V)} {i : Nat} {k : Key} {v : V}, Al R cs kvs → kvs[i]? = some (k, v) → ∃ x a, cs[i]? = some (x, a) ∧ k = Sum.inr x ∧ R a v
  | [], [], i, _, _, _, h => by simp at h
  | (x, a) :: _, (k', v') :: _, 0, k, v, ⟨e, r, _⟩, h => by
    simp only [List.getElem?_cons_zero, Option.some.injEq, Prod.mk.injEq] at h
    exact ⟨x, a, rfl, h.1 ▸ e, h.2 ▸ r⟩
  | _ :: _, _ :: _, i + 1, k, v, ⟨_, _, t⟩, h => Al.get (i := i) t (by simpa using h)
theorem Al.val : ∀ {cs : List (Str × α)} {kvs : List (Key × V)}, Al R cs kvs → ∀ x : Str, (lk cs x = none ∧ valV kvs (Sum.inr x) = none) ∨ ∃ a v, lk cs x = some a ∧ valV kvs (Sum.inr x) = some v ∧ R a v
  | [], [], _, x => .inl ⟨rfl, rfl⟩
  | (y, a) :: r, (k, v) :: s, ⟨e, q, t⟩, x => by
    subst e
    by_cases h : y = x
    · subst h
      exact .inr ⟨a, v, by rw [lk_cons, if_pos rfl], valV_pos rfl, q⟩
    · have h2 : ¬ (Sum.inr y : Key) = Sum.inr x := fun z => h (Sum.inr.inj z)
      rw [lk_cons, if_neg h, valV_neg (p := (Sum.inr y, v)) h2]
      exact Al.val t x
theorem Al.some {cs : List (Str × α)} {kvs : List (Key × V)} {x : Str} {a : α} (h : Al R cs kvs) (e : lk cs x = some a) : ∃ v, valV kvs (Sum.inr x) = some v ∧ R a v := by
  rcases h.val x with ⟨q, _⟩ | ⟨a', v, q, q2, q3⟩
  · rw [e] at q; cases q
  · rw [e] at q; cases q; exact ⟨v, q2, q3⟩
theorem Al.none {cs : List (Str × α)} {kvs : List (Key × V)} {x : Str} (h : Al R cs kvs) (e : lk cs x = none) : valV kvs (Sum.inr x) = none := by
  rcases h.val x with ⟨_, q⟩ | ⟨a', v, q, q2, q3⟩
  · exact q
  · rw [e] at q; cases q
theorem Al.isSome {cs : List (Str × α)} {kvs : List (Key × V)} (h : Al R cs kvs) (x : Str) : (valV kvs (Sum.inr x)).isSome = decide (x ∈ ks cs) := by
  rw [← lk_isSome]
  rcases h.val x with ⟨q, q2⟩ | ⟨a', v, q, q2, q3⟩
  · rw [q, q2] <;> rfl
  · rw [q, q2] <;> rfl
theorem Al.app {a : α} {v : V} {x : Str} (r : R a v) : ∀ {cs : List (Str × α)} {kvs : List (Key × V)}, Al R cs kvs → Al R (cs ++ [(x, a)]) (kvs ++ [(Sum.inr x, v)])
  | [], [], _ => ⟨rfl, r, trivial⟩
  | _ :: _, _ :: _, ⟨e, q, t⟩ => ⟨e, q, Al.app r t⟩
theorem Al.upd {a : α} {v : V} {x : Str} (r : R a v) : ∀ {cs : List (Str × α)} {kvs : List (Key × V)}, Al R cs kvs → Al R (cs.map fun e => if e.1 = x then (e.1, a) else e) (kvs.map fun kv => if kv.1 = Sum.inr x then (kv.1, v) else kv)
  | [], [], _ => trivial
  | (y, b) :: cs, (k, u) :: kvs, ⟨e, q, t⟩ => by
    subst e
    rw [List.map_cons, List.map_cons]
    by_cases h : y = x
    · subst h
      rw [if_pos rfl, if_pos rfl]
      exact ⟨rfl, r, Al.upd r t⟩
    · rw [if_neg h, if_neg fun z => h (Sum.inr.inj z)]
      exact ⟨rfl, q, Al.upd r t⟩
theorem Al.put {cs : List (Str × α)} {kvs : List (Key × V)} {a : α} {v : V} {x : Str} (h : Al R cs kvs) (r : R a v) : Al R (put cs x a) (putK kvs (Sum.inr x) v) := by
  have e : (kvs.any fun kv => decide (kv.1 = Sum.inr x)) = (cs.any fun e => decide (e.1 = x)) := by
    rw [valV_any, any_ks]
    exact h.isSome x
  unfold U.put putK
  rw [e]
  by_cases q : (cs.any fun e => decide (e.1 = x)) = true
  · rw [if_pos q, if_pos q]
    exact Al.upd r h
  · rw [if_neg q, if_neg q]
    exact Al.app r h
theorem DGet.s {H : Hp} {d : Addr} {kvs : List (Key × V)} {x : Str} (h : Rd H d (.dK kvs)) : DGet H d (.str x) (valV kvs (Sum.inr x)) := .inl ⟨kvs, Sum.inr x, h, rfl, rfl⟩
theorem DPut.s {H : Hp} {d : Addr} {kvs : List (Key × V)} {x : Str} {v : V} (h : H d = some (.dK kvs)) (n : kvs.length < sizeLine) : DPut H d (.str x) v (L2.upd H d (.dK (putK kvs (Sum.inr x) v))) := DPut.k (k := Sum.inr x) h n
end
/-! ### heaps -/
theorem Same.rd {H H' : Hp} (s : Same H H') {d : Addr} {u : HO} (h : Rd H d u) : Rd H' d u := h.elim (fun e => .inl (s _ _ e)) fun ⟨o, e⟩ => .inr ⟨o, s _ _ e⟩
theorem Keep.rd {b l : Addr} {H H' : Hp} (s : Keep b l H H') {d : Addr} {u : HO} (h : Rd H d u) (n1 : d ≠ b) (n2 : d ≠ l) : Rd H' d u := h.elim (fun e => .inl (s _ _ e n1 n2)) fun ⟨o, e⟩ => .inr ⟨o, s _ _ e n1 n2⟩
theorem Keep.tk {K : PySem.W.Frag} {b l : Addr} {H H' : Hp} {u v : HO} (s : Keep b l H H') (hb : H b = some u) (hl : H l = some v) (nu : ∀ xs, u ≠ .tup xs ∧ ∀ o ys, u ≠ .frz o (.tup ys)) (nv : ∀ xs, v ≠ .tup xs ∧ ∀ o ys, v ≠ .frz o (.tup ys)) : Tk K H H' := fun a xs h => by
  rcases h with (h | ⟨o, h⟩) | h
  · exact .inl (.inl (s _ _ h (ne_of h hb fun e => (nu xs).1 e.symm) (ne_of h hl fun e => (nv xs).1 e.symm)))
  · exact .inl (.inr ⟨o, s _ _ h (ne_of h hb fun e => (nu xs).2 o xs e.symm) (ne_of h hl fun e => (nv xs).2 o xs e.symm)⟩)
  · exact .inr h
theorem tk_upd {K : PySem.W.Frag} {H : Hp} {d : Addr} {u v : HO} (h : H d = some u) (n : ∀ xs, u ≠ .tup xs ∧ ∀ o ys, u ≠ .frz o (.tup ys)) : Tk K H (upd H d v) :=
  Keep.tk (b := d) (l := d) (fun c o e n1 _ => by rw [upd_ne n1]; exact e) h h n n
theorem nt_dK {kvs : List (Key × V)} : ∀ xs, HO.dK kvs ≠ .tup xs ∧ ∀ o ys, HO.dK kvs ≠ .frz o (.tup ys) := fun xs => ⟨fun z => (by cases z), fun o ys z => (by cases z)⟩
theorem nt_lst {l : List V} : ∀ xs, HO.lst l ≠ .tup xs ∧ ∀ o ys, HO.lst l ≠ .frz o (.tup ys) := fun xs => ⟨fun z => (by cases z), fun o ys z => (by cases z)⟩
theorem nt_tbl {l : Array Value} : ∀ xs, HO.tbl l ≠ .tup xs ∧ ∀ o ys, HO.tbl l ≠ .frz o (.tup ys) := fun xs => ⟨fun z => (by cases z), fun o ys z => (by cases z)⟩
theorem nt_frz {o : Obj} {kvs : List (Key × V)} : ∀ xs, HO.frz o (.dK kvs) ≠ .tup xs ∧ ∀ o' ys, HO.frz o (.dK kvs) ≠ .frz o' (.tup ys) := fun xs => ⟨fun z => (by cases z), fun o ys z => (by cases z)⟩
theorem Keep.put {b l c : Addr} {H : Hp} {o : HO} (h : c = b ∨ c = l) : Keep b l H (upd H c o) := fun a u e n1 n2 => by
  rw [upd_ne (by rintro rfl; exact h.elim n1 n2)]
  exact e
/-- what a lock hides and gives back -/
theorem unlock_same {H H2 : Hp} {d : Addr} {u f : HO} (h : H d = some u) (s : Same (upd H d f) H2) : Same H (upd H2 d u) := fun c o e => by
  by_cases q : c = d
  · subst q
    rw [h] at e
    cases e
    exact upd_same
  · rw [upd_ne q]
    exact s c o (by rw [upd_ne q]; exact e)
theorem unlock_keep {b l : Addr} {H H2 : Hp} {d : Addr} {u f : HO} (h : H d = some u) (s : Keep b l (upd H d f) H2) : Keep b l H (upd H2 d u) := fun c o e n1 n2 => by
  by_cases q : c = d
  · subst q
    rw [h] at e
    cases e
    exact upd_same
  · rw [upd_ne q]
    exact s c o (by rw [upd_ne q]; exact e) n1 n2
theorem Tabbed.keep {P : Addr} {H H' : Hp} (t : GxR.Tabbed P H H') : Keep P P H H' := fun c o e n _ => by rw [t.2 c n]; exact e
/-! ### values as they lie -/
def WA (K : PySem.W.Frag) (H : Hp) : Wo → V → Prop
  | .num n, v => v = .int n
  | .ring, v => ∃ a, v = .ref a ∧ SqT K H a [.str "odd", .str "ring"]
  | .wide, v => ∃ a, v = .ref a ∧ SqT K H a [.str "odd", .str "wide"]
theorem WA.tk {K : PySem.W.Frag} {H H' : Hp} (t : Tk K H H') : ∀ {x : Wo} {v : V}, WA K H x v → WA K H' x v
  | .num _, _, h => h
  | .ring, _, ⟨a, e, h⟩ => ⟨a, e, t _ _ h⟩
  | .wide, _, ⟨a, e, h⟩ => ⟨a, e, t _ _ h⟩
def Wo.odd : Wo → Bool
  | .num _ => false
  | _ => true
def Wo.dat : Wo → PyData
  | .num n => .int n
  | .ring => .tuple [.str "odd", .str "ring"]
  | .wide => .tuple [.str "odd", .str "wide"]
theorem WA.dp {K : PySem.W.Frag} {H : Hp} : ∀ {x : Wo} {v : V}, WA K H x v → Dp K H v x.dat
  | .num n, _, h => by cases h; exact .int n
  | .ring, _, ⟨a, e, h⟩ => by cases e; exact .tup h (.cons (.str _) (.cons (.str _) .nil))
  | .wide, _, ⟨a, e, h⟩ => by cases e; exact .tup h (.cons (.str _) (.cons (.str _) .nil))
theorem Wo.dat_ok (x : Wo) : PyData.depth x.dat < 3 ∧ szOk x.dat = true := by
  cases x with
  | num n => exact ⟨by show (0 : Nat) < 3; decide, rfl⟩
  | ring => exact ⟨by show PyData.depth (PyData.tuple [.str "odd", .str "ring"]) < 3; simp [PyData.depth, PyData.depthAll], by simp [Wo.dat, szOk, szAll]⟩
  | wide => exact ⟨by show PyData.depth (PyData.tuple [.str "odd", .str "wide"]) < 3; simp [PyData.depth, PyData.depthAll], by simp [Wo.dat, szOk, szAll]⟩
/-- what is asked of contents -/
structure CsOk (cs : List (Str × Part)) : Prop where
  nd : (ks cs).Nodup
  ce : ∀ x ∈ ks cs, isC x
  gd : ∀ e ∈ cs, e.2.good ∧ e.2.hgt ≤ 5
theorem CsOk.len {cs : List (Str × Part)} (c : CsOk cs) : cs.length ≤ 54 := by
  have := cells_le54 c.nd c.ce
  unfold ks at this
  rwa [List.length_map] at this
theorem CsOk.ok {cs : List (Str × Part)} (c : CsOk cs) (x : Str) : (wv cs x).ok := wv_ok (fun e h => (c.gd e h).1) x
/-- the dict at d reads as cs, its contents as they lie -/
def Con (K : PySem.W.Frag) (H : Hp) (d : Addr) (cs : List (Str × Part)) : Prop := ∃ kvs, Rd H d (.dK kvs) ∧ Al (PA K H) cs kvs
/-- .. as values -/
def Vas (K : PySem.W.Frag) (H : Hp) (d : Addr) (ws : List (Str × Wo)) : Prop := ∃ kvs, Rd H d (.dK kvs) ∧ Al (WA K H) ws kvs
theorem Con.same {K : PySem.W.Frag} {H H' : Hp} {d : Addr} {cs : List (Str × Part)} (s : Same H H') (h : Con K H d cs) : Con K H' d cs := let ⟨k, a, b⟩ := h; ⟨k, Same.rd s a, b.mono fun _ _ q => PA.tk (Tk.same s) q⟩
theorem Vas.same {K : PySem.W.Frag} {H H' : Hp} {d : Addr} {cs : List (Str × Wo)} (s : Same H H') (h : Vas K H d cs) : Vas K H' d cs := let ⟨k, a, b⟩ := h; ⟨k, Same.rd s a, b.mono fun _ _ q => WA.tk (Tk.same s) q⟩
theorem Con.keep {K : PySem.W.Frag} {b l : Addr} {H H' : Hp} {d : Addr} {cs : List (Str × Part)} (s : Keep b l H H') (t : Tk K H H') (n1 : d ≠ b) (n2 : d ≠ l) (h : Con K H d cs) : Con K H' d cs := let ⟨k, a, q⟩ := h; ⟨k, Keep.rd s a n1 n2, q.mono fun _ _ q => PA.tk t q⟩
theorem Vas.keep {K : PySem.W.Frag} {b l : Addr} {H H' : Hp} {d : Addr} {cs : List (Str × Wo)} (s : Keep b l H H') (t : Tk K H H') (n1 : d ≠ b) (n2 : d ≠ l) (h : Vas K H d cs) : Vas K H' d cs := let ⟨k, a, q⟩ := h; ⟨k, Keep.rd s a n1 n2, q.mono fun _ _ q => WA.tk t q⟩
/-! ### two dicts of the same entries, all of them objects -/
theorem hits_refs {A : Around} {s : Shared} {kvs : List (Key × V)} {vb : List (Key × Value)} (rb : KV kvs vb) {es : List (Key × V)} {va : List (Key × Value)} (ra : KV es va) :
    (∀ p ∈ es, valV kvs p.1 = some p.2 ∧ ∃ a, p.2 = .ref a) → PySem.W.KeqHits A s vb va true := by
  unfold KV at ra
  induction ra with
  | nil => exact fun _ => .nil
  | @cons p q pr qr h t ih =>
    intro hp
    obtain ⟨e, a, ea⟩ := hp p List.mem_cons_self
    obtain ⟨y, hy, ry⟩ := (show RelO (some p.2) (valueAt vb p.1) by rw [← e]; exact rb.val p.1).some_of
    obtain ⟨k, v⟩ := q
    have h1 : p.1 = k := h.1
    have h2 : RelV p.2 v := h.2
    rw [h1] at hy
    rw [ea] at h2 ry
    obtain rfl : v = Value.ref a := h2
    obtain rfl : y = Value.ref a := ry
    exact PySem.W.KeqHits.hit (e := true) (b := true) hy (SeqAt.EqAt.same _) (ih fun z hz => hp z (List.mem_cons_of_mem _ hz))
def rNeDR : R2 := fun x y H Q => ∃ a b kvs, x = .ref a ∧ y = .ref b ∧ H a = some (.dK kvs) ∧ H b = some (.dK kvs) ∧ (kvs.map (·.1)).Nodup ∧ (∀ p ∈ kvs, ∃ a, p.2 = V.ref a) ∧ Q (.bl false) H
theorem op_neDR {X : Cx} (hu : X.A.units < cLine) : OpR X (compareOp .NotEq) rNeDR := by
  rintro ps s σ H x y v u Q I rx ry ⟨a, b, kvs, rfl, rfl, ea, eb, nd, fl, q⟩
  obtain rfl : v = Value.ref a := rx
  obtain rfl : u = Value.ref b := ry
  obtain ⟨_, ya, va, ra, da⟩ := (show ObjOk X.prog X.w H s.heap a (.dK kvs) from I.hok a _ ea)
  obtain ⟨_, yb, vb, rb, db⟩ := (show ObjOk X.prog X.w H s.heap b (.dK kvs) from I.hok b _ eb)
  have hl : va.length = vb.length := ra.length.symm.trans rb.length
  exact PySem.W.keq_ne (knd := mixKind X.prog X.w) (r := true) ya yb da db hu (fun _ => hits_refs rb ra fun p hp => ⟨val_nodup nd p hp, fl p hp⟩) (fin_bl I q (by simp [hl]))
theorem iteT_ {A B : Prop} {b : Bool} (h : b = true) (x : A) : if b = true then A else B := by rw [if_pos h]; exact x
theorem iteF_ {A B : Prop} {b : Bool} (h : b = false) (x : B) : if b = true then A else B := by rw [if_neg (by rw [h]; exact Bool.false_ne_true)]; exact x
theorem fnok_no {P : Program} {w : World} {K : PySem.W.Frag} {mg : Str → Option Value} {base : Heap} {CX : CXT} {k : Nat} {f : Addr} {fd : FuncData} {ps : List Str} {sp : Sp} (no : ∀ vs H Q E, ¬ sp vs H Q E) : FnOk P w K mg base CX k f fd ps sp :=
  ⟨fun vs H Q E h => absurd h (no vs H Q E), fun A outer s H args us vs Q E _ _ _ _ h => absurd h (no vs H Q E)⟩
/-- a walk, as a comprehension's reading asks for it -/
theorem itw_loop {J : It} {n : Nat} {G : Hp → Prop} {Y : Nat → Hp → V → Hp → Prop} (w : Walk J n G Y) {H0 : Hp} {Qd : Hp → Prop} {body : V → Hp → (Hp → Prop) → Prop} (Pv : Nat → Hp → Prop) (h0 : Pv 0 H0) (hG : ∀ i H, i ≤ n → Pv i H → G H)
    (hs : ∀ i x H H', i < n → Pv i H → Y i H x H' → body x H' (Pv (i + 1))) (hd : ∀ H, Pv n H → Qd H) :
    ∃ W : Nat → Nat → Hp → Prop, (∃ m, W 0 m H0) ∧ ∀ i m H, W i m H → (J.stop i H ∧ Qd H) ∨ (J.go i H ∧ ∃ Nx : Hp → Prop, (∀ H', Nx H' → ∃ m', m' < m ∧ W (i + 1) m' H') ∧ ∀ v H', J.yld i H v H' → body v H' Nx) := by
  refine ⟨fun i m H => m = n - i ∧ i ≤ n ∧ Pv i H, ⟨n, by simp, Nat.zero_le _, h0⟩, fun i m H ⟨em, hi, p⟩ => ?_⟩
  subst em
  rcases Nat.lt_or_ge i n with lt | ge
  · exact .inr ⟨w.goes i H lt (hG i H hi p), Pv (i + 1), fun H' q => ⟨n - (i + 1), by omega, rfl, lt, q⟩, fun v H' y => hs i v H H' lt p (w.yields i H v H' lt (hG i H hi p) y)⟩
  · obtain rfl : i = n := by omega
    exact .inl ⟨w.stops H (hG i H hi p), hd H p⟩
theorem lock_free {H : Hp} {d c : Addr} {o : HO} (h : upd H d o c = none) : c ≠ d ∧ H c = none := by
  have n : c ≠ d := fun z => by
    rw [z, upd_same] at h
    cases h
  rw [upd_ne n] at h
  exact ⟨n, h⟩
theorem take_ks {α : Type} {cs : List (Str × α)} {i : Nat} {x : Str} {a : α} (h : cs[i]? = some (x, a)) (n : (ks cs).Nodup) : cs.take (i + 1) = put (cs.take i) x a := by
  rw [take_next h, put_new]
  intro m
  obtain ⟨hi, e0⟩ := List.getElem?_eq_some_iff.mp h
  have dr := List.drop_eq_getElem_cons hi
  rw [e0] at dr
  have e : cs = cs.take i ++ (x, a) :: cs.drop (i + 1) := by rw [← dr, List.take_append_drop]
  have n2 : (ks (cs.take i) ++ ks ((x, a) :: cs.drop (i + 1))).Nodup := by
    rw [e] at n
    simpa [ks] using n
  exact (List.nodup_append.mp n2).2.2 x m x List.mem_cons_self rfl
/-- the lock's heap -/
theorem al_upd {K : PySem.W.Frag} {H : Hp} {d : Addr} {u v : HO} {cs : List (Str × Part)} {kvs : List (Key × V)} (h : H d = some u) (n : ∀ xs, u ≠ .tup xs ∧ ∀ o ys, u ≠ .frz o (.tup ys)) (a : Al (PA K H) cs kvs) : Al (PA K (upd H d v)) cs kvs := a.mono fun _ _ q => PA.tk (tk_upd h n) q
theorem LamX_tab {base : Heap} {mg : Str → Option Value} {p : Addr × Addr} (h : LamX.TabB base mg p.1 p.2) : GxR.TabB base mg p.1 p.2 := ⟨h.code, h.bm, h.gP⟩
end U

namespace U
open PySem PySem.Spec L2 PyProof.Rows
/-! ### sorted texts -/
def leS (a b : Str) : Prop := a.cps.toList ≤ b.cps.toList
theorem leS_of {a b : Str} (h : ltCps b.cps.toList a.cps.toList = false) : leS a b := by
  rw [ltCps_eq, decide_eq_false_iff_not] at h
  exact List.not_lt.mp h
theorem leS_trans {a b c : Str} (h : leS a b) (g : leS b c) : leS a c := List.le_trans h g
theorem leS_anti {a b : Str} (h : leS a b) (g : leS b a) : a = b := TL.ext_tl (List.le_antisymm h g)
theorem rising_pw : ∀ {l : List Str} {p : Str}, risingS p l = true → (p :: l).Pairwise leS
  | [], p, _ => by simp
  | x :: r, p, h => by
    have h : (!ltCps x.cps.toList p.cps.toList && risingS x r) = true := h
    rw [Bool.and_eq_true, Bool.not_eq_true'] at h
    have ih := rising_pw h.2
    have px := leS_of h.1
    refine List.pairwise_cons.mpr ⟨fun y hy => ?_, ih⟩
    rcases List.mem_cons.mp hy with z | z
    · exact z ▸ px
    · exact leS_trans px ((List.pairwise_cons.mp ih).1 y z)
theorem sortedS_pw : ∀ {l : List Str}, sortedS l = true → l.Pairwise leS
  | [], _ => List.Pairwise.nil
  | x :: r, h => rising_pw h
theorem sorted_eq {a b : List Str} (p : a.Perm b) (ha : a.Pairwise leS) (hb : b.Pairwise leS) : a = b := List.Perm.eq_of_pairwise (fun _ _ _ _ => leS_anti) ha hb p
/-! ### a key is dropped -/
section
variable {α : Type}
def drop (cs : List (Str × α)) (x : Str) : List (Str × α) := cs.filter fun e => decide (e.1 ≠ x)
theorem Al.drop {R : α → V → Prop} {x : Str} : ∀ {cs : List (Str × α)} {kvs : List (Key × V)}, Al R cs kvs → Al R (drop cs x) (dropK kvs (Sum.inr x))
  | [], [], _ => trivial
  | (y, a) :: cs, (k, v) :: kvs, ⟨e, r, t⟩ => by
    subst e
    have ih := Al.drop (x := x) t
    unfold U.drop dropK at ih ⊢
    rw [List.filter_cons, List.filter_cons]
    by_cases h : y = x
    · have h2 : ¬ decide ((Sum.inr y : Key) ≠ Sum.inr x) = true := by simp [h]
      rw [if_neg (by simp [h]), if_neg h2]
      exact ih
    · have h2 : decide ((Sum.inr y : Key) ≠ Sum.inr x) = true := by simp [h]
      rw [if_pos (by simp [h]), if_pos h2]
      exact ⟨rfl, r, ih⟩
theorem lk_drop {cs : List (Str × α)} {x y : Str} : lk (drop cs x) y = if x = y then none else lk cs y := by
  induction cs with
  | nil => unfold drop; simp [lk]
  | cons e r ih =>
    have ih : lk (r.filter fun e => decide (e.1 ≠ x)) y = if x = y then none else lk r y := ih
    unfold drop
    rw [List.filter_cons]
    by_cases h : e.1 = x
    · rw [if_neg (by simp [h]), ih]
      by_cases z : x = y
      · rw [if_pos z, if_pos z]
      · rw [if_neg z, if_neg z, lk_cons, if_neg (by rw [h]; exact z)]
    · rw [if_pos (by simp [h]), lk_cons, ih, lk_cons]
      by_cases z : x = y
      · rw [if_pos z, if_pos z, if_neg (by rw [← z]; exact h)]
      · rw [if_neg z, if_neg z]
theorem ks_drop {cs : List (Str × α)} {x : Str} : ks (drop cs x) = (ks cs).filter fun y => decide (y ≠ x) := by
  unfold ks drop
  rw [List.filter_map]
  rfl
theorem drop_nodup {cs : List (Str × α)} {x : Str} (h : (ks cs).Nodup) : (ks (drop cs x)).Nodup := by
  rw [ks_drop]
  exact h.sublist List.filter_sublist
theorem drop_none {cs : List (Str × α)} {x : Str} (h : lk cs x = none) : drop cs x = cs := by
  unfold drop
  refine List.filter_eq_self.mpr fun e he => ?_
  rw [decide_eq_true_eq]
  exact fun z => lk_none.mp h (List.mem_map.mpr ⟨e, he, z⟩)
theorem drop_len {cs : List (Str × α)} {x : Str} : (drop cs x).length ≤ cs.length := List.length_filter_le _ _
theorem mem_drop {cs : List (Str × α)} {x : Str} {e : Str × α} (h : e ∈ drop cs x) : e ∈ cs := (List.mem_filter.mp h).1
end
/-! ### what a change can touch -/
def Tch (cs : List (Str × Part)) (ch : List Str) (x : Str) : Prop := x ∈ ch ∨ ∃ y, Rch cs x y ∧ y ∈ ch
open Classical in
noncomputable def tchB (cs : List (Str × Part)) (ch : List Str) (x : Str) : Bool := decide (Tch cs ch x)
open Classical in
theorem tchB_iff {cs : List (Str × Part)} {ch : List Str} {x : Str} : tchB cs ch x = true ↔ Tch cs ch x := by
  unfold tchB
  exact decide_eq_true_iff
section
variable {cs ds : List (Str × Part)} {ch : List Str} {x : Str}
theorem rds_same (h : lk cs x = lk ds x) : rds cs x = rds ds x := by unfold rds; rw [h]
theorem untouched_to (e : ∀ y, y ∉ ch → lk cs y = lk ds y) (n : ¬ Tch cs ch x) {y : Str} (r : Rch cs x y) : Rch ds x y := by
  induction r with
  | one h => exact .one (rds_same (e _ fun z => n (.inl z)) ▸ h)
  | more r h ih => exact .more ih (rds_same (e _ fun z => n (.inr ⟨_, r, z⟩)) ▸ h)
theorem untouched_from (e : ∀ y, y ∉ ch → lk cs y = lk ds y) (n : ¬ Tch cs ch x) {y : Str} (r : Rch ds x y) : Rch cs x y := by
  induction r with
  | one h => exact .one ((rds_same (e _ fun z => n (.inl z))).symm ▸ h)
  | more r h ih => exact .more ih ((rds_same (e _ fun z => n (.inr ⟨_, ih, z⟩))).symm ▸ h)
theorem untouched_wvF (e : ∀ y, y ∉ ch → lk cs y = lk ds y) : ∀ (n : Nat) (x : Str), ¬ Tch cs ch x → wvF cs n x = wvF ds n x
  | 0, _, _ => rfl
  | n + 1, x, h => by
    have ex := e x fun z => h (.inl z)
    cases q : lk cs x with
    | none => rw [wvF_none q, wvF_none (ex ▸ q)]
    | some p =>
      have q2 : lk ds x = some p := ex ▸ q
      by_cases r : Rch cs x x
      · rw [wvF_ring q r, wvF_ring q2 (untouched_to e h r)]
      · rw [wvF_ev q r, wvF_ev q2 fun z => r (untouched_from e h z)]
        refine Part.ev_congr fun y hy => untouched_wvF e n y fun t => h ?_
        have xy : Rch cs x y := .one ((mem_rds q).mpr hy)
        rcases t with t | ⟨z, r2, t⟩
        · exact .inr ⟨y, xy, t⟩
        · exact .inr ⟨z, xy.trans r2, t⟩
theorem wv_at {n : Nat} (h : cs.length < n) : wvF cs n x = wv cs x := wvF_stable (Nat.lt_of_le_of_lt msr_le h) (Nat.lt_of_le_of_lt msr_le (Nat.lt_succ_self _))
theorem untouched_wv (e : ∀ y, y ∉ ch → lk cs y = lk ds y) (n : ¬ Tch cs ch x) : wv cs x = wv ds x := by
  rw [← wv_at (cs := cs) (n := cs.length + ds.length + 1) (by omega), ← wv_at (cs := ds) (n := cs.length + ds.length + 1) (by omega)]
  exact untouched_wvF e _ x n
end
/-! ### two dicts of the same entries -/
theorem hits_mix {A : Around} {s : Shared} {kvs : List (Key × V)} {vb : List (Key × Value)} (rb : KV kvs vb) {es : List (Key × V)} {va : List (Key × Value)} (ra : KV es va) :
    (∀ p ∈ es, valV kvs p.1 = some p.2 ∧ (flatB p.2 = true ∨ ∃ a, p.2 = .ref a)) → PySem.W.KeqHits A s vb va true := by
  unfold KV at ra
  induction ra with
  | nil => exact fun _ => .nil
  | @cons p q pr qr h t ih =>
    intro hp
    obtain ⟨e, f⟩ := hp p List.mem_cons_self
    obtain ⟨y, hy, ry⟩ := (show RelO (some p.2) (valueAt vb p.1) by rw [← e]; exact rb.val p.1).some_of
    obtain ⟨k, v⟩ := q
    have h1 : p.1 = k := h.1
    have h2 : RelV p.2 v := h.2
    rw [h1] at hy
    refine PySem.W.KeqHits.hit (e := true) (b := true) hy ?_ (ih fun z hz => hp z (List.mem_cons_of_mem _ hz))
    rcases f with f | ⟨a, ea⟩
    · exact eqAt_same h2 ry f
    · rw [ea] at h2 ry
      obtain rfl : v = Value.ref a := h2
      obtain rfl : y = Value.ref a := ry
      exact SeqAt.EqAt.same _
def rNeDM : R2 := fun x y H Q => ∃ a b kvs, x = .ref a ∧ y = .ref b ∧ H a = some (.dK kvs) ∧ H b = some (.dK kvs) ∧ (kvs.map (·.1)).Nodup ∧ (∀ p ∈ kvs, flatB p.2 = true ∨ ∃ a, p.2 = V.ref a) ∧ Q (.bl false) H
theorem op_neDM {X : Cx} (hu : X.A.units < cLine) : OpR X (compareOp .NotEq) rNeDM := by
  rintro ps s σ H x y v u Q I rx ry ⟨a, b, kvs, rfl, rfl, ea, eb, nd, fl, q⟩
  obtain rfl : v = Value.ref a := rx
  obtain rfl : u = Value.ref b := ry
  obtain ⟨_, ya, va, ra, da⟩ := (show ObjOk X.prog X.w H s.heap a (.dK kvs) from I.hok a _ ea)
  obtain ⟨_, yb, vb, rb, db⟩ := (show ObjOk X.prog X.w H s.heap b (.dK kvs) from I.hok b _ eb)
  have hl : va.length = vb.length := ra.length.symm.trans rb.length
  exact PySem.W.keq_ne (knd := mixKind X.prog X.w) (r := true) ya yb da db hu (fun _ => hits_mix rb ra fun p hp => ⟨val_nodup nd p hp, fl p hp⟩) (fin_bl I q (by simp [hl]))
theorem WA.flat {K : PySem.W.Frag} {H : Hp} : ∀ {x : Wo} {v : V}, WA K H x v → flatB v = true ∨ ∃ a, v = .ref a
  | .num n, _, h => .inl (by cases h; rfl)
  | .ring, _, ⟨a, e, _⟩ => .inr ⟨a, e⟩
  | .wide, _, ⟨a, e, _⟩ => .inr ⟨a, e⟩
theorem Al.flat {K : PySem.W.Frag} {H : Hp} : ∀ {cs : List (Str × Wo)} {kvs : List (Key × V)}, Al (WA K H) cs kvs → ∀ p ∈ kvs, flatB p.2 = true ∨ ∃ a, p.2 = V.ref a
  | [], [], _, p, h => by cases h
  | _ :: _, _ :: _, ⟨_, r, t⟩, p, h => (List.mem_cons.mp h).elim (fun e => e ▸ WA.flat r) fun h => Al.flat t p h
theorem keys_nodup {α : Type} {R : α → V → Prop} {cs : List (Str × α)} {kvs : List (Key × V)} (h : Al R cs kvs) (n : (ks cs).Nodup) : (kvs.map (·.1)).Nodup := by
  rw [h.keys]
  exact List.pairwise_map.mpr (n.imp fun h e => h (Sum.inr.inj e))
/-- a table stays a table -/
theorem tab_keep {P P2 : Addr} {H H' : Hp} (h : GxR.TabG H P) (k : Keep P2 P2 H H') (t : GxR.TabG H' P2) : GxR.TabG H' P := by
  by_cases e : P = P2
  · exact e ▸ t
  · obtain ⟨ps, a, b⟩ := h
    exact ⟨ps, k _ _ a e e, b⟩
theorem Keep.wide {b l P : Addr} {H H' : Hp} (k : Keep P P H H') (h : P = b ∨ P = l) : Keep b l H H' := fun c o e n1 n2 => by
  have n : c ≠ P := fun z => h.elim (fun q => n1 (z.trans q)) fun q => n2 (z.trans q)
  exact k c o e n n
theorem op_in_K {X : Cx} {K : PySem.W.Frag} (h : X.K = K) : OpR X (compareOp .In) (rIn K false) := h ▸ op_in_seq
end U

namespace U
open PySem PySem.Spec L2 PyProof.Rows
/-! ### an exception that leaves a comprehension -/
theorem frames_less {h B B2 : Heap} (n : ∀ b, B.get? b = none → B2.get? b = none) : ∀ {l : List Env}, h.FunFrames B l → h.FunFrames B2 l
  | [], _ => trivial
  | _ :: _, ⟨k, ⟨L, o, f, b, r⟩, t⟩ => ⟨k, ⟨L, o, f, n L b, r⟩, frames_less n t⟩
section
variable {X : Cx}
/-- what the block owes where something was raised in it -/
def BlkE (X : Cx) (ce : Env) (use : Option (Value → Sem Unit)) (Qf : Value → Shared → Prop) (D : Value) : Value → Shared → Prop :=
  notedBy (model X.prog X.w) X.A ce fun e s' => compEnds (model X.prog X.w) X.A X.xe use Qf D ce (.error e) s'
theorem blk_passes {ps : List (Addr × Obj)} {τ : L2.St} {G : Hp} {s3 : Shared} {scope : Scope} {ce : Env} {fp : List Addr} {E : XK} {use : Option (Value → Sem Unit)} {Qf : Value → Shared → Prop} {D : Value}
    (I0 : Inv X ps τ G s3) (hfp : ∀ b ∈ fp, FpOk X ps G b) (hst : X.stack = X.env :: X.outer) (hfr : X.env.frame = some X.env.locals) (cf : ce.frame = X.env.frame) (cL : ce.locals = s3.heap.objs.size) (tk : L2N.Takes X fun cls d _ H => E cls d H) :
    Passes (L2N.CX X.prog X.w) ((X.blk s3 G scope ce fp).wish (BlkE X ce use Qf D)) E := by
  rintro qs σ H s u s' I1w ⟨a, B, H', cls, d, rfl, fl, hok, ub, na, os, ag, hE⟩
  have I1 := I1w.unwish
  have fl : HandSPX.FlyingZ B (X.env :: X.outer) a (L2N.Zn cls d) s'.heap := hst ▸ (show HandSPX.FlyingZ B X.stack a (L2N.Zn cls d) s'.heap from fl)
  have hA : X.A.frames = some (X.env :: X.outer) := hst ▸ I0.ok.frames
  show wpAny (model X.prog X.w) X.A (noteFrame (.ref a) ce) _ _ s'
  rw [noteFrame_env _ cf]
  refine PXN.looks_onZ L2N.Zn.steady hA hfr fl fun h1 hh1 up1 => ?_
  suffices hF : CompFails (model X.prog X.w) X.A X.xe ce (.ref a) { s' with heap := h1 } by cases use <;> exact hF
  obtain ⟨m, ⟨oC, es, ep, eC, dC, rC⟩, _⟩ := I1.loc
  have eC : s.heap.get? ce.locals = some oC := eC
  have nC : H ce.locals = none := I1.free
  have inF : ∀ b, b ∈ frs X.stack → b < s3.heap.objs.size := fun b hb => by
    obtain ⟨_, o, ho, _⟩ := I1.ok.funs.mem hb
    exact Heap.lt_size ho
  have nF : ce.locals ∉ frs X.stack := fun hb => by
    have := inF _ hb
    rw [cL] at this
    exact Nat.lt_irrefl _ this
  have bC : B.get? ce.locals = some oC := ub.keep _ _ eC nC nF
  refine ⟨m, ⟨oC, es, ep, hh1.1 _ _ bC, dC, rC⟩, fun h2 m2 hn2 hs2 => ?_⟩
  obtain ⟨B2, g1, g2⟩ := restrict B fun b => decide (b ≠ ce.locals)
  have b2i : ∀ b o, b ≠ ce.locals → B.get? b = some o → B2.get? b = some o := fun b o n e => by rw [g1 b (decide_eq_true n)]; exact e
  have b2e : ∀ b o, B2.get? b = some o → b ≠ ce.locals ∧ B.get? b = some o := fun b o e => by
    by_cases n : b = ce.locals
    · rw [g2 b (by rw [decide_eq_false_iff_not]; exact fun z => z n)] at e
      cases e
    · rw [g1 b (decide_eq_true n)] at e
      exact ⟨n, e⟩
  have b2n : ∀ b, B.get? b = none → B2.get? b = none := fun b e => by
    cases q : B2.get? b with
    | none => rfl
    | some o =>
      rw [(b2e b o q).2] at e
      cases e
  obtain ⟨st1, na1, ff1, oe, vs, T, oT, ts, he, hz, hd, h1T, hnT, hTe, hT, hdT, h3⟩ := hh1
  have aC : a ≠ ce.locals := fun z => by
    rw [z, bC] at na1
    cases na1
  have TC : T ≠ ce.locals := fun z => by
    rw [z, bC] at hnT
    cases hnT
  have he2 : h2.get? a = some oe := (hs2.2 a aC).trans he
  have held : HandSPX.HeldZ B2 (X.env :: X.outer) a (L2N.Zn cls d) X.env.locals h2 :=
    ⟨fun b o e => (hs2.2 b (b2e b o e).1).trans (st1 b o (b2e b o e).2), b2n a na1, frames_less b2n (Heap.FunFrames.sameBut hs2 hn2 ff1), oe, vs, T, oT, ts, he2, hz, hd, h1T, b2n T hnT, hTe, (hs2.2 T TC).trans hT, hdT, h3⟩
  unfold PySem.passOn
  refine wpAny_bind (wpAny_field he2 hd h1T ?_)
  rw [if_neg (show ¬ ((Value.ref T == Value.none) = true) from by simp), cf, hfr]
  refine wpAny_bind (HandSPX.setFlight_onZ held fun h4 hh4 up4 => wpAny_throw (tk _ _ ?_))
  obtain ⟨S, k1, k2⟩ := restrict s'.heap fun b => (B2.get? b).isSome || decide (b ∈ frs X.stack)
  have st0 : B.StaysIn s'.heap := fl.1
  have inS : ∀ b o, B2.get? b = some o → S.get? b = some o := fun b o e => by
    rw [k1 b (by rw [e]; rfl)]
    exact st0 b o (b2e b o e).2
  have inS2 : ∀ b, b ∈ frs X.stack → S.get? b = s'.heap.get? b := fun b hb => k1 b (by rw [decide_eq_true hb, Bool.or_true])
  have ofS : ∀ b o, S.get? b = some o → s'.heap.get? b = some o ∧ ((B2.get? b).isSome = true ∨ b ∈ frs X.stack) := fun b o e => by
    cases q : ((B2.get? b).isSome || decide (b ∈ frs X.stack)) with
    | false =>
      rw [k2 b q] at e
      cases e
    | true =>
      rw [k1 b q] at e
      refine ⟨e, ?_⟩
      rcases Bool.or_eq_true_iff.mp q with q | q
      · exact .inl q
      · exact .inr (of_decide_eq_true q)
  have neS : ∀ b o, S.get? b = some o → b ≠ ce.locals := fun b o e z => by
    rcases (ofS b o e).2 with q | q
    · obtain ⟨o', q⟩ := Option.isSome_iff_exists.mp q
      exact (b2e b o' q).1 z
    · exact nF (z ▸ q)
  have nC' : H' ce.locals = none := ub.free _ _ eC nC
  have oldC : ∀ b o, s3.heap.get? b = some o → b ≠ ce.locals := fun b o e z => by
    have := Heap.lt_size e
    rw [z, cL] at this
    exact Nat.lt_irrefl _ this
  refine ⟨a, B2, { s with heap := S, gens := s'.gens, drawn := s'.drawn, toks := s'.toks }, ps, τ, H', cls, d, rfl, ?_, fun b o e hb => ?_, fun b o e hn => ?_, .inr (.inr (hst.symm ▸ hh4)), na, os, ag, hE⟩
  · refine I0.call' (ch := fp) I1.os ⟨fun b o e n hb hx => ?_, fun b o e n hb hx => ?_, fun b o e n hx => ?_, fun b o e hx => ?_, fun b xs e => ub.tups b xs (I1.base.tups b xs e), fun b o u e => ub.frzs b o u (I1.base.frzs b o u e), fun b qs e => ?_⟩ ?_ ag fun b mb => ?_
    · have e1 := I1.base.keep b o e n hb hx
      exact inS b o (b2i b o (oldC b o e) (ub.keep b o e1 (I1.base.free b o e n hx) hb))
    · obtain ⟨sl, e1⟩ := I1.base.slot b o e n hb hx
      obtain ⟨sl2, e2⟩ := ub.slot b _ e1 hb
      exact ⟨sl2, by rw [inS2 b hb]; exact e2⟩
    · by_cases hb : b ∈ frs X.stack
      · obtain ⟨sl, e1⟩ := I1.base.slot b o e n hb hx
        exact ub.free b _ e1 (I1.base.free b o e n hx)
      · exact ub.free b o (I1.base.keep b o e n hb hx) (I1.base.free b o e n hx)
    · obtain ⟨o1, e1⟩ := I1.base.there b o e hx
      by_cases hb : b ∈ frs X.stack
      · obtain ⟨sl, e2⟩ := ub.slot b o1 e1 hb
        exact ⟨_, by rw [inS2 b hb]; exact e2⟩
      · obtain ⟨o2, e2⟩ := ub.there b o1 e1 hb
        exact ⟨o2, inS b o2 (b2i b o2 (oldC b o e) e2)⟩
    · obtain ⟨more, e1⟩ := I1.base.tbls b qs e
      obtain ⟨more2, e2⟩ := ub.tbls b _ e1
      exact ⟨more ++ more2, by rw [e2, Array.append_assoc]⟩
    · intro b o e
      refine (hok b o e).stay (fun c v hc q => ?_) (fun _ q => q) fun _ _ q => q
      have : c ≠ ce.locals := fun z => by
        rcases hc with q | q
        · rw [← q, z, nC'] at e
          cases e
        · rw [z, nC'] at q
          cases q
      exact inS c v (b2i c v this q)
    · have f := hfp b mb
      exact ⟨f.2.2.2.1, f.2.1, f.2.2.2.2.1, f.2.2.2.2.2⟩
  · obtain ⟨e1, q⟩ := ofS b o e
    rcases q with q | q
    · obtain ⟨o', q⟩ := Option.isSome_iff_exists.mp q
      have z := st0 b o' (b2e b o' q).2
      rw [e1] at z
      cases z
      exact q
    · exact absurd q hb
  · obtain ⟨e1, _⟩ := ofS b o e
    obtain ⟨sl, e2⟩ := up1 b o e1 hn
    have e3 : h2.get? b = some { o with slots := sl } := (hs2.2 b (neS b o e)).trans e2
    obtain ⟨sl2, e4⟩ := up4 b _ e3 hn
    exact ⟨sl2, e4⟩
theorem lc_coreX {ps : List (Addr × Obj)} {s : Shared} {σ : L2.St} {H : Hp} {Q : VK} {elt tg iter : Expr} {ifs : List Expr} {scope : Scope} {own : List (Str × Nat)} {pos pos' : Pos} {wi : TI} {g : TG} {tt : TT} {te : TE} {use : Option (Value → Sem Unit)} {Qf : Value → Shared → Prop} {E : XK}
    (hc : X.calm = true) (hst : X.stack = X.env :: X.outer) (hfr : X.env.frame = some X.env.locals) (tkE : L2N.Takes X fun cls d _ H => E cls d H) (hN : X.N.Nodup) (I : Inv X ps σ H s) (hi : PI X tg iter wi) (ok : BlkOk X.N X.env.scope scope own)
    (hg : ∀ (s : Shared) (H : Hp) (C : Addr) (cl : List (Str × Addr)) (fp : List Addr), PG (X.blk s H scope (compEnvC scope cl C X.env) fp) tg g) (ht : ∀ (s : Shared) (H : Hp) (C : Addr) (cl : List (Str × Addr)) (fp : List Addr), PTs (X.blk s H scope (compEnvC scope cl C X.env) fp) ifs tt)
    (he : ∀ (s : Shared) (H : Hp) (C : Addr) (cl : List (Str × Addr)) (fp : List Addr) (EB : Value → Shared → Prop), Passes (L2N.CX X.prog X.w) ((X.blk s H scope (compEnvC scope cl C X.env) fp).wish EB) E → PE ((X.blk s H scope (compEnvC scope cl C X.env) fp).wish EB) elt te) (hs : ∀ x, foldedSetIterable iter X.env x = pure x)
    (h : tLc wi g tt te (own.map (·.2)) σ H Q) (hR : ∀ D ce s' m H', Inv X ps σ H' s' → Q (.ref D) H' → s'.heap.Ns ce.locals m → FpOk X ps H' ce.locals → compEnds (model X.prog X.w) X.A X.xe use Qf (.ref D) ce (.ok .next) s') :
    wpAny (model X.prog X.w) X.A (comprehension (.ListComp elt [⟨tg, iter, ifs, 0⟩] scope pos) scope X.env pos' (newList []) false (eval iter X.env) use) Qf X.xe s := by
  have fr : ∀ y ∈ scope.names, y.2 = .free → ∃ c, X.env.cells.lookup y.1 = some c := fun y my e => (ok.free y my e).elim (fun k => I.ok.has _ (.inl k)) fun k => I.ok.has _ (.inr k)
  apply comprehension_at (use := use) rfl hs (closure_ok fr) ok.kind (fun y my e => by rw [ok.uniq y my, e])
  apply thn (hi.run ps s σ H _ I h)
  intro xv s1 hx
  apply thn hx
  rintro itv s2 ⟨it, fp, tn, J, H2, e, I2, T, at2, f2, q⟩
  subst e
  apply wpAny_newObj_type _ (by show 0 ≤ sizeLine; decide)
  apply newEnv_comp
  generalize hD : s2.heap.objs.size = D
  have free2 : H2 D = none := I2.hok.fresh (Nat.le_of_eq hD)
  obtain ⟨W, ⟨m0, w0⟩, turn⟩ := q D free2
  generalize e3 : ({ s2 with heap := s2.heap.push { cls := .type "list", data := .seq ([] : List Value).toArray } } : Shared) = s3
  have I3 : Inv X ps σ (upd H2 D (.lst [])) s3 := by
    rw [← e3]
    apply I2.laid (t' := s2.toks) (fun b o e => Heap.get?_push_of_some _ e) (Nat.le_of_eq hD)
    rw [← hD]
    exact ⟨Nat.zero_le _, [], 0, .nil, Heap.get?_push_size _ rfl⟩
  have h3 : s3.heap = s2.heap.push { cls := .type "list", data := .seq ([] : List Value).toArray } := by rw [← e3]
  have lt2 : ∀ b ∈ fp, b < s2.heap.objs.size := fun b mb => let ⟨_, e, _⟩ := T.obj _ _ at2 b mb; Heap.lt_size e
  have f3 : ∀ b ∈ fp, FpOk X ps (upd H2 D (.lst [])) b ∧ b < s3.heap.objs.size := by
    intro b mb
    have lt := lt2 b mb
    refine ⟨⟨by rw [upd_ne (hD ▸ Nat.ne_of_lt lt)]; exact (f2 b mb).1, (f2 b mb).2⟩, ?_⟩
    rw [h3, Heap.size_push]
    exact Nat.lt_succ_of_lt lt
  have at3 : tn 0 s3.heap := T.keep _ _ _ at2 fun b _ o e => by rw [h3]; exact Heap.get?_push_of_some _ e
  have I4 := block_start I3 ok hN f3
  have pg := hg s3 (upd H2 D (.lst [])) s3.heap.objs.size (cellsFrom (s3.heap.objs.size + 1) scope.names (cloFrom X.env.cells scope.names [])) fp
  have pt := ht s3 (upd H2 D (.lst [])) s3.heap.objs.size (cellsFrom (s3.heap.objs.size + 1) scope.names (cloFrom X.env.cells scope.names [])) fp
  have pe := he s3 (upd H2 D (.lst [])) s3.heap.objs.size (cellsFrom (s3.heap.objs.size + 1) scope.names (cloFrom X.env.cells scope.names [])) fp
  have cf : (compEnvC scope (cellsFrom (s3.heap.objs.size + 1) scope.names (cloFrom X.env.cells scope.names [])) s3.heap.objs.size X.env).frame = X.env.frame := rfl
  have cL : (compEnvC scope (cellsFrom (s3.heap.objs.size + 1) scope.names (cloFrom X.env.cells scope.names [])) s3.heap.objs.size X.env).locals = s3.heap.objs.size := rfl
  have nfp : ∀ b ∈ fp, (upd H2 D (.lst [])) b = none := fun b mb => (f3 b mb).1.1
  show codeAny _ _ (.compStart (.ListComp elt [⟨tg, iter, ifs, 0⟩] scope pos) 0 (.ref it) (.ref D) (compEnvC scope (cellsFrom (s3.heap.objs.size + 1) scope.names (cloFrom X.env.cells scope.names [])) s3.heap.objs.size X.env))
    (compEnds (model X.prog X.w) X.A X.xe use Qf (.ref D) (compEnvC scope (cellsFrom (s3.heap.objs.size + 1) scope.names (cloFrom X.env.cells scope.names [])) s3.heap.objs.size X.env)) { s3 with heap := pushCells (s3.heap.push { cls := .type "dict", data := .dict #[] }) scope.names }
  generalize hce : compEnvC scope (cellsFrom (s3.heap.objs.size + 1) scope.names (cloFrom X.env.cells scope.names [])) s3.heap.objs.size X.env = ce at I4 pg pt pe cf cL ⊢
  generalize upd H2 D (.lst []) = H3 at I3 I4 pg pt pe w0 nfp f3
  generalize e4 : ({ s3 with heap := pushCells (s3.heap.push { cls := .type "dict", data := .dict #[] }) scope.names } : Shared) = s4 at I4 ⊢
  have at4 : tn 0 s4.heap := T.keep _ _ _ at3 fun b _ o e => by rw [← e4]; exact pushCells_keeps _ _ _ _ (Heap.get?_push_of_some _ e)
  have pe := pe (BlkE X ce use Qf (.ref D)) (blk_passes I3 (fun b mb => (f3 b mb).1) hst hfr cf cL tkE)
  have still : ∀ {σ' : L2.St} {H' : Hp} {s' : Shared}, Inv (X.blk s3 H3 scope ce fp) [] σ' H' s' → (∀ b ∈ fp, H' b = none) → ∀ b ∈ fp, FpOk (X.blk s3 H3 scope ce fp) [] H' b := by
    intro σ' H' s' I' n b mb
    have z := I'.ok.exf b mb
    exact ⟨n b mb, z.1, I'.ok.exfs b mb, .inl mb, fun x c e => z.2 x c e, fun p mp => absurd (show p ∈ ([] : List (Addr × Obj)) ++ [] from mp) (by simp)⟩
  have loop : codeAny (model X.prog X.w) X.A (.compLoop (.ListComp elt [⟨tg, iter, ifs, 0⟩] scope pos) 0 (.ref it) (.ref D) ce) (compEnds (model X.prog X.w) X.A X.xe use Qf (.ref D) ce) s4 := by
    apply compLoop_any (fun n s' => ∃ i H', Inv (X.blk s3 H3 scope ce fp) [] (wipe σ (own.map (·.2))) H' s' ∧ tn i s'.heap ∧ (∀ b ∈ fp, H' b = none) ∧ W i n H') ?_ m0 ⟨0, H3, I4, at4, nfp, w0⟩
    intro n s5 hn5
    obtain ⟨i, H5, I5, at5, n5, w5⟩ := hn5
    obtain ⟨stop, qq⟩ | ⟨go, Nx, hNx, step⟩ := turn i n H5 w5
    · apply thnF (T.done (X.blk s3 H3 scope ce fp) rfl rfl rfl hc i [] s5 _ H5 (fun _ _ => False) I5 (still I5 n5) at5 stop)
      rintro r s6 ⟨hr, I6⟩
      subst hr
      have I7 := back_X I3 (fun b mb => (f3 b mb).1) I6
      have nC : H5 ce.locals = none := I6.free
      obtain ⟨m, hn, _⟩ := I6.loc
      exact hR D ce s6 m H5 I7 qq hn (by rw [cL] at nC ⊢; exact I3.fpOk (Nat.le_refl _) nC)
    · apply thnF (T.item (X.blk s3 H3 scope ce fp) rfl rfl rfl hc i [] s5 _ H5 (fun _ _ => False) I5 (still I5 n5) at5 go)
      rintro r s6 ⟨u, hr, h6⟩
      subst hr
      apply thnF h6
      rintro _ s7 ⟨x, H7, I7, r7, y7, at7, n7⟩
      apply thnF (pg.run _ s7 _ H7 x u _ (I7.pinned (still I7 n7) (T.obj _ _ at7)) r7 (step x H7 y7))
      rintro _ s8 ⟨σ8, H8, I8, hw8, q8⟩
      apply thnF (pt.run _ s8 σ8 H8 _ I8 q8)
      rintro b s9 ⟨H9, I9, q9⟩
      have next : ∀ {s' : Shared} {H' : Hp}, Inv (X.blk s3 H3 scope ce fp) ([] ++ pinsAt fp s7.heap) σ8 H' s' → Nx H' → ∃ m, m < n ∧ ∃ i H', Inv (X.blk s3 H3 scope ce fp) [] (wipe σ (own.map (·.2))) H' s' ∧ tn i s'.heap ∧ (∀ b ∈ fp, H' b = none) ∧ W i m H' := by
        intro s' H' I' nx
        obtain ⟨m', hm, w'⟩ := hNx H' nx
        have pin : ∀ b ∈ fp, ∀ o, s7.heap.get? b = some o → s'.heap.get? b = some o ∧ H' b = none := by
          intro b mb o e
          have z := I'.pin (b, o) (List.mem_append_right _ (List.mem_append_right _ (mem_pinsAt mb e)))
          exact ⟨z.1, z.2.1⟩
        have len8 : (wipe σ (own.map (·.2))).length = σ8.length := by rw [← hw8, wipe_length]
        refine ⟨m', hm, i + 1, H', (I'.unpinned (pins := [])).weak len8 (fun j v e => (wipe_some (hw8 ▸ e)).1), T.keep _ _ _ at7 fun b mb o e => (pin b mb o e).1, fun b mb => ?_, w'⟩
        obtain ⟨o, e, _⟩ := T.obj _ _ at7 b mb
        exact (pin b mb o e).2
      cases b with
      | false =>
        rw [if_neg Bool.false_ne_true] at q9 ⊢
        exact next I9 q9
      | true =>
        rw [if_pos rfl] at q9 ⊢
        apply wpAny_mono (pe.run _ s9 σ8 H9 _ (I9.wish _) q9) _ (fun _ _ z => z)
        rintro z s10 ⟨yv, H10, I10, r10, acc, hD10, hz10, nx⟩
        exact app_ok (X := X.blk s3 H3 scope ce fp) I10.unwish hD10 hz10 r10 fun s11 I11 => next I11 nx
  exact codeAny_compStart_list loop (T.self X.A 0 _ _ _ at4 loop)
theorem dc_coreX {ps : List (Addr × Obj)} {s : Shared} {σ : L2.St} {H : Hp} {Q : VK} {kx vx tg iter : Expr} {ifs : List Expr} {scope : Scope} {own : List (Str × Nat)} {pos pos' : Pos} {wi : TI} {g : TG} {tt : TT} {tk tv : TE} {use : Option (Value → Sem Unit)} {Qf : Value → Shared → Prop} {E : XK}
    (hc : X.calm = true) (hst : X.stack = X.env :: X.outer) (hfr : X.env.frame = some X.env.locals) (tkE : L2N.Takes X fun cls d _ H => E cls d H) (hN : X.N.Nodup) (I : Inv X ps σ H s) (hi : PI X tg iter wi) (ok : BlkOk X.N X.env.scope scope own)
    (hg : ∀ (s : Shared) (H : Hp) (C : Addr) (cl : List (Str × Addr)) (fp : List Addr), PG (X.blk s H scope (compEnvC scope cl C X.env) fp) tg g) (ht : ∀ (s : Shared) (H : Hp) (C : Addr) (cl : List (Str × Addr)) (fp : List Addr), PTs (X.blk s H scope (compEnvC scope cl C X.env) fp) ifs tt)
    (hk : ∀ (s : Shared) (H : Hp) (C : Addr) (cl : List (Str × Addr)) (fp : List Addr), PE (X.blk s H scope (compEnvC scope cl C X.env) fp) kx tk) (he : ∀ (s : Shared) (H : Hp) (C : Addr) (cl : List (Str × Addr)) (fp : List Addr) (EB : Value → Shared → Prop), Passes (L2N.CX X.prog X.w) ((X.blk s H scope (compEnvC scope cl C X.env) fp).wish EB) E → PE ((X.blk s H scope (compEnvC scope cl C X.env) fp).wish EB) vx tv) (hs : ∀ x, foldedSetIterable iter X.env x = pure x)
    (h : tDc wi g tt tk tv (own.map (·.2)) σ H Q) (hR : ∀ D ce s' m H', Inv X ps σ H' s' → Q (.ref D) H' → s'.heap.Ns ce.locals m → FpOk X ps H' ce.locals → compEnds (model X.prog X.w) X.A X.xe use Qf (.ref D) ce (.ok .next) s') :
    wpAny (model X.prog X.w) X.A (comprehension (.DictComp kx vx [⟨tg, iter, ifs, 0⟩] scope pos) scope X.env pos' newDict false (eval iter X.env) use) Qf X.xe s := by
  have fr : ∀ y ∈ scope.names, y.2 = .free → ∃ c, X.env.cells.lookup y.1 = some c := fun y my e => (ok.free y my e).elim (fun k => I.ok.has _ (.inl k)) fun k => I.ok.has _ (.inr k)
  apply comprehension_at (use := use) rfl hs (closure_ok fr) ok.kind (fun y my e => by rw [ok.uniq y my, e])
  apply thn (hi.run ps s σ H _ I h)
  intro xv s1 hx
  apply thn hx
  rintro itv s2 ⟨it, fp, tn, J, H2, e, I2, T, at2, f2, q⟩
  subst e
  refine wpAny_newObj_type ?_
  apply newEnv_comp
  generalize hD : s2.heap.objs.size = D
  have free2 : H2 D = none := I2.hok.fresh (Nat.le_of_eq hD)
  obtain ⟨W, ⟨m0, w0⟩, turn⟩ := q D free2
  generalize e3 : ({ s2 with heap := s2.heap.push { cls := .type "dict", data := .dict #[] } } : Shared) = s3
  have I3 : Inv X ps σ (upd H2 D (.dK [])) s3 := by
    rw [← e3]
    apply I2.laid (t' := s2.toks) (fun b o e => Heap.get?_push_of_some _ e) (Nat.le_of_eq hD)
    rw [← hD]
    exact dk_empty s2.heap I2.big
  have h3 : s3.heap = s2.heap.push { cls := .type "dict", data := .dict #[] } := by rw [← e3]
  have lt2 : ∀ b ∈ fp, b < s2.heap.objs.size := fun b mb => let ⟨_, e, _⟩ := T.obj _ _ at2 b mb; Heap.lt_size e
  have f3 : ∀ b ∈ fp, FpOk X ps (upd H2 D (.dK [])) b ∧ b < s3.heap.objs.size := by
    intro b mb
    have lt := lt2 b mb
    refine ⟨⟨by rw [upd_ne (hD ▸ Nat.ne_of_lt lt)]; exact (f2 b mb).1, (f2 b mb).2⟩, ?_⟩
    rw [h3, Heap.size_push]
    exact Nat.lt_succ_of_lt lt
  have at3 : tn 0 s3.heap := T.keep _ _ _ at2 fun b _ o e => by rw [h3]; exact Heap.get?_push_of_some _ e
  have I4 := block_start I3 ok hN f3
  have pg := hg s3 (upd H2 D (.dK [])) s3.heap.objs.size (cellsFrom (s3.heap.objs.size + 1) scope.names (cloFrom X.env.cells scope.names [])) fp
  have pt := ht s3 (upd H2 D (.dK [])) s3.heap.objs.size (cellsFrom (s3.heap.objs.size + 1) scope.names (cloFrom X.env.cells scope.names [])) fp
  have pk := hk s3 (upd H2 D (.dK [])) s3.heap.objs.size (cellsFrom (s3.heap.objs.size + 1) scope.names (cloFrom X.env.cells scope.names [])) fp
  have pe := he s3 (upd H2 D (.dK [])) s3.heap.objs.size (cellsFrom (s3.heap.objs.size + 1) scope.names (cloFrom X.env.cells scope.names [])) fp
  have cf : (compEnvC scope (cellsFrom (s3.heap.objs.size + 1) scope.names (cloFrom X.env.cells scope.names [])) s3.heap.objs.size X.env).frame = X.env.frame := rfl
  have cL : (compEnvC scope (cellsFrom (s3.heap.objs.size + 1) scope.names (cloFrom X.env.cells scope.names [])) s3.heap.objs.size X.env).locals = s3.heap.objs.size := rfl
  have nfp : ∀ b ∈ fp, (upd H2 D (.dK [])) b = none := fun b mb => (f3 b mb).1.1
  show codeAny _ _ (.compStart (.DictComp kx vx [⟨tg, iter, ifs, 0⟩] scope pos) 0 (.ref it) (.ref D) (compEnvC scope (cellsFrom (s3.heap.objs.size + 1) scope.names (cloFrom X.env.cells scope.names [])) s3.heap.objs.size X.env))
    (compEnds (model X.prog X.w) X.A X.xe use Qf (.ref D) (compEnvC scope (cellsFrom (s3.heap.objs.size + 1) scope.names (cloFrom X.env.cells scope.names [])) s3.heap.objs.size X.env)) { s3 with heap := pushCells (s3.heap.push { cls := .type "dict", data := .dict #[] }) scope.names }
  generalize hce : compEnvC scope (cellsFrom (s3.heap.objs.size + 1) scope.names (cloFrom X.env.cells scope.names [])) s3.heap.objs.size X.env = ce at I4 pg pt pk pe cf cL ⊢
  generalize upd H2 D (.dK []) = H3 at I3 I4 pg pt pk pe w0 nfp f3
  generalize e4 : ({ s3 with heap := pushCells (s3.heap.push { cls := .type "dict", data := .dict #[] }) scope.names } : Shared) = s4 at I4 ⊢
  have at4 : tn 0 s4.heap := T.keep _ _ _ at3 fun b _ o e => by rw [← e4]; exact pushCells_keeps _ _ _ _ (Heap.get?_push_of_some _ e)
  have pe := pe (BlkE X ce use Qf (.ref D)) (blk_passes I3 (fun b mb => (f3 b mb).1) hst hfr cf cL tkE)
  have still : ∀ {σ' : L2.St} {H' : Hp} {s' : Shared}, Inv (X.blk s3 H3 scope ce fp) [] σ' H' s' → (∀ b ∈ fp, H' b = none) → ∀ b ∈ fp, FpOk (X.blk s3 H3 scope ce fp) [] H' b := by
    intro σ' H' s' I' n b mb
    have z := I'.ok.exf b mb
    exact ⟨n b mb, z.1, I'.ok.exfs b mb, .inl mb, fun x c e => z.2 x c e, fun p mp => absurd (show p ∈ ([] : List (Addr × Obj)) ++ [] from mp) (by simp)⟩
  have loop : codeAny (model X.prog X.w) X.A (.compLoop (.DictComp kx vx [⟨tg, iter, ifs, 0⟩] scope pos) 0 (.ref it) (.ref D) ce) (compEnds (model X.prog X.w) X.A X.xe use Qf (.ref D) ce) s4 := by
    apply compLoop_anyD (fun n s' => ∃ i H', Inv (X.blk s3 H3 scope ce fp) [] (wipe σ (own.map (·.2))) H' s' ∧ tn i s'.heap ∧ (∀ b ∈ fp, H' b = none) ∧ W i n H') ?_ m0 ⟨0, H3, I4, at4, nfp, w0⟩
    intro n s5 hn5
    obtain ⟨i, H5, I5, at5, n5, w5⟩ := hn5
    obtain ⟨stop, qq⟩ | ⟨go, Nx, hNx, step⟩ := turn i n H5 w5
    · apply thnF (T.done (X.blk s3 H3 scope ce fp) rfl rfl rfl hc i [] s5 _ H5 (fun _ _ => False) I5 (still I5 n5) at5 stop)
      rintro r s6 ⟨hr, I6⟩
      subst hr
      have I7 := back_X I3 (fun b mb => (f3 b mb).1) I6
      have nC : H5 ce.locals = none := I6.free
      obtain ⟨m, hn, _⟩ := I6.loc
      exact hR D ce s6 m H5 I7 qq hn (by rw [cL] at nC ⊢; exact I3.fpOk (Nat.le_refl _) nC)
    · apply thnF (T.item (X.blk s3 H3 scope ce fp) rfl rfl rfl hc i [] s5 _ H5 (fun _ _ => False) I5 (still I5 n5) at5 go)
      rintro r s6 ⟨u, hr, h6⟩
      subst hr
      apply thnF h6
      rintro _ s7 ⟨x, H7, I7, r7, y7, at7, n7⟩
      apply thnF (pg.run _ s7 _ H7 x u _ (I7.pinned (still I7 n7) (T.obj _ _ at7)) r7 (step x H7 y7))
      rintro _ s8 ⟨σ8, H8, I8, hw8, q8⟩
      apply thnF (pt.run _ s8 σ8 H8 _ I8 q8)
      rintro b s9 ⟨H9, I9, q9⟩
      have next : ∀ {s' : Shared} {H' : Hp}, Inv (X.blk s3 H3 scope ce fp) ([] ++ pinsAt fp s7.heap) σ8 H' s' → Nx H' → ∃ m, m < n ∧ ∃ i H', Inv (X.blk s3 H3 scope ce fp) [] (wipe σ (own.map (·.2))) H' s' ∧ tn i s'.heap ∧ (∀ b ∈ fp, H' b = none) ∧ W i m H' := by
        intro s' H' I' nx
        obtain ⟨m', hm, w'⟩ := hNx H' nx
        have pin : ∀ b ∈ fp, ∀ o, s7.heap.get? b = some o → s'.heap.get? b = some o ∧ H' b = none := by
          intro b mb o e
          have z := I'.pin (b, o) (List.mem_append_right _ (List.mem_append_right _ (mem_pinsAt mb e)))
          exact ⟨z.1, z.2.1⟩
        have len8 : (wipe σ (own.map (·.2))).length = σ8.length := by rw [← hw8, wipe_length]
        refine ⟨m', hm, i + 1, H', (I'.unpinned (pins := [])).weak len8 (fun j v e => (wipe_some (hw8 ▸ e)).1), T.keep _ _ _ at7 fun b mb o e => (pin b mb o e).1, fun b mb => ?_, w'⟩
        obtain ⟨o, e, _⟩ := T.obj _ _ at7 b mb
        exact (pin b mb o e).2
      cases b with
      | false =>
        rw [if_neg Bool.false_ne_true] at q9 ⊢
        exact next I9 q9
      | true =>
        rw [if_pos rfl] at q9 ⊢
        apply thnF (pk.run _ s9 σ8 H9 _ I9 q9)
        rintro z s10 ⟨yk, H10, I10, r10, q10⟩
        apply wpAny_mono (pe.run _ s10 σ8 H10 _ (I10.wish _) q10) _ (fun _ _ z => z)
        rintro z2 s11 ⟨yv, H11, I11, r11, kvs, k, ek, hD11, hz11, nx⟩
        subst ek
        exact d_dictSet (X := X.blk s3 H3 scope ce fp) I11.unwish hD11 hz11 r10 r11 fun s12 I12 => next I12 nx
  exact codeAny_compStart_dict loop (T.self X.A 0 _ _ _ at4 loop)
/-- {k: v for ..}, where v may raise -/
theorem pe_dcX {kx vx tg iter : Expr} {ifs : List Expr} {scope : Scope} {own : List (Str × Nat)} {pos : Pos} {wi : TI} {g : TG} {tt : TT} {tk tv : TE} {E : XK} (hc : X.calm = true) (hst : X.stack = X.env :: X.outer) (hfr : X.env.frame = some X.env.locals) (tkE : L2N.Takes X fun cls d _ H => E cls d H) (hN : X.N.Nodup) (hi : PI X tg iter wi) (ok : BlkOk X.N X.env.scope scope own)
    (hg : ∀ (s : Shared) (H : Hp) (C : Addr) (cl : List (Str × Addr)) (fp : List Addr), PG (X.blk s H scope (compEnvC scope cl C X.env) fp) tg g) (ht : ∀ (s : Shared) (H : Hp) (C : Addr) (cl : List (Str × Addr)) (fp : List Addr), PTs (X.blk s H scope (compEnvC scope cl C X.env) fp) ifs tt)
    (hk : ∀ (s : Shared) (H : Hp) (C : Addr) (cl : List (Str × Addr)) (fp : List Addr), PE (X.blk s H scope (compEnvC scope cl C X.env) fp) kx tk) (he : ∀ (s : Shared) (H : Hp) (C : Addr) (cl : List (Str × Addr)) (fp : List Addr) (EB : Value → Shared → Prop), Passes (L2N.CX X.prog X.w) ((X.blk s H scope (compEnvC scope cl C X.env) fp).wish EB) E → PE ((X.blk s H scope (compEnvC scope cl C X.env) fp).wish EB) vx tv)
    (hs : ∀ x, foldedSetIterable iter X.env x = pure x := by intro _; rfl) : PE X (.DictComp kx vx [⟨tg, iter, ifs, 0⟩] scope pos) (tDc wi g tt tk tv (own.map (·.2))) := by
  constructor
  intro ps s σ H Q I h
  rw [arm_eval_DictComp]
  apply dc_coreX hc hst hfr tkE hN I hi ok hg ht hk he hs h
  rintro D ce s' m H' I' q hn ⟨f0, f1, f2, f3, f4, f5⟩
  exact ⟨m, hn, fun h2 sb => ⟨.ref D, H', I'.turned (t' := s'.toks) (fun b o hb e => (sb.2 b hb).trans e) f0 f1 f3 f4 f5, rfl, q⟩⟩
/-- name = [v for ..] on one line, the name a local, where v may raise -/
theorem ps_setLcX {i : Nat} {y : Str} {py : Pos} {elt tg iter : Expr} {ifs : List Expr} {scope : Scope} {own : List (Str × Nat)} {pos spos : Pos} {wi : TI} {g : TG} {tt : TT} {te : TE} {E : XK} (hc : X.calm = true) (hst : X.stack = X.env :: X.outer) (hfr : X.env.frame = some X.env.locals) (tkE : L2N.Takes X fun cls d _ H => E cls d H) (hN : X.N.Nodup) (hy : X.N[i]? = some y)
    (hyl : X.env.scope.names.lookup y = some .local) (hsw : swapsWith (.ListComp elt [⟨tg, iter, ifs, 0⟩] scope pos) (some (.Name y py)) spos.line X.env = pure true) (hi : PI X tg iter wi) (ok : BlkOk X.N X.env.scope scope own)
    (hg : ∀ (s : Shared) (H : Hp) (C : Addr) (cl : List (Str × Addr)) (fp : List Addr), PG (X.blk s H scope (compEnvC scope cl C X.env) fp) tg g) (ht : ∀ (s : Shared) (H : Hp) (C : Addr) (cl : List (Str × Addr)) (fp : List Addr), PTs (X.blk s H scope (compEnvC scope cl C X.env) fp) ifs tt)
    (he : ∀ (s : Shared) (H : Hp) (C : Addr) (cl : List (Str × Addr)) (fp : List Addr) (EB : Value → Shared → Prop), Passes (L2N.CX X.prog X.w) ((X.blk s H scope (compEnvC scope cl C X.env) fp).wish EB) E → PE ((X.blk s H scope (compEnvC scope cl C X.env) fp).wish EB) elt te)
    (hs : ∀ x, foldedSetIterable iter X.env x = pure x := by intro _; rfl) : PS X (.Assign [.Name y py] (.ListComp elt [⟨tg, iter, ifs, 0⟩] scope pos) spos) (tAsg (tLc wi g tt te (own.map (·.2))) (gName i)) := by
  constructor
  intro ps s σ H D I h
  rw [exec_Assign_Name_used _ _ _ _ hsw]
  apply wpAny_bind
  apply wpAny_standAt
  apply wpAny_bind
  have h : tLc wi g tt te (own.map (·.2)) σ H (fun x H1 => gName i x σ H1 D.nx) := h
  apply wpAny_bind
  refine thn (lc_coreX (use := some (assign (.Name y py) X.env)) (Qf := fun _ s' => SP X ps D .next s') hc hst hfr tkE hN I hi ok hg ht he hs h fun L ce s' m H' I' q hn f => ?_) fun _ s' hq => wpAny_pure (wpAny_pure hq)
  obtain ⟨f0, f1, f2, f3, f4, f5⟩ := f
  show wpAny _ _ (assign (.Name y py) X.env (.ref L)) _ _ _
  refine wpAny_assign_Name (store_ok2 (v := V.ref L) I' hN hy (.inl hyl) rfl (fun s2 I2 z => ?_) (.inr hyl))
  obtain ⟨a, sb, ha⟩ := z
  have ne : ce.locals ≠ a := ha.elim (fun z => z ▸ f1) fun z e => f4 y a z e.symm
  exact ⟨m, hn.sameBut sb ne, fun h3 sb3 => ⟨_, H', I2.turned (t' := s2.toks) (fun b o hb e => (sb3.2 b hb).trans e) f0 f1 f3 f4 f5, q⟩⟩
end
end U

namespace U
open PySem PySem.Spec L2 PyProof.Rows
/-! ### contents further down -/
def Cel.down (c : Cel) (n : Nat) : Option Cel := if h : c.r + n < 9 then some ⟨c.c, c.r + n, c.hc, h⟩ else none
def Part.low (n : Nat) : Part → Option Part
  | .num k => some (.num k)
  | .cel c => (c.down n).map .cel
  | .sum c d => match c.down n, d.down n with
    | some a, some b => some (.sum a b)
    | _, _ => none
  | .op w p q => match p.low n, q.low n with
    | some a, some b => some (.op w a b)
    | _, _ => none
  | .pick p q r t => match p.low n, q.low n, r.low n, t.low n with
    | some a, some b, some c, some d => some (.pick a b c d)
    | _, _, _, _ => none
def lowC (n : Nat) : Option Part → Option (Option Part)
  | none => some none
  | some p => (p.low n).map some
theorem Part.low_num {n k : Nat} : True := trivial
theorem Part.low_good {n : Nat} : ∀ {p q : Part}, p.low n = some q → p.good → q.good ∧ q.hgt = p.hgt ∧ (p.isNum = q.isNum)
  | .num k, q, h, g => by
    cases h
    exact ⟨g, rfl, rfl⟩
  | .cel c, q, h, g => by
    cases e : c.down n with
    | none => simp [Part.low, e] at h
    | some d => simp [Part.low, e] at h; subst h; exact ⟨trivial, rfl, rfl⟩
  | .sum c d, q, h, g => by
    cases e1 : c.down n with
    | none => simp [Part.low, e1] at h
    | some a =>
      cases e2 : d.down n with
      | none => simp [Part.low, e1, e2] at h
      | some b => simp [Part.low, e1, e2] at h; subst h; exact ⟨trivial, rfl, rfl⟩
  | .op w p q, r, h, g => by
    cases e1 : p.low n with
    | none => simp [Part.low, e1] at h
    | some a =>
      cases e2 : q.low n with
      | none => simp [Part.low, e1, e2] at h
      | some b =>
        simp [Part.low, e1, e2] at h
        subst h
        have h1 := Part.low_good e1 g.1
        have h2 := Part.low_good e2 g.2
        exact ⟨⟨h1.1, h2.1⟩, by simp [Part.hgt, h1.2.1, h2.2.1], rfl⟩
  | .pick p q r t, z, h, g => by
    cases e1 : p.low n with
    | none => simp [Part.low, e1] at h
    | some a =>
      cases e2 : q.low n with
      | none => simp [Part.low, e1, e2] at h
      | some b =>
        cases e3 : r.low n with
        | none => simp [Part.low, e1, e2, e3] at h
        | some c =>
          cases e4 : t.low n with
          | none => simp [Part.low, e1, e2, e3, e4] at h
          | some d =>
            simp [Part.low, e1, e2, e3, e4] at h
            subst h
            have h1 := Part.low_good e1 g.1
            have h2 := Part.low_good e2 g.2.1
            have h3 := Part.low_good e3 g.2.2.1
            have h4 := Part.low_good e4 g.2.2.2
            exact ⟨⟨h1.1, h2.1, h3.1, h4.1⟩, by simp [Part.hgt, h1.2.1, h2.2.1, h3.2.1, h4.2.1], rfl⟩
/-- kids lowered, one by one -/
def Lows (n : Nat) (ps qs : List Part) : Prop := ps.map (Part.low n) = qs.map some
theorem Lows.app {n : Nat} {ps qs : List Part} {p q : Part} (h : Lows n ps qs) (e : p.low n = some q) : Lows n (ps ++ [p]) (qs ++ [q]) := by
  unfold Lows at h ⊢
  rw [List.map_append, List.map_append, h, List.map_singleton, e]
  rfl
theorem Part.low_of {n : Nat} {p : Part} {qs : List Part} (o : p.isOp = true) (h : Lows n p.kids qs) : ∃ r, p.low n = some r ∧ r.word = p.word ∧ r.kids = qs ∧ r.isOp = true := by
  cases p with
  | op w p q =>
    unfold Lows at h
    match qs, h with
    | [a, b], h =>
      simp only [Part.kids, List.map_cons, List.map_nil, List.cons.injEq, and_true] at h
      exact ⟨.op w a b, by simp [Part.low, h.1, h.2], rfl, rfl, rfl⟩
    | [], h => simp [Part.kids] at h
    | [a], h => simp [Part.kids] at h
    | a :: b :: c :: r, h => simp [Part.kids] at h
  | pick p q r t =>
    unfold Lows at h
    match qs, h with
    | [a, b, c, d], h =>
      simp only [Part.kids, List.map_cons, List.map_nil, List.cons.injEq, and_true] at h
      exact ⟨.pick a b c d, by simp [Part.low, h.1, h.2.1, h.2.2.1, h.2.2.2], rfl, rfl, rfl⟩
    | [], h => simp [Part.kids] at h
    | [a], h => simp [Part.kids] at h
    | [a, b], h => simp [Part.kids] at h
    | [a, b, c], h => simp [Part.kids] at h
    | a :: b :: c :: d :: e :: r, h => simp [Part.kids] at h
  | _ => exact absurd o Bool.false_ne_true
theorem Part.low_none {n : Nat} {p k : Part} (o : p.isOp = true) (m : k ∈ p.kids) (h : k.low n = none) : p.low n = none := by
  cases p with
  | op w p q =>
    simp only [Part.kids, List.mem_cons, List.not_mem_nil, or_false] at m
    rcases m with rfl | rfl
    · simp [Part.low, h]
    · cases e : p.low n <;> simp [Part.low, h, e]
  | pick p q r t =>
    simp only [Part.kids, List.mem_cons, List.not_mem_nil, or_false] at m
    rcases m with rfl | rfl | rfl | rfl
    · simp [Part.low, h]
    · cases e : p.low n <;> simp [Part.low, h, e]
    · cases e : p.low n <;> cases e2 : q.low n <;> simp [Part.low, h, e, e2]
    · cases e : p.low n <;> cases e2 : q.low n <;> cases e3 : r.low n <;> simp [Part.low, h, e, e2, e3]
  | _ => exact absurd o Bool.false_ne_true
/-- a part by its word and kids -/
theorem PA.of_node {K : PySem.W.Frag} {H : Hp} {p : Part} {a : Addr} {xs : List V} (o : p.isOp = true) (h : SqT K H a (.str p.word :: xs)) (k : PAs K H p.kids xs) : PA K H p (.ref a) := by
  cases p with
  | op w p q =>
    match xs, k with
    | [x, y], ⟨h1, h2, _⟩ => exact ⟨a, x, y, rfl, h, h1, h2⟩
    | [], k => exact k.elim
    | [x], ⟨_, k⟩ => exact k.elim
    | x :: y :: z :: r, ⟨_, _, k⟩ => exact k.elim
  | pick p q r t =>
    match xs, k with
    | [x, y, z, u], ⟨h1, h2, h3, h4, _⟩ => exact ⟨a, x, y, z, u, rfl, h, h1, h2, h3, h4⟩
    | [], k => exact k.elim
    | [x], ⟨_, k⟩ => exact k.elim
    | [x, y], ⟨_, _, k⟩ => exact k.elim
    | [x, y, z], ⟨_, _, _, k⟩ => exact k.elim
    | x :: y :: z :: u :: v :: r, ⟨_, _, _, _, k⟩ => exact k.elim
  | _ => exact absurd o Bool.false_ne_true
theorem PAs.app {K : PySem.W.Frag} {H : Hp} {p : Part} {v : V} (h : PA K H p v) : ∀ {ps : List Part} {xs : List V}, PAs K H ps xs → PAs K H (ps ++ [p]) (xs ++ [v])
  | [], [], _ => ⟨h, trivial⟩
  | _ :: _, _ :: _, ⟨a, b⟩ => ⟨a, PAs.app h b⟩
theorem slen_app (a b : Str) : (a ++ b).length = a.length + b.length := by
  show (a.cps ++ b.cps).size = a.cps.size + b.cps.size
  exact Array.size_append
theorem slen_num {n : Int} (h0 : -1000000 < n) (h1 : n < 1000000) : (Str.ofString (toString n)).length ≤ 7 := by
  have e : Str.ofString (toString n) = SX.S (nl n) := numS_nl n
  rw [e, S_length]
  exact nl_len h0 h1
theorem slen_empty : Str.empty.length = 0 := rfl
end U

namespace U
open PySem PySem.Spec L2 PyProof.Rows
/-! ### one dict's pairs put into another -/
section
variable {prog : Program} {w : World} {K : Type} [DecidableEq K] {knd : KeyKind prog w K} {A : Around} {E : Value → Shared → Prop} {s : Shared}
theorem wp_dictPut {d : Addr} {kvs : List (K × Value)} {k : K} {key v : Value} {Q : Unit → Shared → Prop} (hkey : knd.is k key = true) (hm : s.heap.DictOf knd d kvs)
    (hQ : ∀ h', h'.DictOf knd d (stored kvs k v) → Heap.SameBut d s.heap h' → Q () { s with heap := h' })
    (hsz : kvs.length ≤ sizeLine) :
    wpAny (model prog w) A (dictPut d (knd.hash k) key v) Q E s := by
  obtain ⟨o, es, ep, ho, hc, hd, hk, hp, hn⟩ := hm
  have hes : es.size ≤ sizeLine := by have e1 := hp.length; have e2 : es.toList.length = es.size := by simp
                                      omega
  unfold dictPut
  refine wpAny_bind (wpAny_dictFind_of hkey ho hd hk ?_)
  have hidx : (es.findIdx? fun e => knd.is k e.key) = kvs.findIdx? fun kv => decide (kv.1 = k) := by
    rw [← hp.findIdx k]; obtain ⟨l⟩ := es; simp
  cases hi : es.findIdx? fun e => knd.is k e.key with
  | some i =>
    refine wpAny_updateDict ho hd (hQ _ ⟨_, _, ep, Heap.get?_update_self _ ho (Obj.isFreed_of_dict (Obj.data_mapDict hd _)),
      hc.mapDict _, Obj.data_mapDict hd _, hk.modify _ _, ?_, ?_⟩ (Heap.SameBut.update ..))
    · rw [stored, if_pos (any_of_findIdx_some (hidx ▸ hi))]
      have hl : (es.toList.findIdx? fun e => knd.is k e.key) = some i := by rw [← hi]; obtain ⟨l⟩ := es; simp
      have := hp.modify hn hl v
      obtain ⟨l⟩ := es
      simpa using this
    · rw [stored, if_pos (any_of_findIdx_some (hidx ▸ hi)), keys_map_store]; exact hn
  | none =>
    have hnot : k ∉ kvs.map (·.1) := not_mem_of_findIdx_none (hidx ▸ hi)
    have hany : ¬ (kvs.any fun kv => decide (kv.1 = k)) = true := by
      rw [List.any_eq_true]; rintro ⟨kv, hkv, he⟩
      exact hnot (List.mem_map.mpr ⟨kv, hkv, of_decide_eq_true he⟩)
    refine wpAny_updateDictKeys (hz := hes) ho hd (hQ _ ⟨_, _, ep + 1, Heap.get?_update_self _ ho (Obj.isFreed_of_dict (Obj.data_mapDictKeys hd _)),
      hc.mapDictKeys _, Obj.data_mapDictKeys hd _, hk.push hkey _, ?_, ?_⟩ (Heap.SameBut.update ..))
    · rw [stored, if_neg hany]
      have := hp.append hkey (knd.hash k) v
      obtain ⟨l⟩ := es
      simpa using this
    · rw [stored, if_neg hany, List.map_append, List.nodup_append]
      refine ⟨hn, by simp, ?_⟩
      intro a ha b hb
      simp only [List.map_cons, List.map_nil, List.mem_singleton] at hb
      subst hb
      exact fun e => hnot (e ▸ ha)
theorem wp_mergeMap {d o : Addr} {kvs more : List (K × Value)} {Q : Unit → Shared → Prop} (hdo : d ≠ o) (hoS : (o == sysModules) = false)
    (hd : s.heap.DictOf knd d kvs) (ho : s.heap.DictOf knd o more) (hsz : kvs.length + more.length ≤ sizeLine) (hnr : ∀ k v, knd.is k v = true → ∀ a, v ≠ .ref a)
    (hQ : ∀ h', h'.DictOf knd d (merged kvs more) → h'.DictOf knd o more → Heap.SameBut d s.heap h' → Q () { s with heap := h' }) :
    wpAny (model prog w) A (mergeMapping d (.ref o) false) Q E s := by
  have hoT := ho.typeIs
  obtain ⟨od, esd, epd, hod, hcd, hdd, hkd, hpd, hnd⟩ := id hd
  obtain ⟨oo, eso, epo, hoo, hco, hdo', hko, hpo, hno⟩ := id ho
  have hlen : more.length = eso.size := by rw [← hpo.length]; simp
  unfold mergeMapping
  refine wpAny_bind (wpAny_isInstance hoT isSubtype_dict_dict ?_)
  rw [if_pos rfl]
  refine wpAny_bind (wpAny_specialOf hoT F.slot_dict_iter.lookup ?_)
  refine wpAny_bind (wpAny_pure ?_)
  have loop : wpAny (model prog w) A (do
      let l ← dictEntries o
      let epoch ← dictEpoch o
      forIn (List.range l.size) PUnit.unit fun i (_ : PUnit) => (do
          let l' ← dictEntries o
          match l'[i]? with
            | some e => do
              holding [e.key, e.val] (dictPut d e.hash e.key e.val)
              let ep' ← dictEpoch o
              if (ep' != epoch) = true then do
                  (unsupported "dict.changed-during-merge" : Sem PUnit)
                  pure (ForInStep.yield PUnit.unit)
                else pure (ForInStep.yield PUnit.unit)
            | _ => do
              (unsupported "dict.changed-during-merge" : Sem PUnit)
              pure (ForInStep.yield PUnit.unit) : Sem (ForInStep PUnit))
      pure ()) Q E s := by
    refine wpAny_bind (wpAny_dictEntries hoo hdo' ?_)
    refine wpAny_bind (wpAny_dictEpoch hoo hdo' ?_)
    refine wpAny_bind ?_
    rw [List.range_eq_range']
    refine wpAny_forIn_list _
      (fun rest _ s' => ∃ h' i, s' = { s with heap := h' } ∧ rest = List.range' i (eso.size - i) ∧ i ≤ eso.size ∧ h'.DictOf knd d (merged kvs (more.take i)) ∧ h'.get? o = some oo ∧ Heap.SameBut d s.heap h')
      _ ?_ ?_ _ _ ⟨s.heap, 0, rfl, by simp, Nat.zero_le _, by simpa [merged] using hd, hoo, Heap.SameBut.refl _ _⟩
    · rintro x rest b s' ⟨h', i, rfl, hr, hi, hd', hoo', hs'⟩
      have hlt : i < eso.size := by
        rcases Nat.lt_or_ge i eso.size with h | h
        · exact h
        · rw [Nat.sub_eq_zero_of_le h] at hr; simp at hr
      obtain ⟨rfl, hrest⟩ : x = i ∧ rest = List.range' (i + 1) (eso.size - (i + 1)) := by
        have e : eso.size - i = (eso.size - (i + 1)) + 1 := by omega
        rw [e, List.range'_succ] at hr
        injection hr with h1 h2
        exact ⟨h1, h2⟩
      refine wpAny_bind (wpAny_dictEntries hoo' hdo' ?_)
      rw [Array.getElem?_eq_getElem hlt]
      obtain ⟨kv, hkv⟩ : ∃ kv, more[x]? = some kv := ⟨more[x]'(by rw [hlen]; exact hlt), List.getElem?_eq_getElem _⟩
      obtain ⟨k, v⟩ := kv
      obtain ⟨hkey, hval⟩ := hpo.get? (e := eso[x]) (by simp [hlt]) hkv
      obtain ⟨k', hkey', hhash⟩ := hko eso[x] (Array.getElem_mem hlt)
      obtain rfl : k' = k := knd.inj _ _ _ hkey' hkey
      show wpAny _ _ (holding [eso[x].key, eso[x].val] (dictPut d eso[x].hash eso[x].key eso[x].val) >>= _) _ _ _
      rw [hhash, hval]
      have hmx : (merged kvs (more.take x)).length ≤ sizeLine := by
        have e1 := merged_length_le kvs (more.take x)
        have e2 : (more.take x).length ≤ more.length := by rw [List.length_take]; omega
        omega
      refine wpAny_bind (wpAny_holding (wp_dictPut (hsz := hmx) hkey hd' fun h'' hd'' hs'' => ?_))
      have hoo'' : h''.get? o = some oo := (hs''.2 o (Ne.symm hdo)).trans hoo'
      refine wpAny_bind (wpAny_dictEpoch hoo'' hdo' ?_)
      rw [if_neg (by simp)]
      exact wpAny_pure ⟨h'', x + 1, rfl, hrest, hlt, by rw [merged_take_succ kvs more x (k', v) hkv]; exact hd'', hoo'', hs'.trans hs''⟩
    · rintro b s' ⟨h', i, rfl, hr, hi, hd', hoo', hs'⟩
      have hin : i = eso.size := by
        rcases Nat.lt_or_ge i eso.size with h | h
        · have e : eso.size - i = (eso.size - (i + 1)) + 1 := by omega
          rw [e, List.range'_succ] at hr; exact nomatch hr
        · exact Nat.le_antisymm hi h
      refine wpAny_pure (hQ h' ?_ ⟨oo, eso, epo, hoo', hco, hdo', hko, hpo, hno⟩ hs')
      rw [hin, ← hlen, List.take_length] at hd'; exact hd'
  rw [show (some (Value.builtin "dict.__iter__") == some (Value.builtin "dict.__iter__")) = true from beq_self_eq_true _]
  show wpAny _ _ (if (o == sysModules) = true then _ else _) _ _ _
  rw [if_neg (by rw [hoS]; exact Bool.false_ne_true)]
  refine wpAny_bind (wpAny_dictEntries hod hdd ?_)
  show wpAny _ _ (if esd.isEmpty = true then _ else _) _ _ _
  by_cases hem : esd.isEmpty = true
  · rw [if_pos hem]
    refine wpAny_bind (wpAny_dictEntries hoo hdo' ?_)
    refine wpAny_bind ?_
    rw [← Array.forIn_toList]
    refine wpAny_forIn_list _ (fun rest _ s' => s' = s ∧ ∀ e ∈ rest, e ∈ eso) _ ?_ ?_ _ _ ⟨rfl, fun e h => Array.mem_toList_iff.mp h⟩
    · rintro e rest b s' ⟨rfl, hm⟩
      obtain ⟨k', hkey', _⟩ := hko e (hm e List.mem_cons_self)
      have hn := hnr k' _ hkey'
      refine (?_ : wpAny _ _ (match e.key with | .ref _ => _ | _ => _) _ _ _)
      split
      · rename_i a ha
        exact absurd ha (hn a)
      · exact wpAny_pure ⟨rfl, fun e h => hm e (List.mem_cons_of_mem _ h)⟩
    · rintro b s' ⟨rfl, _⟩
      exact loop
  · rw [if_neg hem]
    exact loop
end
/-- {**a, **b} -/
def tMerge (t1 t2 : TE) : TE := fun σ H Q => ∀ p, H p = none → t1 σ (upd H p (.dK [])) fun x H1 => H1 p = some (.dK []) ∧ ∃ a ks, x = .ref a ∧ a ≠ p ∧ Rd H1 a (.dK ks) ∧ ks.length ≤ 1000 ∧
  t2 σ (upd H1 p (.dK (mergeK [] ks))) fun y H2 => H2 p = some (.dK (mergeK [] ks)) ∧ ∃ b ls, y = .ref b ∧ b ≠ p ∧ Rd H2 b (.dK ls) ∧ ls.length ≤ 1000 ∧ Q (.ref p) (upd H2 p (.dK (mergeK (mergeK [] ks) ls)))
theorem key_noref {prog : Program} {w : World} : ∀ k v, (mixKind prog w).is k v = true → ∀ a, v ≠ .ref a := fun k v h a e => by
  subst e
  rcases keyIs_shape h with ⟨i, t, _, z⟩ | ⟨x, t, _, z⟩ <;> cases z
theorem pe_merge {X : Cx} {pos : Pos} {e1 e2 : Expr} {t1 t2 : TE} (h1 : PE X e1 t1) (h2 : PE X e2 t2) : PE X (.Dict [none, none] [e1, e2] pos) (tMerge t1 t2) := by
  refine ⟨fun pins s σ H Q I q => ?_⟩
  rw [arm_eval_Dict]
  refine wpAny_bind (wpAny_standAt ?_)
  have hn := I.hok.fresh (Nat.le_refl s.heap.objs.size)
  have I1 := I.laid (a := s.heap.objs.size) (o := .dK []) (h' := s.heap.push { cls := .type "dict", data := .dict #[] }) (t' := s.toks) (fun _ _ q => Heap.get?_push_of_some _ q) (Nat.le_refl _) (dk_empty s.heap I.big)
  show wpAny _ _ (dictDisplay [(none, do let x ← eval e1 X.env; standAt pos; pure x), (none, do let x ← eval e2 X.env; standAt pos; pure x)]) _ _ _
  unfold dictDisplay
  dsimp only
  rw [List.forIn_cons]
  refine wpAny_bind ?_
  refine wpAny_bind ?_
  refine wpAny_bind ?_
  show wpAny _ _ (pure (none : Option Addr)) _ _ _
  refine wpAny_pure ?_
  show wpAny _ _ (alloc { cls := .type "dict", data := .dict #[] } >>= _) _ _ _
  refine wpAny_bind (wpAny_alloc ?_)
  refine wpAny_bind (wpAny_holding ?_)
  show wpAny _ _ (eval e1 X.env >>= _) _ _ _
  refine wpAny_bind (thn (h1.run pins _ σ _ _ I1 (q _ hn)) fun u1 s2 ⟨x, H1, I2, r1, eD, a, ks, ea, na, rd, hl, q2⟩ => ?_)
  subst ea
  cases r1
  refine wpAny_bind (wpAny_standAt (wpAny_pure ?_))
  obtain ⟨z, hd, vs0, r0, dd⟩ := dk_of I2.hok eD
  cases r0
  obtain ⟨z1, lo1, vs1, rel1, dd1⟩ := dk_rd I2.hok rd
  refine wpAny_bind (wpAny_onRaise (wpAny_tryCatch (wpAny_onRaise (wpAny_holding (wp_mergeMap (knd := mixKind X.prog X.w) na.symm lo1 dd dd1 (by rw [List.length_nil, ← rel1.length, sizeLine_eq]; omega) key_noref fun h' dd' _ hs => ?_)))))
  refine wpAny_pure ?_
  have he : ∃ q, h'.get? s.heap.objs.size = some q := let ⟨q, _, _, hq, _⟩ := dd'; ⟨q, hq⟩
  have hz : (mergeK [] ks).length ≤ sizeLine := by
    have h1 := length_mergeK ks []
    rw [List.length_nil] at h1
    rw [sizeLine_eq]; omega
  have I3 := d_write (t' := s2.toks) I2 (by rw [eD]; exact True.intro) hs he (dk_new hz hd (rel1.merge .nil) dd')
  show wpAny _ _ (forIn [_] _ _) _ _ _
  rw [List.forIn_cons]
  refine wpAny_bind ?_
  refine wpAny_bind ?_
  show wpAny _ _ (pure (some s.heap.objs.size : Option Addr)) _ _ _
  refine wpAny_pure ?_
  show wpAny _ _ (pure (s.heap.objs.size : Addr) >>= _) _ _ _
  refine wpAny_bind (wpAny_pure ?_)
  refine wpAny_bind (wpAny_holding ?_)
  show wpAny _ _ (eval e2 X.env >>= _) _ _ _
  refine wpAny_bind (thn (h2.run pins _ σ _ _ I3 q2) fun u2 s4 ⟨y, H2, I4, r2, eD2, b, ls, eb, nb, rd2, hl2, q3⟩ => ?_)
  subst eb
  cases r2
  refine wpAny_bind (wpAny_standAt (wpAny_pure ?_))
  obtain ⟨z4, hd4, vs4, r4, dd4⟩ := dk_of I4.hok eD2
  obtain ⟨z5, lo5, vs5, rel5, dd5⟩ := dk_rd I4.hok rd2
  have hk : (mergeK [] ks).length ≤ 1000 := by
    have h1 := length_mergeK ks []
    rw [List.length_nil] at h1
    omega
  refine wpAny_bind (wpAny_onRaise (wpAny_tryCatch (wpAny_onRaise (wpAny_holding (wp_mergeMap (knd := mixKind X.prog X.w) nb.symm lo5 dd4 dd5 (by rw [← r4.length, ← rel5.length, sizeLine_eq]; omega) key_noref fun h5 dd6 _ hs5 => ?_)))))
  refine wpAny_pure ?_
  have he5 : ∃ q, h5.get? s.heap.objs.size = some q := let ⟨q, _, _, hq, _⟩ := dd6; ⟨q, hq⟩
  have hz5 : (mergeK (mergeK [] ks) ls).length ≤ sizeLine := by
    have h1 := length_mergeK ls (mergeK [] ks)
    rw [sizeLine_eq]; omega
  have I5 := d_write (t' := s4.toks) I4 (by rw [eD2]; exact True.intro) hs5 he5 (dk_new hz5 hd4 (rel5.merge r4) dd6)
  show wpAny _ _ (forIn [] _ _) _ _ _
  rw [List.forIn_nil]
  refine wpAny_pure ?_
  refine wpAny_bind ?_
  show wpAny _ _ (pure (some s.heap.objs.size : Option Addr)) _ _ _
  refine wpAny_pure (wpAny_pure ?_)
  exact ⟨.ref s.heap.objs.size, _, I5, rfl, q3⟩
end U

namespace U
open PySem PySem.Spec L2 PyProof.Rows
/-! ### contents as data -/
def oD : Option Part → PyData
  | none => .none
  | some p => p.data
theorem CA.dp {K : PySem.W.Frag} {H : Hp} : ∀ {o : Option Part} {v : V}, CA K H o v → Dp K H v (oD o)
  | none, v, h => by cases (show v = V.non from h); exact .non
  | some p, v, h => PA.dp h
theorem cel_ok (c : Cel) : PyData.canLay0 (.str c.s) = true := by
  have h1 := c.hc
  have h2 := c.hr
  show PyData.strOk c.s = true
  show (#[97 + c.c, 49 + c.r] : Array Nat).all (· < 0x110000) = true
  simp
  omega
theorem canC (x : PyData) (xs : List PyData) : PyData.canLayAll0 (x :: xs) = (x.canLay0 && PyData.canLayAll0 xs) := by rw [PyData.canLayAll0]
theorem can_tup {xs : List PyData} : PyData.canLay0 (.tuple xs) = PyData.canLayAll0 xs := by rw [PyData.canLay0]
theorem can_lst {xs : List PyData} : PyData.canLay0 (.list xs) = PyData.canLayAll0 xs := by rw [PyData.canLay0]
theorem can_nil : PyData.canLayAll0 [] = true := by rw [PyData.canLayAll0]
theorem can_int (n : Int) : PyData.canLay0 (.int n) = true := by rw [PyData.canLay0]
theorem can_str (x : Str) : PyData.canLay0 (.str x) = PyData.strOk x := by rw [PyData.canLay0]
theorem Part.can : ∀ p : Part, p.data.canLay0 = true
  | .num n => by
    rw [Part.data, can_tup, canC, canC, can_nil, can_int, can_str]
    decide +kernel
  | .cel c => by
    rw [Part.data, can_tup, canC, canC, can_nil, cel_ok, can_str]
    decide +kernel
  | .sum c d => by
    rw [Part.data, can_tup, canC, canC, canC, can_nil, cel_ok, cel_ok, can_str]
    decide +kernel
  | .op w p q => by
    rw [Part.data, can_tup, canC, canC, canC, can_nil, Part.can p, Part.can q, can_str]
    cases w <;> decide +kernel
  | .pick p q r t => by
    rw [Part.data, can_tup, canC, canC, canC, canC, canC, can_nil, Part.can p, Part.can q, Part.can r, Part.can t, can_str]
    decide +kernel
theorem oD_can (o : Option Part) : (oD o).canLay0 = true := by
  cases o with
  | none => show PyData.canLay0 .none = true; rw [PyData.canLay0]
  | some p => exact p.can
theorem oD_depth {o : Option Part} {n : Nat} (h : goodC o n) : PyData.depth (oD o) ≤ n := by
  cases o with
  | none => simp [oD, PyData.depth]
  | some p => exact Nat.le_trans p.data_depth h.2
theorem oD_shaped {o : Option Part} (h : goodC o 60) : SeqAt.shaped (oD o) = true := by
  unfold SeqAt.shaped
  rw [oD_can, Bool.true_and, decide_eq_true_eq]
  exact Nat.le_trans (oD_depth h) (by decide)
/-! ### equal data is equal content -/
def W3.tag : W3 → Nat
  | .add => 3
  | .sub => 4
  | .mul => 5
def Part.tag : Part → Nat
  | .num _ => 0
  | .cel _ => 1
  | .sum _ _ => 2
  | .op w _ _ => w.tag
  | .pick _ _ _ _ => 6
def tagS (s : Str) : Nat := if s = "num" then 0 else if s = "cell" then 1 else if s = "sum" then 2 else if s = "add" then 3 else if s = "sub" then 4 else if s = "mul" then 5 else 6
theorem tag_word (p : Part) : tagS p.word = p.tag := by
  cases p with
  | op w p q => show tagS w.s = w.tag; cases w <;> decide +kernel
  | num n => show tagS "num" = 0; decide +kernel
  | cel n => show tagS "cell" = 1; decide +kernel
  | sum n m => show tagS "sum" = 2; decide +kernel
  | pick p q r t => show tagS "pick" = 6; decide +kernel
theorem evC (x y : PyData) (xs ys : List PyData) : PyData.eqvAll (x :: xs) (y :: ys) = (PyData.eqv x y && PyData.eqvAll xs ys) := by rw [PyData.eqvAll]
theorem evT (xs ys : List PyData) : PyData.eqv (.tuple xs) (.tuple ys) = PyData.eqvAll xs ys := by rw [PyData.eqv]
theorem evL (xs ys : List PyData) : PyData.eqv (.list xs) (.list ys) = PyData.eqvAll xs ys := by rw [PyData.eqv]
theorem evN : PyData.eqvAll [] [] = true := by rw [PyData.eqvAll]
theorem evS (x y : Str) : PyData.eqv (.str x) (.str y) = decide (x = y) := by rw [PyData.eqv, Bool.beq_eq_decide_eq]
theorem evI (x y : Int) : PyData.eqv (.int x) (.int y) = decide (x = y) := by rw [PyData.eqv, Bool.beq_eq_decide_eq]
theorem Part.data_w (p : Part) : ∃ ds, p.data = .tuple (.str p.word :: ds) := by cases p <;> exact ⟨_, rfl⟩
theorem eqv_tag {p q : Part} (h : PyData.eqv p.data q.data = true) : p.tag = q.tag := by
  obtain ⟨d1, e1⟩ := p.data_w
  obtain ⟨d2, e2⟩ := q.data_w
  rw [e1, e2, evT, evC, evS, Bool.and_eq_true, decide_eq_true_eq] at h
  rw [← tag_word, ← tag_word, h.1]
theorem S_cel {c d : Cel} (h : c.s = d.s) : c = d := Cel.l_inj (by
  have h2 := congrArg (fun s => s.cps.toList) h
  exact h2)
theorem eqv_part : ∀ {p q : Part}, PyData.eqv p.data q.data = true → p = q
  | .num n, .num m, h => by
    simp only [Part.data, evT, evC, evN, evS, evI, Bool.and_eq_true, decide_eq_true_eq] at h
    rw [h.2.1]
  | .cel c, .cel d, h => by
    simp only [Part.data, evT, evC, evN, evS, Bool.and_eq_true, decide_eq_true_eq] at h
    rw [S_cel h.2.1]
  | .sum c d, .sum c' d', h => by
    simp only [Part.data, evT, evC, evN, evS, Bool.and_eq_true, decide_eq_true_eq] at h
    rw [S_cel h.2.1, S_cel h.2.2.1]
  | .op w p q, .op w' p' q', h => by
    have ht : w.tag = w'.tag := eqv_tag h
    simp only [Part.data, evT, evC, evN, evS, Bool.and_eq_true, decide_eq_true_eq] at h
    have hw : w = w' := by cases w <;> cases w' <;> first | rfl | exact absurd ht (by decide)
    rw [hw, eqv_part h.2.1, eqv_part h.2.2.1]
  | .pick p q r t, .pick p' q' r' t', h => by
    simp only [Part.data, evT, evC, evN, evS, Bool.and_eq_true, decide_eq_true_eq] at h
    rw [eqv_part h.2.1, eqv_part h.2.2.1, eqv_part h.2.2.2.1, eqv_part h.2.2.2.2.1]
  | .num _, .cel _, h => absurd (eqv_tag h) (by simp [Part.tag])
  | .num _, .sum _ _, h => absurd (eqv_tag h) (by simp [Part.tag])
  | .num _, .op w _ _, h => absurd (eqv_tag h) (by cases w <;> simp [Part.tag, W3.tag])
  | .num _, .pick _ _ _ _, h => absurd (eqv_tag h) (by simp [Part.tag])
  | .cel _, .num _, h => absurd (eqv_tag h) (by simp [Part.tag])
  | .cel _, .sum _ _, h => absurd (eqv_tag h) (by simp [Part.tag])
  | .cel _, .op w _ _, h => absurd (eqv_tag h) (by cases w <;> simp [Part.tag, W3.tag])
  | .cel _, .pick _ _ _ _, h => absurd (eqv_tag h) (by simp [Part.tag])
  | .sum _ _, .num _, h => absurd (eqv_tag h) (by simp [Part.tag])
  | .sum _ _, .cel _, h => absurd (eqv_tag h) (by simp [Part.tag])
  | .sum _ _, .op w _ _, h => absurd (eqv_tag h) (by cases w <;> simp [Part.tag, W3.tag])
  | .sum _ _, .pick _ _ _ _, h => absurd (eqv_tag h) (by simp [Part.tag])
  | .op w _ _, .num _, h => absurd (eqv_tag h) (by cases w <;> simp [Part.tag, W3.tag])
  | .op w _ _, .cel _, h => absurd (eqv_tag h) (by cases w <;> simp [Part.tag, W3.tag])
  | .op w _ _, .sum _ _, h => absurd (eqv_tag h) (by cases w <;> simp [Part.tag, W3.tag])
  | .op w _ _, .pick _ _ _ _, h => absurd (eqv_tag h) (by cases w <;> simp [Part.tag, W3.tag])
  | .pick _ _ _ _, .num _, h => absurd (eqv_tag h) (by simp [Part.tag])
  | .pick _ _ _ _, .cel _, h => absurd (eqv_tag h) (by simp [Part.tag])
  | .pick _ _ _ _, .sum _ _, h => absurd (eqv_tag h) (by simp [Part.tag])
  | .pick _ _ _ _, .op w _ _, h => absurd (eqv_tag h) (by cases w <;> simp [Part.tag, W3.tag])
theorem eqv_same : ∀ p : Part, PyData.eqv p.data p.data = true
  | .num n => by simp [Part.data, evT, evC, evN, evS, evI]
  | .cel c => by simp [Part.data, evT, evC, evN, evS]
  | .sum c d => by simp [Part.data, evT, evC, evN, evS]
  | .op w p q => by simp [Part.data, evT, evC, evN, evS, eqv_same p, eqv_same q]
  | .pick p q r t => by simp [Part.data, evT, evC, evN, evS, eqv_same p, eqv_same q, eqv_same r, eqv_same t]
theorem eqv_oD (a b : Option Part) : PyData.eqv (oD a) (oD b) = decide (a = b) := by
  cases a with
  | none =>
    cases b with
    | none => simp [oD, PyData.eqv]
    | some q =>
      obtain ⟨ds, e⟩ := q.data_w
      show PyData.eqv .none q.data = _
      rw [e]
      simp [PyData.eqv]
  | some p =>
    cases b with
    | none =>
      obtain ⟨ds, e⟩ := p.data_w
      show PyData.eqv p.data .none = _
      rw [e]
      simp [PyData.eqv]
    | some q =>
      show PyData.eqv p.data q.data = _
      by_cases h : p = q
      · subst h
        rw [eqv_same]
        simp
      · have : PyData.eqv p.data q.data = false := Bool.eq_false_iff.mpr fun z => h (eqv_part z)
        rw [this]
        simp [h]
/-! ### two dicts of equal data -/
theorem hits_data {X : Cx} {pins : List (Addr × Obj)} {σ : L2.St} {H : Hp} {s : Shared} (I : Inv X pins σ H s) {A : Around} (hu : A.units + 64 < cLine) {kvs : List (Key × V)} {vb : List (Key × Value)} (rb : KV kvs vb) {es : List (Key × V)} {va : List (Key × Value)} (ra : KV es va) :
    (∀ p ∈ es, ∃ y d e, valV kvs p.1 = some y ∧ Dp X.K H p.2 d ∧ Dp X.K H y e ∧ SeqAt.shaped d = true ∧ SeqAt.shaped e = true ∧ PyData.eqv d e = true) → PySem.W.KeqHits A s vb va true := by
  unfold KV at ra
  induction ra with
  | nil => exact fun _ => .nil
  | @cons p q pr qr h t ih =>
    intro hp
    obtain ⟨y, d, e, ey, dd, de, sd, se, q1⟩ := hp p List.mem_cons_self
    obtain ⟨u, hy, ry⟩ := (show RelO (some y) (valueAt vb p.1) by rw [← ey]; exact rb.val p.1).some_of
    obtain ⟨k, v⟩ := q
    have h1 : p.1 = k := h.1
    have h2 : RelV p.2 v := h.2
    rw [h1] at hy
    obtain ⟨as, r1⟩ := Dp.reads I d p.2 v dd h2
    obtain ⟨bs, r2⟩ := Dp.reads I e y u de ry
    have ea := SeqAt.eqAt_reads d e A s v u as bs r1 r2 (SeqAt.canLay_of_shaped sd) (SeqAt.canLay_of_shaped se) (SeqAt.room_of_shaped sd hu)
    rw [q1] at ea
    exact PySem.W.KeqHits.hit (e := true) (b := true) hy ea (ih fun z hz => hp z (List.mem_cons_of_mem _ hz))
def rNeDD (K : PySem.W.Frag) : R2 := fun x y H Q => ∃ a b kvs kws, x = .ref a ∧ y = .ref b ∧ H a = some (.dK kvs) ∧ H b = some (.dK kws) ∧ kvs.length = kws.length ∧ (∀ p ∈ kvs, ∃ y d e, valV kws p.1 = some y ∧ Dp K H p.2 d ∧ Dp K H y e ∧ SeqAt.shaped d = true ∧ SeqAt.shaped e = true ∧ PyData.eqv d e = true) ∧ Q (.bl false) H
theorem op_neDD {X : Cx} (hu : X.A.units + 65 < cLine) : OpR X (compareOp .NotEq) (rNeDD X.K) := by
  rintro ps s σ H x y v u Q I rx ry ⟨a, b, kvs, kws, rfl, rfl, ea, eb, hl, hp, q⟩
  obtain rfl : v = Value.ref a := rx
  obtain rfl : u = Value.ref b := ry
  obtain ⟨_, ya, va, ra, da⟩ := (show ObjOk X.prog X.w H s.heap a (.dK kvs) from I.hok a _ ea)
  obtain ⟨_, yb, vb, rb, db⟩ := (show ObjOk X.prog X.w H s.heap b (.dK kws) from I.hok b _ eb)
  have hl : va.length = vb.length := ra.length.symm.trans (hl.trans rb.length)
  exact PySem.W.keq_ne (knd := mixKind X.prog X.w) (r := true) ya yb da db (by omega) (fun _ => hits_data I (by show X.A.units + 1 + 64 < cLine; omega) rb ra hp) (fin_bl I q (by simp [hl]))
end U

namespace U
open PySem PySem.Spec L2 PyProof.Rows
/-! ### deeds -/
inductive Deed where
  | set (c : Cel) (o : Option Part) | swap (c d : Cel) | fill (c : Cel) (n : Nat)
def Deed.ok : Deed → Prop
  | .set _ o => goodC o 5
  | .swap _ _ => True
  | .fill c n => 1 ≤ n ∧ c.r + n < 9
def Deed.vs : Deed → List V
  | .set c o => [.str "set", .str c.s, .str (SX.S (ctx o))]
  | .swap c d => [.str "swap", .str c.s, .str d.s]
  | .fill c n => [.str "fill", .str c.s, .int n]
def DA (K : PySem.W.Frag) (H : Hp) (D : Deed) (v : V) : Prop := ∃ a, v = .ref a ∧ SqT K H a D.vs
theorem DA.tk {K : PySem.W.Frag} {H H' : Hp} {D : Deed} {v : V} (t : Tk K H H') (h : DA K H D v) : DA K H' D v := let ⟨a, e, q⟩ := h; ⟨a, e, t _ _ q⟩
def Cel.dn (c : Cel) (k : Nat) : Str := match c.down k with
  | some d => d.s
  | none => ""
theorem Cel.dn_some {c d : Cel} {k : Nat} (h : c.down k = some d) : c.dn k = d.s := by unfold Cel.dn; rw [h]
def fillN (c : Cel) (o : Option Part) : Nat → Option (List (Str × Option Part))
  | 0 => some []
  | n + 1 => match fillN c o n with
    | some l => match lowC (n + 1) o with
      | some o' => some (put l (c.dn (n + 1)) o')
      | none => none
    | none => none
def Deed.nw (cs : List (Str × Part)) : Deed → Option (List (Str × Option Part))
  | .set c o => some [(c.s, o)]
  | .swap c d => some (put [(c.s, lk cs d.s)] d.s (lk cs c.s))
  | .fill c n => fillN c (lk cs c.s) n
/-- what is asked of newer contents -/
structure NsOk (ns : List (Str × Option Part)) : Prop where
  nd : (ks ns).Nodup
  ce : ∀ x ∈ ks ns, isC x
  gd : ∀ e ∈ ns, goodC e.2 5
theorem NsOk.len {ns : List (Str × Option Part)} (c : NsOk ns) : ns.length ≤ 54 := by
  have := cells_le54 c.nd c.ce
  unfold ks at this
  rwa [List.length_map] at this
theorem NsOk.put {ns : List (Str × Option Part)} {x : Str} {o : Option Part} (h : NsOk ns) (hx : isC x) (g : goodC o 5) : NsOk (put ns x o) :=
  ⟨put_nodup h.nd, fun y hy => by
    rw [ks_put, mem_addU] at hy
    rcases hy with hy | rfl
    · exact h.ce y hy
    · exact hx, fun e he => by
    rcases mem_put he with rfl | he
    · exact g
    · exact h.gd e he⟩
theorem NsOk.nil : NsOk [] := ⟨List.nodup_nil, fun _ h => (by cases h), fun _ h => (by cases h)⟩
theorem good_lk {cs : List (Str × Part)} (ok : CsOk cs) (x : Str) : goodC (lk cs x) 5 := by
  cases h : lk cs x with
  | none => trivial
  | some p => exact ok.gd _ (lk_mem h)
theorem good_low {o o' : Option Part} {n m : Nat} (g : goodC o m) (h : lowC n o = some o') : goodC o' m := by
  cases o with
  | none => cases h; trivial
  | some p =>
    cases e : p.low n with
    | none => simp [lowC, e] at h
    | some q =>
      simp [lowC, e] at h
      subst h
      have h2 := Part.low_good e g.1
      exact ⟨h2.1, by have := g.2; omega⟩
theorem fillN_ok {c : Cel} {o : Option Part} (g : goodC o 5) : ∀ {n : Nat} {ns : List (Str × Option Part)}, c.r + n < 9 → fillN c o n = some ns → NsOk ns
  | 0, ns, _, h => by cases h; exact .nil
  | n + 1, ns, hr, h => by
    unfold fillN at h
    cases e : fillN c o n with
    | none => simp [e] at h
    | some l =>
      cases e2 : lowC (n + 1) o with
      | none => simp [e, e2] at h
      | some o' =>
        simp [e, e2] at h
        subst h
        refine (fillN_ok g (by omega) e).put ?_ (good_low g e2)
        have hd : c.down (n + 1) = some ⟨c.c, c.r + (n + 1), c.hc, hr⟩ := by unfold Cel.down; rw [dif_pos hr]
        rw [Cel.dn_some hd]
        exact ⟨_, rfl⟩
theorem nw_ok {cs : List (Str × Part)} (ok : CsOk cs) {D : Deed} (hD : D.ok) {ns : List (Str × Option Part)} (h : D.nw cs = some ns) : NsOk ns := by
  cases D with
  | set c o => cases h; exact ⟨by simp [ks], fun x hx => by simp [ks] at hx; exact ⟨c, hx⟩, fun e he => by simp at he; subst he; exact hD⟩
  | swap c d =>
    cases h
    refine NsOk.put ⟨by simp [ks], fun x hx => by simp [ks] at hx; exact ⟨c, hx⟩, fun e he => by simp at he; subst he; exact good_lk ok _⟩ ⟨d, rfl⟩ (good_lk ok _)
  | fill c n => exact fillN_ok (good_lk ok _) hD.2 h
/-! ### rows of what changes -/
def nv (ns : List (Str × Option Part)) (x : Str) : Option Part := (lk ns x).getD none
abbrev Row := Str × Option Part × Option Part
def rows (cs : List (Str × Part)) (ns : List (Str × Option Part)) (l : List Str) : List Row := (l.filter fun x => !decide (lk cs x = nv ns x)).map fun x => (x, lk cs x, nv ns x)
def RowA (K : PySem.W.Frag) (H : Hp) (r : Row) (v : V) : Prop := ∃ a u1 u2, v = .ref a ∧ SqT K H a [.str r.1, u1, u2] ∧ CA K H r.2.1 u1 ∧ CA K H r.2.2 u2
theorem RowA.tk {K : PySem.W.Frag} {H H' : Hp} {r : Row} {v : V} (t : Tk K H H') (h : RowA K H r v) : RowA K H' r v := let ⟨a, u1, u2, e, q, c1, c2⟩ := h; ⟨a, u1, u2, e, t _ _ q, c1.tk t, c2.tk t⟩
def RAs (K : PySem.W.Frag) (H : Hp) : List Row → List V → Prop
  | [], [] => True
  | r :: rs, v :: vs => RowA K H r v ∧ RAs K H rs vs
  | _, _ => False
theorem RAs.tk {K : PySem.W.Frag} {H H' : Hp} (t : Tk K H H') : ∀ {rs : List Row} {vs : List V}, RAs K H rs vs → RAs K H' rs vs
  | [], [], _ => trivial
  | _ :: _, _ :: _, h => ⟨h.1.tk t, RAs.tk t h.2⟩
theorem RAs.snoc {K : PySem.W.Frag} {H : Hp} {r : Row} {v : V} : ∀ {rs : List Row} {vs : List V}, RAs K H rs vs → RowA K H r v → RAs K H (rs ++ [r]) (vs ++ [v])
  | [], [], _, h => ⟨h, trivial⟩
  | _ :: _, _ :: _, q, h => ⟨q.1, RAs.snoc q.2 h⟩
theorem RAs.len {K : PySem.W.Frag} {H : Hp} : ∀ {rs : List Row} {vs : List V}, RAs K H rs vs → vs.length = rs.length
  | [], [], _ => rfl
  | _ :: _, _ :: _, h => by simp [RAs.len h.2]
theorem RAs.get {K : PySem.W.Frag} {H : Hp} : ∀ {rs : List Row} {vs : List V} {i : Nat} {v : V}, RAs K H rs vs → vs[i]? = some v → ∃ r, rs[i]? = some r ∧ RowA K H r v
  | [], [], i, v, _, h => by simp at h
  | r :: _, _ :: _, 0, v, q, h => by
    simp only [List.getElem?_cons_zero, Option.some.injEq] at h
    exact ⟨r, rfl, h ▸ q.1⟩
  | _ :: _, _ :: _, i + 1, v, q, h => RAs.get (i := i) q.2 (by simpa using h)
def rD (r : Row) : PyData := .tuple [.str r.1, oD r.2.1, oD r.2.2]
theorem RowA.dp {K : PySem.W.Frag} {H : Hp} {r : Row} {v : V} (h : RowA K H r v) : Dp K H v (rD r) := let ⟨a, u1, u2, e, q, c1, c2⟩ := h; e ▸ .tup q (.cons (.str _) (.cons c1.dp (.cons c2.dp .nil)))
theorem RAs.dp {K : PySem.W.Frag} {H : Hp} : ∀ {rs : List Row} {vs : List V}, RAs K H rs vs → DpAll K H vs (rs.map rD)
  | [], [], _ => .nil
  | _ :: _, _ :: _, h => .cons h.1.dp (RAs.dp h.2)
theorem rD_same (r : Row) : PyData.eqv (rD r) (rD r) = true := by
  unfold rD
  rw [evT, evC, evC, evC, evN, evS, eqv_oD, eqv_oD]
  simp
theorem rDs_same : ∀ rs : List Row, PyData.eqvAll (rs.map rD) (rs.map rD) = true
  | [] => evN
  | r :: rs => by
    rw [List.map_cons, evC, rD_same, rDs_same rs]
    rfl
/-- rows that are told: cells, good contents -/
def RsOk (rs : List Row) : Prop := ∀ r ∈ rs, isC r.1 ∧ goodC r.2.1 5 ∧ goodC r.2.2 5
theorem rD_can {r : Row} (h : isC r.1) : PyData.canLay0 (rD r) = true := by
  unfold rD
  obtain ⟨c, e⟩ := h
  rw [can_tup, canC, canC, canC, can_nil, oD_can, oD_can, e, cel_ok]
  rfl
theorem rDs_can : ∀ {rs : List Row}, RsOk rs → PyData.canLayAll0 (rs.map rD) = true
  | [], _ => can_nil
  | r :: rs, h => by
    rw [List.map_cons, canC, rD_can (h r List.mem_cons_self).1, rDs_can fun x hx => h x (List.mem_cons_of_mem _ hx)]
    rfl
theorem rD_depth {r : Row} (h1 : goodC r.2.1 5) (h2 : goodC r.2.2 5) : PyData.depth (rD r) ≤ 6 := by
  have a := oD_depth h1
  have b := oD_depth h2
  simp only [rD, PyData.depth, PyData.depthAll]
  omega
theorem rDs_depth : ∀ {rs : List Row}, RsOk rs → PyData.depthAll (rs.map rD) ≤ 6
  | [], _ => by simp [PyData.depthAll]
  | r :: rs, h => by
    have a := h r List.mem_cons_self
    have b := rD_depth a.2.1 a.2.2
    have c := rDs_depth (rs := rs) fun x hx => h x (List.mem_cons_of_mem _ hx)
    simp only [List.map_cons, PyData.depthAll]
    omega
theorem rows_shaped {rs : List Row} (h : RsOk rs) : SeqAt.shaped (.list (rs.map rD)) = true := by
  unfold SeqAt.shaped
  rw [can_lst, rDs_can h, Bool.true_and, decide_eq_true_eq]
  have := rDs_depth h
  simp only [PyData.depth]
  omega
theorem nv_good {ns : List (Str × Option Part)} (h : NsOk ns) (x : Str) : goodC (nv ns x) 5 := by
  unfold nv
  cases e : lk ns x with
  | none => trivial
  | some o => exact h.gd _ (lk_mem e)
theorem rows_ok {cs : List (Str × Part)} {ns : List (Str × Option Part)} (ok : CsOk cs) (no : NsOk ns) {l : List Str} (hl : ∀ x ∈ l, isC x) : RsOk (rows cs ns l) := by
  rintro r hr
  obtain ⟨x, hx, rfl⟩ := List.mem_map.mp hr
  exact ⟨hl x (List.mem_filter.mp hx).1, good_lk ok x, nv_good no x⟩
/-! ### contents with newer ones put in -/
section
variable {α : Type}
def mergeA (cs ns : List (Str × α)) : List (Str × α) := ns.foldl (fun acc e => put acc e.1 e.2) cs
theorem Al.merge {R : α → V → Prop} : ∀ {ns : List (Str × α)} {ls : List (Key × V)} {cs : List (Str × α)} {kvs : List (Key × V)}, Al R cs kvs → Al R ns ls → Al R (mergeA cs ns) (mergeK kvs ls)
  | [], [], _, _, h, _ => h
  | (x, a) :: ns, (k, v) :: ls, cs, kvs, h, ⟨e, r, t⟩ => by
    subst e
    exact Al.merge (ns := ns) (ls := ls) (h.put r) t
theorem lk_mergeA : ∀ {ns cs : List (Str × α)}, (ks ns).Nodup → ∀ x, lk (mergeA cs ns) x = (lk ns x).or (lk cs x)
  | [], cs, _, x => by simp [mergeA, lk_nil]
  | (k, a) :: ns, cs, h, x => by
    have h := List.nodup_cons.mp (show (k :: ks ns).Nodup from h)
    have ih := lk_mergeA (ns := ns) (cs := put cs k a) h.2 x
    show lk (mergeA (put cs k a) ns) x = _
    rw [ih, lk_put, lk_cons]
    by_cases e : k = x
    · subst e
      rw [if_pos rfl, if_pos rfl, lk_none.mpr h.1]
      rfl
    · rw [if_neg e, if_neg e]
theorem mergeA_nodup : ∀ {ns cs : List (Str × α)}, (ks cs).Nodup → (ks (mergeA cs ns)).Nodup
  | [], _, h => h
  | (k, a) :: ns, cs, h => mergeA_nodup (ns := ns) (put_nodup h)
theorem mergeA_mem : ∀ {ns cs : List (Str × α)} {e : Str × α}, e ∈ mergeA cs ns → e ∈ cs ∨ e ∈ ns
  | [], _, _, h => .inl h
  | (k, a) :: ns, cs, e, h => by
    rcases mergeA_mem (ns := ns) h with h | h
    · rcases mem_put h with h | h
      · exact .inr (h ▸ List.mem_cons_self)
      · exact .inl h
    · exact .inr (List.mem_cons_of_mem _ h)
end
def comp (l : List (Str × Option Part)) : List (Str × Part) := l.filterMap fun e => e.2.map fun p => (e.1, p)
theorem comp_mem {l : List (Str × Option Part)} {x : Str} {p : Part} (h : (x, p) ∈ comp l) : (x, some p) ∈ l := by
  obtain ⟨e, he, e2⟩ := List.mem_filterMap.mp h
  obtain ⟨y, o⟩ := e
  cases o with
  | none => simp at e2
  | some q => simp at e2; obtain ⟨rfl, rfl⟩ := e2; exact he
theorem comp_ks {l : List (Str × Option Part)} {x : Str} (h : x ∈ ks (comp l)) : x ∈ ks l := by
  obtain ⟨e, he, rfl⟩ := List.mem_map.mp h
  exact List.mem_map.mpr ⟨_, comp_mem (x := e.1) (p := e.2) he, rfl⟩
theorem comp_cons_none {l : List (Str × Option Part)} {x : Str} : comp ((x, none) :: l) = comp l := by simp [comp]
theorem comp_cons_some {l : List (Str × Option Part)} {x : Str} {p : Part} : comp ((x, some p) :: l) = (x, p) :: comp l := by simp [comp]
theorem comp_app (a b : List (Str × Option Part)) : comp (a ++ b) = comp a ++ comp b := List.filterMap_append
theorem comp_nodup : ∀ {l : List (Str × Option Part)}, (ks l).Nodup → (ks (comp l)).Nodup
  | [], _ => List.nodup_nil
  | (x, none) :: l, h => by
    rw [comp_cons_none]
    exact comp_nodup (List.nodup_cons.mp (show (x :: ks l).Nodup from h)).2
  | (x, some p) :: l, h => by
    rw [comp_cons_some]
    have h := List.nodup_cons.mp (show (x :: ks l).Nodup from h)
    exact List.nodup_cons.mpr ⟨fun m => h.1 (comp_ks m), comp_nodup h.2⟩
theorem lk_comp : ∀ {l : List (Str × Option Part)}, (ks l).Nodup → ∀ x, lk (comp l) x = (lk l x).getD none
  | [], _, x => rfl
  | (y, none) :: l, h, x => by
    have h := List.nodup_cons.mp (show (y :: ks l).Nodup from h)
    rw [comp_cons_none, lk_comp h.2, lk_cons]
    by_cases e : y = x
    · subst e
      rw [if_pos rfl, lk_none.mpr h.1]
      rfl
    · rw [if_neg e]
  | (y, some p) :: l, h, x => by
    have h := List.nodup_cons.mp (show (y :: ks l).Nodup from h)
    rw [comp_cons_some, lk_cons, lk_cons, lk_comp h.2]
    by_cases e : y = x
    · rw [if_pos e, if_pos e]
      rfl
    · rw [if_neg e, if_neg e]
theorem take_new {α : Type} {cs : List (Str × α)} {i : Nat} {x : Str} {a : α} (h : cs[i]? = some (x, a)) (n : (ks cs).Nodup) : x ∉ ks (cs.take i) := by
  intro m
  obtain ⟨hi, e0⟩ := List.getElem?_eq_some_iff.mp h
  have dr := List.drop_eq_getElem_cons hi
  rw [e0] at dr
  have e : cs = cs.take i ++ (x, a) :: cs.drop (i + 1) := by rw [← dr, List.take_append_drop]
  have n2 : (ks (cs.take i) ++ ks ((x, a) :: cs.drop (i + 1))).Nodup := by
    rw [e] at n
    simpa [ks] using n
  exact (List.nodup_append.mp n2).2.2 x m x List.mem_cons_self rfl
def up (cs : List (Str × Part)) : List (Str × Option Part) := cs.map fun e => (e.1, some e.2)
theorem ks_up (cs : List (Str × Part)) : ks (up cs) = ks cs := by unfold ks up; rw [List.map_map]; rfl
theorem lk_up : ∀ (cs : List (Str × Part)) (x : Str), lk (up cs) x = (lk cs x).map some
  | [], _ => rfl
  | (y, p) :: cs, x => by
    show lk ((y, some p) :: up cs) x = _
    rw [lk_cons, lk_cons, lk_up cs x]
    by_cases e : y = x
    · rw [if_pos e, if_pos e]; rfl
    · rw [if_neg e, if_neg e]
theorem Al.up {K : PySem.W.Frag} {H : Hp} : ∀ {cs : List (Str × Part)} {kvs : List (Key × V)}, Al (PA K H) cs kvs → Al (CA K H) (U.up cs) kvs
  | [], [], _ => trivial
  | _ :: _, _ :: _, ⟨e, r, t⟩ => ⟨e, r, Al.up t⟩
def mrg (cs : List (Str × Part)) (ns : List (Str × Option Part)) : List (Str × Option Part) := mergeA (mergeA [] (up cs)) ns
def rep (cs : List (Str × Part)) (ns : List (Str × Option Part)) : List (Str × Part) := comp (mrg cs ns)
theorem mrg_nodup (cs : List (Str × Part)) (ns : List (Str × Option Part)) : (ks (mrg cs ns)).Nodup := mergeA_nodup (mergeA_nodup List.nodup_nil)
theorem lk_rep {cs : List (Str × Part)} {ns : List (Str × Option Part)} (h : (ks cs).Nodup) (n : (ks ns).Nodup) (x : Str) : lk (rep cs ns) x = match lk ns x with
    | some o => o
    | none => lk cs x := by
  unfold rep
  rw [lk_comp (mrg_nodup _ _)]
  unfold mrg
  rw [lk_mergeA n, lk_mergeA ((ks_up cs).symm ▸ h), lk_up, lk_nil]
  cases lk ns x with
  | some o => rfl
  | none => cases lk cs x <;> rfl
theorem mrg_mem {cs : List (Str × Part)} {ns : List (Str × Option Part)} {e : Str × Option Part} (h : e ∈ mrg cs ns) : e ∈ up cs ∨ e ∈ ns := by
  rcases mergeA_mem h with h | h
  · rcases mergeA_mem h with h | h
    · cases h
    · exact .inl h
  · exact .inr h
theorem mrg_c {cs : List (Str × Part)} {ns : List (Str × Option Part)} (ok : CsOk cs) (no : NsOk ns) : ∀ x ∈ ks (mrg cs ns), isC x := by
  intro x hx
  obtain ⟨e, he, rfl⟩ := List.mem_map.mp hx
  rcases mrg_mem he with h | h
  · exact ok.ce _ ((ks_up cs) ▸ List.mem_map.mpr ⟨e, h, rfl⟩)
  · exact no.ce _ (List.mem_map.mpr ⟨e, h, rfl⟩)
theorem mrg_len {cs : List (Str × Part)} {ns : List (Str × Option Part)} (ok : CsOk cs) (no : NsOk ns) : (mrg cs ns).length ≤ 54 := by
  have := cells_le54 (mrg_nodup cs ns) (mrg_c ok no)
  unfold ks at this
  rwa [List.length_map] at this
theorem rep_ok {cs : List (Str × Part)} {ns : List (Str × Option Part)} (ok : CsOk cs) (no : NsOk ns) : CsOk (rep cs ns) :=
  ⟨comp_nodup (mrg_nodup _ _), fun x hx => mrg_c ok no x (comp_ks hx), fun e he => by
    have h := comp_mem (x := e.1) (p := e.2) he
    rcases mrg_mem h with h | h
    · obtain ⟨e', he', e2⟩ := List.mem_map.mp h
      have e3 : e'.2 = e.2 := by
        have := congrArg Prod.snd e2
        simpa using this
      exact e3 ▸ ok.gd e' he'
    · exact no.gd _ h⟩
/-- the dict at d reads as ns -/
def NCon (K : PySem.W.Frag) (H : Hp) (d : Addr) (ns : List (Str × Option Part)) : Prop := ∃ kvs, Rd H d (.dK kvs) ∧ Al (CA K H) ns kvs
theorem NCon.same {K : PySem.W.Frag} {H H' : Hp} {d : Addr} {cs : List (Str × Option Part)} (s : Same H H') (h : NCon K H d cs) : NCon K H' d cs := let ⟨k, a, b⟩ := h; ⟨k, Same.rd s a, b.mono fun _ _ q => CA.tk (Tk.same s) q⟩
end U

namespace U
open PySem PySem.Spec L2 PyProof.Rows
/-! ### contents behind rows -/
def stepW (cs : List (Str × Part)) (r : Row) : List (Str × Part) := match r.2.2 with
  | none => drop cs r.1
  | some p => put (drop cs r.1) r.1 p
def withL (cs : List (Str × Part)) (rs : List Row) : List (Str × Part) := rs.foldl stepW cs
theorem lk_stepW {cs : List (Str × Part)} {r : Row} {x : Str} : lk (stepW cs r) x = if r.1 = x then r.2.2 else lk cs x := by
  unfold stepW
  cases h : r.2.2 with
  | none => exact lk_drop
  | some p =>
    show lk (put (drop cs r.1) r.1 p) x = _
    rw [lk_put, lk_drop]
    by_cases e : r.1 = x
    · rw [if_pos e, if_pos e]
    · rw [if_neg e, if_neg e, if_neg e]
theorem stepW_nodup {cs : List (Str × Part)} {r : Row} (h : (ks cs).Nodup) : (ks (stepW cs r)).Nodup := by
  unfold stepW
  cases r.2.2 with
  | none => exact drop_nodup h
  | some p => exact put_nodup (drop_nodup h)
theorem withL_nodup : ∀ {rs : List Row} {cs : List (Str × Part)}, (ks cs).Nodup → (ks (withL cs rs)).Nodup
  | [], _, h => h
  | r :: rs, cs, h => withL_nodup (rs := rs) (stepW_nodup h)
theorem lk_withL_out : ∀ {rs : List Row} {cs : List (Str × Part)} {x : Str}, x ∉ rs.map (·.1) → lk (withL cs rs) x = lk cs x
  | [], _, _, _ => rfl
  | r :: rs, cs, x, h => by
    have h1 : x ≠ r.1 := fun e => h (e ▸ List.mem_cons_self)
    have h2 : x ∉ rs.map (·.1) := fun e => h (List.mem_cons_of_mem _ e)
    show lk (withL (stepW cs r) rs) x = _
    rw [lk_withL_out h2, lk_stepW, if_neg fun e => h1 e.symm]
theorem lk_withL_in : ∀ {rs : List Row} {cs : List (Str × Part)} {r : Row}, (rs.map (·.1)).Nodup → r ∈ rs → lk (withL cs rs) r.1 = r.2.2
  | a :: rs, cs, r, n, h => by
    have n := List.nodup_cons.mp (show (a.1 :: rs.map (·.1)).Nodup from n)
    show lk (withL (stepW cs a) rs) r.1 = _
    rcases List.mem_cons.mp h with rfl | h
    · rw [lk_withL_out n.1, lk_stepW, if_pos rfl]
    · exact lk_withL_in n.2 h
theorem rows_names {cs : List (Str × Part)} {ns : List (Str × Option Part)} (L : List Str) : (rows cs ns L).map (·.1) = L.filter fun x => !decide (lk cs x = nv ns x) := by
  unfold rows
  rw [List.map_map]
  exact List.map_id _
theorem rep_with {cs : List (Str × Part)} {ns : List (Str × Option Part)} (h : (ks cs).Nodup) (n : (ks ns).Nodup) {L : List Str} (hL : L.Perm (ks ns)) (x : Str) : lk (rep cs ns) x = lk (withL cs (rows cs ns L)) x := by
  have nL : L.Nodup := hL.nodup_iff.mpr n
  have nr : ((rows cs ns L).map (·.1)).Nodup := by
    rw [rows_names]
    exact nL.sublist List.filter_sublist
  rw [lk_rep h n]
  by_cases m : x ∈ (rows cs ns L).map (·.1)
  · obtain ⟨r, hr, e⟩ := List.mem_map.mp m
    have h2 := lk_withL_in (cs := cs) nr hr
    rw [e] at h2
    rw [h2]
    obtain ⟨y, hy, rfl⟩ := List.mem_map.mp hr
    have e : y = x := e
    subst e
    obtain ⟨o, ho⟩ := lk_some (hL.mem_iff.mp (List.mem_filter.mp hy).1)
    show (match lk ns y with | some o => o | none => lk cs y) = (lk ns y).getD none
    rw [ho]
    rfl
  · rw [lk_withL_out m]
    cases ho : lk ns x with
    | none => rfl
    | some o =>
      rw [rows_names] at m
      have hx : x ∈ L := hL.mem_iff.mpr (by
        by_cases z : x ∈ ks ns
        · exact z
        · rw [lk_none.mpr z] at ho
          cases ho)
      have : ¬ (!decide (lk cs x = nv ns x)) = true := fun z => m (List.mem_filter.mpr ⟨hx, z⟩)
      simp at this
      rw [this]
      unfold nv
      rw [ho]
      rfl
/-- dicts that tell the same are as long -/
theorem lk_len {α : Type} {cs ds : List (Str × α)} (h : (ks cs).Nodup) (g : (ks ds).Nodup) (e : ∀ x, lk cs x = lk ds x) : cs.length = ds.length := by
  have h1 : ∀ x, x ∈ ks cs ↔ x ∈ ks ds := fun x => by
    have a := lk_isSome (cs := cs) (x := x)
    have b := lk_isSome (cs := ds) (x := x)
    rw [e x] at a
    rw [a] at b
    simpa using b
  have h2 : (ks cs).length = (ks ds).length := ((List.perm_ext_iff_of_nodup h g).mpr h1).length_eq
  unfold ks at h2
  rwa [List.length_map, List.length_map] at h2
/-- behind == what is due: two dicts of equal parts -/
theorem al_data {K : PySem.W.Frag} {H : Hp} {cs ds : List (Str × Part)} {kvs kws : List (Key × V)} (a : Al (PA K H) cs kvs) (b : Al (PA K H) ds kws) (h : CsOk cs) (g : (ks ds).Nodup) (e : ∀ x, lk cs x = lk ds x) :
    kvs.length = kws.length ∧ ∀ p ∈ kvs, ∃ y d e, valV kws p.1 = some y ∧ Dp K H p.2 d ∧ Dp K H y e ∧ SeqAt.shaped d = true ∧ SeqAt.shaped e = true ∧ PyData.eqv d e = true := by
  refine ⟨by rw [a.len, b.len]; exact lk_len h.nd g e, fun p hp => ?_⟩
  obtain ⟨i, hi, he⟩ := List.getElem_of_mem hp
  have hk : kvs[i]? = some (p.1, p.2) := by rw [List.getElem?_eq_getElem hi, he]
  obtain ⟨x, q, hc, ek, pq⟩ := a.get hk
  have hl := lk_of_mem h.nd (List.mem_of_getElem? hc)
  rw [e x] at hl
  obtain ⟨y, hy, py⟩ := b.some hl
  have gq := h.gd _ (List.mem_of_getElem? hc)
  have sh : SeqAt.shaped q.data = true := oD_shaped (o := some q) (goodC_mono gq (by decide))
  exact ⟨y, q.data, q.data, by rw [ek]; exact hy, pq.dp, py.dp, sh, sh, eqv_same q⟩
/-- the content of a set -/
def Deed.co : Deed → Option Part
  | .set _ o => o
  | _ => none
theorem us_off {c : Cel} {n : Nat} (h : ¬ c.r + n < 9) : ("" : Str) ∈ (List.range (n + 1)).map c.dn := by
  refine List.mem_map.mpr ⟨n, List.mem_range.mpr (Nat.lt_succ_self n), ?_⟩
  unfold Cel.dn Cel.down
  rw [dif_neg h]
theorem dn_ne {c : Cel} {k : Nat} (h : c.r + k < 9) : ("" : Str) ≠ c.dn k := by
  have e : c.down k = some ⟨c.c, c.r + k, c.hc, h⟩ := by unfold Cel.down; rw [dif_pos h]
  rw [Cel.dn_some e]
  intro z
  have h := congrArg Str.length z
  rw [Cel.len] at h
  exact absurd h (by decide +kernel)
theorem us_on {c : Cel} {n : Nat} (h : c.r + n < 9) : ("" : Str) ∉ (List.range (n + 1)).map c.dn := by
  intro m
  obtain ⟨k, hk, e⟩ := List.mem_map.mp m
  have := List.mem_range.mp hk
  exact dn_ne (c := c) (k := k) (by omega) e.symm
end U

namespace U
open PySem PySem.Spec L2 PyProof.Rows
/-! ### deeds that may leave the table -/
def Deed.okB : Deed → Bool
  | .set _ _ => true
  | .swap _ _ => true
  | .fill c n => decide (c.r + n < 9)
/-- what a deed puts; none: it leaves the table -/
def Deed.nx (cs : List (Str × Part)) (D : Deed) : Option (List (Str × Option Part)) := if D.okB = true then D.nw cs else none
theorem Deed.nx_on {D : Deed} {cs : List (Str × Part)} (h : D.okB = true) : D.nx cs = D.nw cs := by unfold Deed.nx; rw [if_pos h]
theorem Deed.nx_off {D : Deed} {cs : List (Str × Part)} (h : D.okB = false) : D.nx cs = none := by unfold Deed.nx; rw [if_neg (by rw [h]; exact Bool.false_ne_true)]
theorem Deed.nx_some {D : Deed} {cs : List (Str × Part)} {ns : List (Str × Option Part)} (h : D.nx cs = some ns) : D.okB = true ∧ D.nw cs = some ns := by
  unfold Deed.nx at h
  by_cases z : D.okB = true
  · rw [if_pos z] at h
    exact ⟨z, h⟩
  · rw [if_neg z] at h
    cases h
/-- contents lowered are no higher -/
theorem low_hgt {o o' : Option Part} {n m : Nat} (g : goodC o m) (h : lowC n o = some o') : goodC o' m := good_low g h
end U

namespace U
open PySem PySem.Spec L2 PyProof.Rows
/-! ### methods and classes by their promises -/
structure CM (CX : CXT) (P : Program) (w : World) (K : PySem.W.Frag) (mg : Str → Option Value) (base : Heap) (k : Nat) (C : Addr) (m : Str) (ps : List Str) (sp : Sp) : Prop where
  ex : ∃ (f : Addr) (fd : FuncData), FnOk P w K mg base CX k f fd ps sp ∧ Meth K C m f ∧ Binds K fd ps []
  cl : Cls K C
theorem CM.mono {CX : CXT} {P : Program} {w : World} {K : PySem.W.Frag} {mg : Str → Option Value} {base : Heap} {j k : Nat} {C : Addr} {m : Str} {ps : List Str} {sp : Sp} (c : CM CX P w K mg base j C m ps sp) (h : j ≤ k) : CM CX P w K mg base k C m ps sp :=
  let ⟨f, fd, F, a, b⟩ := c.ex; ⟨⟨f, fd, F.mono h, a, b⟩, c.cl⟩
structure CK (CX : CXT) (P : Program) (w : World) (K : PySem.W.Frag) (mg : Str → Option Value) (base : Heap) (k : Nat) (C : Addr) (x : Str) (ps : List Str) (sp : Sp) : Prop where
  ex : ∃ (f : Addr) (fd : FuncData), FnOk P w K mg base CX k f fd ps sp ∧ Mk K C f ∧ Binds K fd ps [] ∧ mg x = some (.ref C)
theorem CK.mono {CX : CXT} {P : Program} {w : World} {K : PySem.W.Frag} {mg : Str → Option Value} {base : Heap} {j k : Nat} {C : Addr} {m : Str} {ps : List Str} {sp : Sp} (c : CK CX P w K mg base j C m ps sp) (h : j ≤ k) : CK CX P w K mg base k C m ps sp :=
  let ⟨f, fd, F, a, b⟩ := c.ex; ⟨⟨f, fd, F.mono h, a, b⟩⟩
section
variable {X : Cx} {CX : CXT} {k : Nat} {C : Addr} {m x : Str} {ps : List Str} {sp : Sp} {E : XK} {o e : Expr} {es : List Expr} {ta : TE} {t : TA} {p apos pos : Pos} {pl : Sem Bool}
theorem pm_x (c : CM (L2N.CX X.prog X.w) X.prog X.w X.K X.mg X.base k C m ps sp) (hr : Room k X.A) (hx : Passes (L2N.CX X.prog X.w) X E) (he : PE X o ta) (ha : L2.PA X (e :: es) t)
    (hst : starEach (e :: es) X.env = (false, eval e X.env) :: starEach es X.env := by rfl) (hpl : (backTo pos (starEach es X.env)).any (·.1) = false := by rfl)
    (ht : eval (.Call (.Attribute o m apos) (e :: es) [] pos) X.env = (do
      let ov ← eval o X.env
      standAt apos.atName
      let (f, first) ← holding [ov] (getMethod ov m pl)
      callWith pos f first (backTo pos (starEach (e :: es) X.env)) (backToKw pos (keywordEach [] X.env))) := by rfl) :
    PE X (.Call (.Attribute o m apos) (e :: es) [] pos) (tMeth C m sp [] E ta t) := by
  obtain ⟨f, fd, F, hm, b⟩ := c.ex
  exact pe_meth (pl := pl) he c.cl hm F hr b .nil hx ha hst hpl ht
theorem pm_c (c : CM CX0 X.prog X.w X.K X.mg X.base k C m ps sp) (hr : Room k X.A) (he : PE X o ta) (ha : L2.PA X (e :: es) t)
    (hst : starEach (e :: es) X.env = (false, eval e X.env) :: starEach es X.env := by rfl) (hpl : (backTo pos (starEach es X.env)).any (·.1) = false := by rfl)
    (ht : eval (.Call (.Attribute o m apos) (e :: es) [] pos) X.env = (do
      let ov ← eval o X.env
      standAt apos.atName
      let (f, first) ← holding [ov] (getMethod ov m pl)
      callWith pos f first (backTo pos (starEach (e :: es) X.env)) (backToKw pos (keywordEach [] X.env))) := by rfl) :
    PE X (.Call (.Attribute o m apos) (e :: es) [] pos) (tMeth C m sp [] E0 ta t) := by
  obtain ⟨f, fd, F, hm, b⟩ := c.ex
  exact pe_meth (pl := pl) he c.cl hm F hr b .nil pass0 ha hst hpl ht
theorem pm_c0 (c : CM CX0 X.prog X.w X.K X.mg X.base k C m ps sp) (hr : Room k X.A) (he : PE X o ta)
    (ht : eval (.Call (.Attribute o m apos) [] [] pos) X.env = (do
      let ov ← eval o X.env
      standAt apos.atName
      let (f, first) ← holding [ov] (getMethod ov m pl)
      callWith pos f first (backTo pos (starEach [] X.env)) (backToKw pos (keywordEach [] X.env))) := by rfl) :
    PE X (.Call (.Attribute o m apos) [] [] pos) (tMeth C m sp [] E0 ta tNil) := by
  obtain ⟨f, fd, F, hm, b⟩ := c.ex
  exact pe_meth0 (pl := pl) he c.cl hm F hr b .nil pass0 ht
theorem pk_c (c : CK CX0 X.prog X.w X.K X.mg X.base k C x ps sp) (hr : Room (k + 1) X.A) (hg : Gl X x) (ha : L2.PA X (e :: es) t) (hdb : (x == ("__debug__" : Str)) = false := by decide) (he : starEach (e :: es) X.env = (false, eval e X.env) :: starEach es X.env := by rfl)
    (hpl : (backTo pos (starEach es X.env)).any (·.1) = false := by rfl) : PE X (.Call (.Name x p) (e :: es) [] pos) (tMake C sp [] E0 t) := by
  obtain ⟨f, fd, F, M, b, hm⟩ := c.ex
  exact pe_make M F hr hg hm b .nil pass0 ha hdb he hpl
theorem pk_x (c : CK (L2N.CX X.prog X.w) X.prog X.w X.K X.mg X.base k C x ps sp) (hr : Room (k + 1) X.A) (hg : Gl X x) (hx : Passes (L2N.CX X.prog X.w) X E) (ha : L2.PA X (e :: es) t) (hdb : (x == ("__debug__" : Str)) = false := by decide) (he : starEach (e :: es) X.env = (false, eval e X.env) :: starEach es X.env := by rfl)
    (hpl : (backTo pos (starEach es X.env)).any (·.1) = false := by rfl) : PE X (.Call (.Name x p) (e :: es) [] pos) (tMake C sp [] E t) := by
  obtain ⟨f, fd, F, M, b, hm⟩ := c.ex
  exact pe_make M F hr hg hm b .nil hx ha hdb he hpl
end
/-- o.m(e, ..) in a try, o.m may raise -/
def tMethE (C : Addr) (m : Str) (sp : Sp) (E : L2.St → XK) (ta : TE) (t : TA) : TE := fun σ H Q => ta σ H fun x H1 => ∃ a dx fs, x = .ref a ∧ H1 a = some (.ins C dx fs) ∧ fs.lookup m = none ∧ t σ H1 fun vs H2 => sp (x :: vs) H2 Q (E σ)
theorem pm_s {X : Cx} {k : Nat} {C : Addr} {m : Str} {ps : List Str} {sp : Sp} {E : L2.St → XK} {o e : Expr} {es : List Expr} {ta : TE} {t : TA} {apos pos : Pos} {pl : Sem Bool} (c : CM (L2N.CX X.prog X.w) X.prog X.w X.K X.mg X.base k C m ps sp) (hr : Room k X.A) (hx : ∀ σ, PassesAt (L2N.CX X.prog X.w) X σ (E σ)) (he : PE X o ta) (ha : L2.PA X (e :: es) t)
    (hst : starEach (e :: es) X.env = (false, eval e X.env) :: starEach es X.env := by rfl) (hpl : (backTo pos (starEach es X.env)).any (·.1) = false := by rfl)
    (ht : eval (.Call (.Attribute o m apos) (e :: es) [] pos) X.env = (do
      let ov ← eval o X.env
      standAt apos.atName
      let (f, first) ← holding [ov] (getMethod ov m pl)
      callWith pos f first (backTo pos (starEach (e :: es) X.env)) (backToKw pos (keywordEach [] X.env))) := by rfl) :
    PE X (.Call (.Attribute o m apos) (e :: es) [] pos) (tMethE C m sp E ta t) := by
  obtain ⟨f, fd, F, hm, b⟩ := c.ex
  refine ⟨fun pins s σ H Q I h => ?_⟩
  refine PySem.W.methodCall_KW (pl := pl) (thn (he.run pins s σ H _ I h) fun u s1 ⟨x, H1, I1, rx, a, dx, fs, ex, ea, l, q⟩ => ?_) ht
  subst ex
  obtain rfl : u = Value.ref a := rx
  refine getmeth_ok I1 ea c.cl hm l ?_
  refine PySem.W.callWith_K (first := [.ref a]) (h₀ := X.base) I.ok.mod.kin hm.kp (thn (ha.run pos pins s1 σ H1 _ I1 q) fun us s2 ⟨vs, H2, I2, r, q2⟩ => ⟨I2.kIn, ?_⟩) hst hpl
  exact run_fnS (us := .ref a :: us) (vs := .ref a :: vs) F hr b (hx σ) I2 (.cons rfl r) q2
/-! ### list(reversed(x)) -/
section
variable {prog : Program} {w : World} {A : Around} {E : Value → Shared → Prop} {s : Shared}
open RT in
theorem call_list_rev {it l : Addr} {items : Array Value} {Q : Value → Shared → Prop} (hh : A.handled = none) (hit : s.heap.IsRevIter it l ((items.size : Int) - 1)) (hl : s.heap.IsList l items) (hne : l ≠ it) (hn : items.size ≤ sizeLine)
    (hQ : ∀ (h' : Heap) (tk : Nat) (acc : Array Value) (c' : Nat), (∀ b o, b ≠ it → s.heap.get? b = some o → h'.get? b = some o) → h'.get? s.heap.objs.size = some { cls := .type "list", dict := none, data := .seq acc c', slots := #[] } → ItemsOf (fun i v => items[items.size - 1 - i]? = some v) acc items.size →
      Q (.ref s.heap.objs.size) { s with heap := h', toks := tk }) : wpAny (model prog w) A (call (.type "list") [.ref it]) Q E s := by
  have W := (Walks.listRev (prog := prog) (w := w) (A := A.in1.in1) hh it l hne items).toS
  obtain ⟨oi, hoi, _⟩ := id hit
  obtain ⟨ol, hol, _⟩ := id hl
  have hSi : s.heap.objs.size ≠ it := Nat.ne_of_gt (Heap.lt_size hoi)
  have hSl : s.heap.objs.size ≠ l := Nat.ne_of_gt (Heap.lt_size hol)
  have hSf : s.heap.objs.size ∉ [it, l] := by simp only [List.mem_cons, List.not_mem_nil, or_false, not_or]; exact ⟨hSi, hSl⟩
  refine callType_codes (Q₁ := fun obj s₁ => obj = .ref s.heap.objs.size ∧ s₁ = { s with heap := s.heap.push { cls := .type "list", data := .seq #[] } }) PySem.F.called_list (PySem.F.typeCall_list_1 _) PySem.F.entry_list_init
    (code_list_new _ ⟨rfl, rfl⟩) fun obj s₁ h₁ => ?_
  obtain ⟨rfl, rfl⟩ := h₁
  have hS : (s.heap.push { cls := .type "list", data := .seq #[] }).get? s.heap.objs.size = some { cls := .type "list", data := .seq #[] } := Heap.get?_push_size _ rfl
  refine ⟨⟨_, hS, rfl⟩, PySem.F.args_list_init_2 _ _, ?_⟩
  show wpAny _ _ (do let old ← Builtin.List.listItems (.ref s.heap.objs.size); Builtin.List.listUpdate (.ref s.heap.objs.size) (fun _ => #[]); letGo old.toList.reverse; Builtin.List.listExtendWith (.ref s.heap.objs.size) (.ref it) .none) _ _ _
  refine wpAny_bind ?_
  unfold Builtin.List.listItems
  refine wpAny_bind (wpAny_seqItems hS rfl (wpAny_pure ?_))
  show wpAny _ _ (updateSeq s.heap.objs.size (fun _ => #[]) >>= fun _ => letGo (#[] : Array Value).toList.reverse >>= fun _ => Builtin.List.listExtendWith (.ref s.heap.objs.size) (.ref it) .none) _ _ _
  refine wpAny_bind (wpAny_updateSeq hS rfl ?_)
  have hS₂ := Heap.get?_update_self (Obj.mapSeq (fun _ => (#[] : Array Value))) hS rfl
  have oth : ∀ b o, s.heap.get? b = some o → ((s.heap.push { cls := .type "list", data := .seq #[] }).update s.heap.objs.size (Obj.mapSeq (fun _ => (#[] : Array Value)))).get? b = some o :=
    fun b o e => (Heap.get?_update_other _ _ (Nat.ne_of_gt (Heap.lt_size e))).trans (Heap.get?_push_of_some _ e)
  refine wpAny_bind (wpAny_letGo ?_)
  generalize hg : (s.heap.push { cls := .type "list", data := .seq #[] }).update s.heap.objs.size (Obj.mapSeq (fun _ => (#[] : Array Value))) = g at hS₂ oth ⊢
  have hit1 : g.IsRevIter it l ((items.size : Int) - 1) := hit.at fun o e => oth _ _ e
  have hl1 : g.IsList l items := hl.at fun o e => oth _ _ e
  have hT : ({ s with heap := g } : Shared).TypeIs (.ref it) "list_reverseiterator" := Heap.IsRevIter.typeIs (s := { s with heap := g }) hit1
  have h1 : Builtin.List.listSameRef (.ref s.heap.objs.size) (.ref it) = false := by simp [Builtin.List.listSameRef, hSi]
  unfold Builtin.List.listExtendWith
  refine wpAny_bind (wpAny_typeOf hT ?_)
  rw [if_neg (by rw [h1]; decide)]
  refine wpAny_bind (wpAny_pyIter_revIter (s := { s with heap := g }) hit1 ?_)
  refine wpAny_bind (wpAny_holding ?_)
  unfold Builtin.List.listLengthHint
  refine wpAny_bind (wpAny_specialOf hT nolen_lri ?_)
  show wpAny _ _ (specialOf (Value.ref it) (Str.ofString "__length_hint__") >>= _) _ _ _
  refine wpAny_bind (wpAny_specialOf hT hint_lri ?_)
  generalize hid : ("list_reverseiterator.__length_hint__" : String) = id0
  wp_delta
  rw [show splitId id0 = some ("list_reverseiterator", "__length_hint__") from by subst hid; decide +kernel]
  subst hid
  refine wpAny_bind (wpAny_isInstance (b := true) hT (by rw [isSubtype_type]; kernel_rfl) ?_)
  refine wpAny_pure ?_
  rw [if_neg (by decide)]
  have e0 : ((items.size : Nat) : Int) - 1 - ((0 : Nat) : Int) = (items.size : Int) - 1 := by omega
  refine wpAny_pure ⟨plainId_quiet F.plain_extend_loop _, codeAny_extend_loopS W hn _ hSf _ items.size 0 _ _ _ rfl (Nat.zero_le _) ⟨Nat.zero_le _, by rw [e0]; exact hit1, hl1⟩ hS₂ (ItemsOf.nil _) fun s' acc' c' hm hS' hacc => ?_⟩
  rw [Moved.eq_with hm]
  refine ⟨rfl, hQ s'.heap s'.toks acc' c' (fun b o hb e => hm.heap b o (fun hmem => ?_) (oth _ _ e)) hS' hacc⟩
  rcases List.mem_cons.mp hmem with e' | hmem
  · exact absurd (Heap.lt_size e) (by rw [e']; exact Nat.lt_irrefl _)
  · exact hb (List.mem_singleton.mp hmem)
end
/-- list(reversed(x)), x a list: a new list -/
def tListRev (K : PySem.W.Frag) (te : TE) : TE := fun σ H Q => te σ H fun v H1 => ∃ (a : Addr) (xs : List V), v = .ref a ∧ SqL K H1 a xs ∧ ∀ q, H1 q = none → Q (.ref q) (upd H1 q (.lst xs.reverse))
theorem pe_listRev {X : Cx} {e : Expr} {te : TE} {p p2 pos pos2 : Pos} (hc : X.calm = true) (hg : Gl X "list") (hm : X.mg "list" = none) (hg2 : Gl X "reversed") (hm2 : X.mg "reversed" = none) (he : PE X e te)
    (hs : starEach [e] X.env = (false, eval e X.env) :: starEach [] X.env := by rfl)
    (hs2 : starEach [.Call (.Name "reversed" p2) [e] [] pos2] X.env = (false, eval (.Call (.Name "reversed" p2) [e] [] pos2) X.env) :: starEach [] X.env := by rfl) :
    PE X (.Call (.Name "list" p) [.Call (.Name "reversed" p2) [e] [] pos2] [] pos) (tListRev X.K te) := by
  refine ⟨fun pins s σ H Q I h => ?_⟩
  refine Call_ (ld_blt I hg hm boot_list (PyProof.Rows.callWith_type1 (args_cons (Call_ (ld_blt I hg2 hm2 PyProof.Rows.boot_reversed (PyProof.Rows.callWith_type1 (args_cons (thn (he.run pins s σ H _ I h) fun u s1 ⟨v, H1, I1, r1, q1⟩ => args_nil ?_) hs) hs rfl))) hs2) hs2 rfl))
  obtain ⟨a, xs, ev, hq, q⟩ := q1
  subst ev
  obtain rfl : u = Value.ref a := r1
  obtain ⟨its, rv, p', hz⟩ := I1.list hq
  refine call_reversed_list p'.isList (args_nil ?_)
  have k0 : ∀ b o, s1.heap.get? b = some o → (s1.heap.push (revObj a ((its.toArray.size : Int) - 1))).get? b = some o := fun b o e => Heap.get?_push_of_some _ e
  have I2 : Inv X pins σ H1 { s1 with heap := s1.heap.push (revObj a ((its.toArray.size : Int) - 1)) } := I1.kept (t' := s1.toks) k0
  obtain ⟨f0, f1, f2, f3, f4, f5⟩ := I1.fpOk (H' := H1) (b := s1.heap.objs.size) (Nat.le_refl _) (I1.hok.fresh (Nat.le_refl _))
  have hl := p'.isList
  obtain ⟨ol, hol, _⟩ := id hl
  have hne : a ≠ s1.heap.objs.size := Nat.ne_of_lt (Heap.lt_size hol)
  have hn : its.toArray.size ≤ sizeLine := by rw [List.size_toArray, ← rv.length]; exact hz
  refine call_list_rev (s := { s1 with heap := s1.heap.push (revObj a ((its.toArray.size : Int) - 1)) }) (I1.ok.hd hc) ⟨_, Heap.get?_push_size _ rfl, rfl, rfl⟩ (hl.push _) hne hn fun h' tk acc c' hk hS hi => ?_
  have le : s1.heap.objs.size ≤ (s1.heap.push (revObj a ((its.toArray.size : Int) - 1))).objs.size := by
    rw [Heap.size_push]
    exact Nat.le_succ _
  refine ⟨.ref (s1.heap.push (revObj a ((its.toArray.size : Int) - 1))).objs.size, upd H1 (s1.heap.push (revObj a ((its.toArray.size : Int) - 1))).objs.size (.lst xs.reverse), I1.laid (t' := tk) (fun b o e => hk b o (Nat.ne_of_lt (Heap.lt_size e)) (k0 b o e)) le
    (show ObjOk X.prog X.w _ _ _ (.lst xs.reverse) from ⟨by rw [List.length_reverse]; exact hz, acc.toList, c', RT.vals_rev rv hi, by rw [Array.toArray_toList]; exact hS⟩), rfl, q _ (I1.hok.fresh le)⟩
end U

namespace U
open PySem PySem.Spec PyProof.Rows L2 LamX
/-! ### a lambda of two parameters, handed to a def -/
structure LamSP (a b : Str) (sc scope : Scope) : Prop where
  kind : scope.kind = .function
  co : scope.isCoroutine = false
  gen : scope.isGenerator = false
  cell : ∀ y ∈ scope.names, y.2 ≠ .cell
  loc : ∀ y ∈ scope.names, y.2 = .local → y.1 = a ∨ y.1 = b
  pa : scope.names.lookup a = some .local
  pb : scope.names.lookup b = some .local
  free : ∀ y ∈ scope.names, y.2 = .free → sc.names.lookup y.1 = some .cell ∨ sc.names.lookup y.1 = some .free
def lamSPB (a b : Str) (sc scope : Scope) : Bool :=
  (decide (scope.kind = .function) && !scope.isCoroutine && !scope.isGenerator && decide (scope.names.lookup a = some .local) && decide (scope.names.lookup b = some .local)) &&
    scope.names.all fun y => !decide (y.2 = .cell) && (!decide (y.2 = .local) || decide (y.1 = a) || decide (y.1 = b)) && (!decide (y.2 = .free) || decide (sc.names.lookup y.1 = some .cell) || decide (sc.names.lookup y.1 = some .free))
theorem lamSP_by {a b : Str} {sc scope : Scope} (h : lamSPB a b sc scope = true) : LamSP a b sc scope := by
  unfold lamSPB at h
  simp only [Bool.and_eq_true, Bool.or_eq_true, Bool.not_eq_true', decide_eq_true_eq, decide_eq_false_iff_not, List.all_eq_true] at h
  obtain ⟨⟨⟨⟨⟨h1, h2⟩, h3⟩, h4⟩, h5⟩, h6⟩ := h
  refine ⟨h1, h2, h3, fun y hy => (h6 y hy).1.1, fun y hy e => ?_, h4, h5, fun y hy e => ?_⟩
  · rcases (h6 y hy).1.2 with (z | z) | z
    · exact absurd e z
    · exact .inl z
    · exact .inr z
  · rcases (h6 y hy).2 with (z | z) | z
    · exact absurd e z
    · exact .inl z
    · exact .inr z
theorem LamSP.has {X : Cx} {a b : Str} {scope : Scope} (L : LamSP a b X.env.scope scope) (ok : X.Ok) : ∀ y ∈ scope.names, y.2 = .free → ∃ c, X.env.cells.lookup y.1 = some c := fun y hy e => ok.has _ (L.free y hy e)
/-- the context of such a lambda's body: the maker's names, then its own -/
def lamCxP (X : Cx) (a b : Str) (A : Around) (outer : List Env) (s : Shared) (H : Hp) (E : XK) (scope : Scope) (f c' : Addr) : Cx := { lamCx X A outer s H E scope f c' with N := X.N ++ [a, b] }
section
variable {X : Cx} {pins : List (Addr × Obj)} {σ : L2.St} {H HZ : Hp} {s s1 : Shared} {a b : Str}
theorem lam_startP {A : Around} {outer : List Env} {E : XK} {scope : Scope} {f c' : Addr} {h₁ : Heap} {tk : Nat} {v1 v2 : V} {u1 u2 : Value} (I : Inv X pins σ H s) (L : LamSP a b X.env.scope scope) (nab : a ≠ b) (na : a ∉ X.N) (nb : b ∉ X.N)
    (e0 : Env0 X.prog X.w X.K X.mg X.base A outer s1 HZ) (hd : A.handled = none) (un : Un (frs X.stack) [] H HZ s.heap s1.heap) (hns : h₁.Ns s1.heap.objs.size fun y => ([(a, u1), (b, u2)] : List (Str × Value)).reverse.lookup y) (kp : ∀ b o, s1.heap.get? b = some o → h₁.get? b = some o)
    (r1 : L2.RelV v1 u1) (r2 : L2.RelV v2 u2) : Inv (lamCxP X a b A outer s1 HZ E scope f c') [] (σ ++ [some v1, some v2]) HZ { s1 with heap := h₁, toks := tk } := by
  have hfree := L.has I.ok
  have back : ∀ {y c}, (cloFrom X.env.cells scope.names []).lookup y = some c → X.env.cells.lookup y = some c := fun {y c} e => by
    rcases cloFrom_mem (PySem.mem_of_lookup e) with hm | ⟨h1, h2⟩
    · cases hm
    · obtain ⟨c1, hc⟩ := hfree _ h1 rfl
      have hc : X.env.cells.lookup y = some c1 := hc
      have : c = c1 := by rw [h2, hc] <;> rfl
      rw [this, hc]
  have look : ∀ {y}, scope.names.lookup y = some .free → ∃ c, (cloFrom X.env.cells scope.names []).lookup y = some c := fun {y} hl => mem_lookup (cloFrom_has (cells := X.env.cells) (acc := []) (PySem.mem_of_lookup hl))
  have cellK : ∀ {c : Addr} {v : Option Value}, H c = none → s.heap.IsCell c v → h₁.IsCell c v := fun {c v} n z => by
    obtain ⟨o, ho, hd⟩ := z
    obtain ⟨sl, q⟩ := un.any ho n List.not_mem_nil
    exact ⟨_, kp _ _ q, hd⟩
  have lz : ∀ {y : Str}, scope.names.lookup y = some .local → y = a ∨ y = b := fun {y} h => L.loc _ (PySem.mem_of_lookup h) rfl
  have la : (([(a, u1), (b, u2)] : List (Str × Value)).reverse).lookup a = some u1 := by
    show List.lookup a [(b, u2), (a, u1)] = _
    rw [List.lookup_cons, beq_eq_false_iff_ne.mpr nab, List.lookup_cons, beq_self_eq_true]
  have lb : (([(a, u1), (b, u2)] : List (Str × Value)).reverse).lookup b = some u2 := by
    show List.lookup b [(b, u2), (a, u1)] = _
    rw [List.lookup_cons, beq_self_eq_true]
  have len := I.len
  refine ⟨⟨e0.mod, L.kind, rfl, rfl, Nat.le_refl _, fun y z c p q => I.ok.inj y z c (back p) (back q), fun y hy => ?_, fun y c z _ => ?_, fun _ => hd, Around.frames_deeper e0.frames, .inr ⟨rfl, rfl⟩, (fun b z => absurd (show b ∈ ([] : List Addr) from z) List.not_mem_nil), e0.bs, e0.bsz, (fun b _ _ z => absurd (show b ∈ ([] : List Addr) from z) List.not_mem_nil),
      (fun b z => absurd (show b ∈ ([] : List Addr) from z) List.not_mem_nil), e0.funs, e0.frf⟩,
    rfl, e0.bare, Un.kept kp, ⟨_, hns, fun i y v p q vis => ?_⟩, fun y c e => ?_, e0.hok.fresh (Nat.le_refl _), fun y c e => ?_, fun q hq => absurd (show q ∈ ([] : List (Addr × Obj)) ++ [] from hq) (by simp), e0.hok.kept kp, ?_⟩
  · have hy : scope.names.lookup y = some .cell ∨ scope.names.lookup y = some .free := hy
    rcases hy with hy | hy
    · exact absurd rfl (L.cell _ (PySem.mem_of_lookup hy))
    · exact look hy
  · have z : false = true := z
    cases z
  · have p : (X.N ++ [a, b])[i]? = some y := p
    have vis : Vis scope y := vis
    by_cases hi : i < X.N.length
    · rw [List.getElem?_append_left hi] at p
      rw [List.getElem?_append_left (by omega)] at q
      have hyN := List.mem_of_getElem? p
      rcases vis with k | k | k
      · rcases lz k with z | z
        · exact absurd (z ▸ hyN) na
        · exact absurd (z ▸ hyN) nb
      · exact absurd rfl (L.cell _ (PySem.mem_of_lookup k))
      · obtain ⟨m, hn, hl⟩ := I.loc
        have kv := L.free _ (PySem.mem_of_lookup k) rfl
        obtain ⟨w', r, q'⟩ := hl i y v p q (kv.elim (fun k => .inr (.inl k)) (fun k => .inr (.inr k)))
        obtain ⟨c2, h2⟩ := look k
        refine ⟨w', r, .inr ⟨.inr k, c2, h2, ?_⟩⟩
        have c1 := back h2
        rcases q' with ⟨k', _⟩ | ⟨_, c3, e', z⟩
        · have k' : X.env.scope.names.lookup y = some .local := k'
          rcases kv with k2 | k2 <;> (have k2 : X.env.scope.names.lookup y = _ := k2; rw [k2] at k'; cases k')
        · rw [c1] at e'
          cases e'
          exact cellK (I.freeC y _ c1) z
    · rw [List.getElem?_append_right (by omega)] at p q
      rw [len] at q
      have h2 : i - X.N.length = 0 ∨ i - X.N.length = 1 := by
        have := (List.getElem?_eq_some_iff.mp p).1
        simp at this
        omega
      rcases h2 with h2 | h2
      · rw [h2] at p q
        obtain rfl : a = y := by simpa using p
        obtain rfl : v1 = v := by simpa using q
        exact ⟨u1, r1, .inl ⟨L.pa, la⟩⟩
      · rw [h2] at p q
        obtain rfl : b = y := by simpa using p
        obtain rfl : v2 = v := by simpa using q
        exact ⟨u2, r2, .inl ⟨L.pb, lb⟩⟩
  · obtain ⟨w', z⟩ := I.cell y c (back e)
    exact ⟨w', cellK (I.freeC y c (back e)) z⟩
  · obtain ⟨v, o, ho, hd⟩ := I.cell y c (back e)
    exact un.free c o ho (I.freeC y c (back e)) List.not_mem_nil
  · show (σ ++ [some v1, some v2]).length = (X.N ++ [a, b]).length
    rw [List.length_append, List.length_append, len]
    rfl
/-- x(e, e2), in the def that got the lambda -/
theorem pe_actP {CXg : CXT} {Eg : XK} {Ng : List Str} {qg : Str} {sg : Scope} {g f c' : Addr} {cdg pm ctv : Value} {params : Arguments} {body : Expr} {scope : Scope} {k i : Nat} {x : Str} {pn : List (Addr × Obj)} {xe : Value → Shared → Prop} {tb : TE} {p1 p2 : Pos} {e : Expr} {es : List Expr} {ta : TA}
    (I : Inv X pins σ H s) (L : LamSP a b X.env.scope scope) (nab : a ≠ b) (na : a ∉ X.N) (nb : b ∉ X.N) (hf : s.heap.get? f = some (PySem.W.kla_obj "<lambda>" (X.env.qual ++ "<lambda>") params body scope (cloFrom X.env.cells scope.names []) pm c' ctv)) (hfn : H f = none) (hfr : f ∉ frs X.stack)
    (hbind : ∀ u1 u2 : Value, bindArgs (PySem.W.kla_fn "<lambda>" (X.env.qual ++ "<lambda>") params body scope (cloFrom X.env.cells scope.names []) pm (.ref c') ctv) ⟨[u1, u2], []⟩ = pure [(a, u1), (b, u2)]) (hr : Room (k + 1) (X.A.deeper (envOfC qg sg s.heap.objs.size g cdg)))
    (hbody : ∀ (A : Around) (outer : List Env) (s : Shared) (H : Hp), Room k (A.deeper (lamEnv X scope s.heap.objs.size f c')) → PE (lamCxP X a b A outer s H E0 scope f c') body tb)
    (hN : Ng[i]? = some x) (hv : Vis sg x) (ha : L2.PA ((cxOf CXg X.prog X.w X.K X.mg X.base Ng qg sg g cdg X.A X.stack s H Eg).tr pn xe) (e :: es) ta)
    (hst : starEach (e :: es) ((cxOf CXg X.prog X.w X.K X.mg X.base Ng qg sg g cdg X.A X.stack s H Eg).tr pn xe).env = (false, eval e ((cxOf CXg X.prog X.w X.K X.mg X.base Ng qg sg g cdg X.A X.stack s H Eg).tr pn xe).env) :: starEach es ((cxOf CXg X.prog X.w X.K X.mg X.base Ng qg sg g cdg X.A X.stack s H Eg).tr pn xe).env)
    (hpl : (backTo p2 (starEach es ((cxOf CXg X.prog X.w X.K X.mg X.base Ng qg sg g cdg X.A X.stack s H Eg).tr pn xe).env)).any (·.1) = false)
    (hd : (x == ("__debug__" : Str)) = false := by decide) (hcd : (x == ("__classdict__" : Str)) = false := by decide) :
    PE ((cxOf CXg X.prog X.w X.K X.mg X.base Ng qg sg g cdg X.A X.stack s H Eg).tr pn xe) (.Call (.Name x p1) (e :: es) [] p2)
      (fun σZ HZ Q => σZ[i]? = some (some (.ref f)) ∧ ta σZ HZ fun vs H1 => ∃ v1 v2, vs = [v1, v2] ∧ H1 c' = some (CodeO c' (X.env.qual ++ "<lambda>")) ∧ tb (σ ++ [some v1, some v2]) H1 Q) := by
  refine ⟨fun pinsZ sZ σZ HZ Q IZ h => ?_⟩
  obtain ⟨hs, ht⟩ := h
  refine wpAny_Call_Name_kw (thn ((pe_var (pos := p1) (i := i) hN hv hd hcd).run pinsZ sZ σZ HZ (fun v H1 => v = .ref f ∧ H1 = HZ) IZ ⟨.ref f, hs, rfl, rfl⟩) fun u s1 ⟨v, H1, I1, r1, q1⟩ => ?_)
  obtain ⟨rfl, rfl⟩ := q1
  obtain rfl : u = Value.ref f := r1
  have at1 : ∀ {H2 : Hp} {s2 : Shared} {τ : L2.St}, Inv ((cxOf CXg X.prog X.w X.K X.mg X.base Ng qg sg g cdg X.A X.stack s H Eg).tr pn xe) pinsZ τ H2 s2 → s2.heap.get? f = some (PySem.W.kla_obj "<lambda>" (X.env.qual ++ "<lambda>") params body scope (cloFrom X.env.cells scope.names []) pm c' ctv) :=
    fun J => J.base.keep f _ hf hfn hfr (fun z => nomatch (show f ∈ ([] : List Addr) from z))
  refine PySem.W.callWith_F ⟨_, _, _, _, at1 I1⟩ (thn (ha.run p2 pinsZ s1 σZ H1 _ I1 ht) fun us s2 ⟨vs, H2, I2, rv, q2⟩ => ⟨⟨_, _, _, _, at1 I2⟩, ?_⟩) hst hpl
  obtain ⟨v1, v2, rfl, hc, ht2⟩ := q2
  obtain ⟨u1, u2, rfl, ru1, ru2⟩ : ∃ u1 u2, us = [u1, u2] ∧ L2.RelV v1 u1 ∧ L2.RelV v2 u2 := by
    cases rv with
    | cons r t => cases t with
      | cons r' t' => cases t' with
        | nil => exact ⟨_, _, rfl, r, r'⟩
  have un : Un (frs X.stack) [] H H2 s.heap s2.heap := I2.base
  obtain ⟨⟨oc, ws, t, hoc, hdc, hvc⟩, _, _⟩ := I2.hok c' _ hc
  have rc : codeAny (model X.prog X.w) (X.A.deeper (envOfC qg sg s.heap.objs.size g cdg)) (.call (.ref f) ⟨[u1, u2], []⟩) (CR (L2.CX X.prog X.w) (envOfC qg sg s.heap.objs.size g cdg :: X.stack) X.prog X.w H2 s2 Q E0) s2 := by
    refine PySem.W.kla_callFunE hr.depth (at1 I2) rfl L.co L.gen rfl ⟨c', oc, ws, t, rfl, hoc, hdc, hvc⟩ ?_
    rw [hbind]
    refine wpAny_pure (wpAny_newFunctionEnv (fun y hy => L.cell y hy) (fun y hy => ?_) (fun h₁ hns hsb => ⟨I2.nolimit.fresh _ hsb, ?_⟩) L.kind)
    · rcases List.mem_cons.mp hy with rfl | hy
      · exact L.pa
      · rw [List.mem_singleton.mp hy]
        exact L.pb
    show codeAny _ _ (.expr body (lamEnv X scope s2.heap.objs.size f c')) _ _
    have kp : ∀ b o, s2.heap.get? b = some o → h₁.get? b = some o := fun b o e => hsb.extBut b o (Nat.ne_of_lt (Heap.lt_size e)) (Heap.get?_push_of_some _ e)
    have J : Inv (lamCxP X a b (X.A.deeper (envOfC qg sg s.heap.objs.size g cdg)) (envOfC qg sg s.heap.objs.size g cdg :: X.stack) s2 H2 E0 scope f c') [] (σ ++ [some v1, some v2]) H2 { s2 with heap := h₁, toks := s2.toks + ([(a, u1), (b, u2)] : List (Str × Value)).length } :=
      lam_startP I L nab na nb I2.env0 hr.hd un hns kp ru1 ru2
    refine PySem.W.kla_codeExpr (wpAny_mono ((hbody _ _ s2 H2 (hr.deeper _)).run [] _ _ H2 Q J ht2) (fun v s' hq => ?_) fun e s' hq => hq)
    obtain ⟨w', H', J', rv, q⟩ := hq
    exact ⟨w', H', J'.os, J'.bare, J'.base, J'.hok, rv, q⟩
  have hx : Passes (L2.CX X.prog X.w) ((cxOf CXg X.prog X.w X.K X.mg X.base Ng qg sg g cdg X.A X.stack s H Eg).tr pn xe) E0 := passes_call L2.takes0 (fun _ _ _ _ h => h)
  refine wpAny_call (codeAny_mono rc fun r s' hq => ?_)
  cases r with
  | error e => exact hx pinsZ σZ H2 s2 e s' I2 hq
  | ok fl =>
    cases fl with
    | ret u => exact I2.after hq
    | next => exact False.elim hq
    | brk => exact False.elim hq
    | cont => exact False.elim hq
/-- the lambda is made: all but the maker's table stays -/
theorem lam_new {c P : Addr} {params : Arguments} {body : Expr} {scope : Scope} {pos : Pos} {E Q : Value → Shared → Prop} (I : Inv X pins σ H s) (TB : LamX.TabB X.base X.mg c P) (hcode : X.env.code = .ref c) (hT : TabS H P (X.env.qual ++ "<lambda>")) (hdef : defaultsOf params X.env = ([], [])) (hfree : ∀ y ∈ scope.names, y.2 = .free → ∃ c, X.env.cells.lookup y.1 = some c)
    (h : ∀ (f c' : Addr) (pm ctv : Value) (H1 : Hp) (s' : Shared), Inv X pins σ H1 s' → Keep P P H H1 → TabS H1 P (X.env.qual ++ "<lambda>") → s'.heap.get? f = some (PySem.W.kla_obj "<lambda>" (X.env.qual ++ "<lambda>") params body scope (cloFrom X.env.cells scope.names []) pm c' ctv) → H1 f = none → f ∉ frs X.stack → H1 c' = some (CodeO c' (X.env.qual ++ "<lambda>")) → Q (.ref f) s') :
    wpAny (model X.prog X.w) X.A (eval (.Lambda params body scope pos) X.env) Q E s := by
  obtain ⟨ps, hP, ht, ha⟩ := hT
  refine PySem.W.kla_eval hdef ?_
  have bP := TB.bm.keeps I.bk
  have hP' : s.heap.get? P = some { cls := .none, data := .fields ps } := I.hok P _ hP
  have far : ∀ f, s.heap.objs.size ≤ f → f ∉ frs X.stack := fun f hf z => (List.mem_cons.mp (I.stkSub _ z)).elim (fun e => by have h1 := I.lt; rw [← show f = X.env.locals from e] at h1; exact Nat.lt_irrefl _ (Nat.lt_of_lt_of_le h1 hf)) (fun e => I.nofs hf e)
  cases hc : codeAmong pos ps.toList with
  | some cv =>
    obtain ⟨c', rfl, hco⟩ := ha pos cv hc
    refine PySem.W.kla_makeFunctionHit (mg := X.mg) (c := c) (P := P) (ps := ps) (closure_ok hfree) I.ok.glob (I.mod.glob.keeps I.bk) hcode (TB.code.keeps I.bk) hP' ht hc bP fun ctv h' tk hx hsz => ?_
    exact h h'.objs.size c' ((X.mg "__name__").getD .none) ctv H _ (I.kept fun b o e => Heap.get?_push_of_some _ (hx b o e)) (Keep.refl _ _ _) ⟨ps, hP, ht, ha⟩ (Heap.get?_push_size _ rfl) (I.hok.fresh hsz) (far _ hsz) hco
  | none =>
    refine PySem.W.kla_makeFunction (mg := X.mg) (c := c) (P := P) (ps := ps) (closure_ok hfree) I.ok.glob (I.mod.glob.keeps I.bk) hcode (TB.code.keeps I.bk) hP' ht hc TB.gP bP fun c' ctv h' tk hx hge hlt hrec htb => ?_
    obtain ⟨c2, oc, vs, t, e2, hoc, hd, hv⟩ := hrec
    cases e2
    have fresh := I.hok.fresh hge
    have sz : s.heap.objs.size ≤ h'.objs.size := by omega
    have J := inv_table (t' := tk) (more := #[rawInt pos.line, rawInt pos.col, .ref c']) (h' := h'.push (PySem.W.kla_obj "<lambda>" (X.env.qual ++ "<lambda>") params body scope (cloFrom X.env.cells scope.names []) ((X.mg "__name__").getD .none) c' ctv)) I hP (fun b o hb e => Heap.get?_push_of_some _ (hx b o hb e)) (Heap.get?_push_of_some _ htb) hge ⟨oc, vs, t, Heap.get?_push_of_some _ hoc, hd, hv⟩
    have eL : (ps ++ #[rawInt pos.line, rawInt pos.col, .ref c']).toList = ps.toList ++ [rawInt pos.line, rawInt pos.col, .ref c'] := Array.toList_append
    have st : ∀ b o, H b = some o → b ≠ P → upd (upd H P (.tbl (ps ++ #[rawInt pos.line, rawInt pos.col, .ref c']))) c' (CodeO c' (X.env.qual ++ "<lambda>")) b = some o := fun b o e n => by rw [upd_ne (ne_of_none e fresh), upd_ne n, e]
    refine h h'.objs.size c' _ ctv _ _ J (fun b o e n _ => st b o e n) ⟨_, by rw [upd_ne (ne_of_none hP fresh), upd_same], by rw [eL]; exact PySem.TriplesOk_snoc _ _ _ _ ht, fun p' cv hcv => ?_⟩ (Heap.get?_push_size _ rfl) ?_ (far _ sz) upd_same
    · rw [eL] at hcv
      rcases among_app _ ht hcv with z | z
      · obtain ⟨c0, e1, e2⟩ := ha p' cv z
        refine ⟨c0, e1, st _ _ e2 fun z => ?_⟩
        rw [z, hP] at e2
        exact codeO_ne _ (Option.some.inj e2).symm
      · exact ⟨c', z, upd_same⟩
    · rw [upd_ne (Nat.ne_of_gt hlt), upd_ne (Nat.ne_of_gt (Nat.lt_of_lt_of_le (Heap.lt_size hP') sz))]
      exact I.hok.fresh sz
/-- a def that calls the lambda it got as its last argument: TT: what it makes of the lambda's reading -/
def GivesP (k : Nat) (X : Cx) (Ng : List Str) (x : Str) (sg : Scope) (g : Addr) (cdg : Value) (bg : List Stmt) (a : Str) (i : Nat) (q : Str) (TT : (V → V → Hp → VK → Prop) → List V → Hp → VK → Prop) : Prop :=
  ∀ (f c' : Addr) (s : Shared) (H : Hp) (us : List V) (Q : VK) (tl : V → V → Hp → VK → Prop), us.length = 3 → Room k (X.A.deeper (envOfC x sg s.heap.objs.size g cdg)) →
    (∀ (pn : List (Addr × Obj)) (xe : Value → Shared → Prop) (e : Expr) (es : List Expr) (ta : TA) (p1 p2 : Pos), L2.PA ((cxOf (L2.CX X.prog X.w) X.prog X.w X.K X.mg X.base Ng x sg g cdg X.A X.stack s H E0).tr pn xe) (e :: es) ta →
      starEach (e :: es) ((cxOf (L2.CX X.prog X.w) X.prog X.w X.K X.mg X.base Ng x sg g cdg X.A X.stack s H E0).tr pn xe).env = (false, eval e ((cxOf (L2.CX X.prog X.w) X.prog X.w X.K X.mg X.base Ng x sg g cdg X.A X.stack s H E0).tr pn xe).env) :: starEach es ((cxOf (L2.CX X.prog X.w) X.prog X.w X.K X.mg X.base Ng x sg g cdg X.A X.stack s H E0).tr pn xe).env →
      (backTo p2 (starEach es ((cxOf (L2.CX X.prog X.w) X.prog X.w X.K X.mg X.base Ng x sg g cdg X.A X.stack s H E0).tr pn xe).env)).any (·.1) = false →
      PE ((cxOf (L2.CX X.prog X.w) X.prog X.w X.K X.mg X.base Ng x sg g cdg X.A X.stack s H E0).tr pn xe) (.Call (.Name a p1) (e :: es) [] p2) (fun σZ HZ Q => σZ[i]? = some (some (.ref f)) ∧ ta σZ HZ fun vs H1 => ∃ v1 v2, vs = [v1, v2] ∧ H1 c' = some (CodeO c' q) ∧ tl v1 v2 H1 Q)) →
    H c' = some (CodeO c' q) → TT tl us H Q →
    ∃ t, PSs (cxOf (L2.CX X.prog X.w) X.prog X.w X.K X.mg X.base Ng x sg g cdg X.A X.stack s H E0) bg t ∧ t { nx := fun _ H' => Q .non H', rt := Q } (L2.start Ng (us ++ [.ref f])) H
def tLamP (P : Addr) (q : Str) (TT : (V → V → Hp → VK → Prop) → List V → Hp → VK → Prop) (t1 t2 t3 : TE) (t : TE) : TE := fun σ H Q => t1 σ H fun x1 H1 => t2 σ H1 fun x2 H2 => t3 σ H2 fun x3 H3 => TabS H3 P q ∧ ∀ H4, Keep P P H3 H4 → TabS H4 P q → TT (fun v1 v2 H' Q' => t (σ ++ [some v1, some v2]) H' Q') [x1, x2, x3] H4 Q
/-- x(e1, e2, e3, lambda a, b: body) -/
theorem pe_lamcallP {TT : (V → V → Hp → VK → Prop) → List V → Hp → VK → Prop} {x la lb pa : Str} {ps : List Str} {g c P : Addr} {k i : Nat} {pg : Arguments} {bg : List Stmt} {sg : Scope} {dV kV doc pm cdv ct oc : Value} {an od : Option Addr} {osl : Array (Option Value)} {Ng : List Str}
    {params : Arguments} {body : Expr} {scope : Scope} {t t1 t2 t3 : TE} {e1 e2 e3 : Expr} {p lpos pos : Pos} (hg : Gl X x) (hm : X.mg x = some (.ref g)) (hk : PySem.W.keepIn X.K (.ref g) = true)
    (lk : X.K.lookup g = some ⟨oc, od, .func (PySem.W.fnOf x x pg bg sg dV kV doc pm an cdv ct), osl⟩) (hcg : PySem.W.codeIn X.K cdv x = true) (hb : L2.Binds X.K (PySem.W.fnOf x x pg bg sg dV kV doc pm an cdv ct) ps []) (hps : ps.length = 4) (Sg : FnScope Ng ps sg) (hNg : Ng[i]? = some pa) (hva : Vis sg pa)
    (hG : GivesP (k + 1) X Ng x sg g cdv bg pa i (X.env.qual ++ "<lambda>") TT) (TB : LamX.TabB X.base X.mg c P) (hcode : X.env.code = .ref c) (hr : Room (k + 2) X.A) (L : LamSP la lb X.env.scope scope) (nab : la ≠ lb) (na : la ∉ X.N) (nb : lb ∉ X.N) (hdef : defaultsOf params X.env = ([], []))
    (hbind : ∀ (q : Str) (cl : List (Str × Addr)) (pm cv ctv u1 u2 : Value), bindArgs (PySem.W.kla_fn "<lambda>" q params body scope cl pm cv ctv) ⟨[u1, u2], []⟩ = pure [(la, u1), (lb, u2)])
    (h1 : PE X e1 t1) (h2 : PE X e2 t2) (h3 : PE X e3 t3)
    (hbody : ∀ (A : Around) (outer : List Env) (s : Shared) (H : Hp) (f c' : Addr), Room k (A.deeper (lamEnv X scope s.heap.objs.size f c')) → PE (lamCxP X la lb A outer s H E0 scope f c') body t)
    (hs1 : starEach [e1, e2, e3, .Lambda params body scope lpos] X.env = (false, eval e1 X.env) :: starEach [e2, e3, .Lambda params body scope lpos] X.env := by rfl) (hs2 : starEach [e2, e3, .Lambda params body scope lpos] X.env = [(false, eval e2 X.env), (false, eval e3 X.env), (false, eval (.Lambda params body scope lpos) X.env)] := by rfl)
    (hdb : (x == ("__debug__" : Str)) = false := by decide) (hd : (pa == ("__debug__" : Str)) = false := by decide) (hcd : (pa == ("__classdict__" : Str)) = false := by decide) :
    PE X (.Call (.Name x p) [e1, e2, e3, .Lambda params body scope lpos] [] pos) (tLamP P (X.env.qual ++ "<lambda>") TT t1 t2 t3 t) := by
  refine ⟨fun pins s σ H Q I h => ?_⟩
  refine wpAny_Call_Name_kw (ld_glob I hg hm ?_ hdb)
  refine PySem.W.callWith_K (h₀ := X.base) I.ok.mod.kin hk ?_ hs1 (by rw [hs2]; rfl)
  rw [hs1, hs2]
  show wpAny _ _ (spliced ((false, eval e1 X.env) :: (false, eval e2 X.env) :: (false, eval e3 X.env) :: [(false, eval (.Lambda params body scope lpos) X.env)])) _ _ s
  refine Calls.spliced_cons (thn (h1.run pins s σ H _ I h) fun w1 s1 ⟨x1, H1, I1, r1, q1⟩ => ?_)
  refine Calls.spliced_cons (thn (h2.run pins s1 σ H1 _ I1 q1) fun w2 s2 ⟨x2, H2, I2, r2, q2⟩ => ?_)
  refine Calls.spliced_cons (thn (h3.run pins s2 σ H2 _ I2 q2) fun w3 s3 ⟨x3, H3, I3, r3, q3⟩ => ?_)
  obtain ⟨hT, q3⟩ := q3
  refine Calls.spliced_cons (lam_new I3 TB hcode hT hdef (L.has I.ok) fun f c' pm' ctv H4 s4 I4 k4 T4 hf hfn hfr hco => ?_)
  refine Calls.spliced_nil ⟨I4.kIn, ?_⟩
  have rv : Vals [x1, x2, x3, V.ref f] [w1, w2, w3, .ref f] := .cons r1 (.cons r2 (.cons r3 (.cons rfl .nil)))
  have rc : codeAny (model X.prog X.w) X.A (.call (.ref g) ⟨[w1, w2, w3, .ref f], []⟩) (CR (L2.CX X.prog X.w) X.stack X.prog X.w H4 s4 Q E0) s4 := by
    refine run_ofS (N := Ng) (ps := ps) (us := [w1, w2, w3, .ref f]) (vs := [x1, x2, x3, V.ref f]) lk hcg Sg hr I4.env0 (hb s4 [w1, w2, w3, .ref f] I4.kIn (by rw [hps]; rfl)) rv (by rw [hps]; rfl) fun hr' => ?_
    obtain ⟨t', ht', hq'⟩ := hG f c' s4 H4 [x1, x2, x3] Q (fun v1 v2 H' Q' => t (σ ++ [some v1, some v2]) H' Q') rfl hr' (fun pn xe e es ta p1 p2 ha hst hpl => pe_actP (i := i) I4 L nab na nb hf hfn hfr (hbind _ _ _ _ _) hr' (fun A outer s H hr2 => hbody A outer s H f c' hr2) hNg hva ha hst hpl hd hcd) hco (q3 H4 k4 T4)
    exact ⟨t', ht', hq'⟩
  have hx : Passes (L2.CX X.prog X.w) X E0 := passes_call L2.takes0 (fun _ _ _ _ h => h)
  refine wpAny_call (codeAny_mono rc fun r s2 hq => ?_)
  cases r with
  | error e => exact hx pins σ H4 s4 e s2 I4 hq
  | ok fl =>
    cases fl with
    | ret u => exact I4.after hq
    | next => exact False.elim hq
    | brk => exact False.elim hq
    | cont => exact False.elim hq
end
end U

namespace U
open PySem PySem.Spec PyProof.Rows L2
/-! ### set(xs), xs a list of ints -/
/-- an empty set, new -/
abbrev set0 (w : World) : Obj := { cls := .type "set", dict := none, data := .set #[] 0 (.fresh 0 0 (!w.params.followText "set-order")) }
/-- what set(l) leaves -/
def LeftS (w : World) (s : Shared) (ns : List Int) (g : Heap) (c : Nat) : Prop := SetR w g s.heap.objs.size (fun j => decide (j ∈ ns)) c ∧ c ≤ ns.length ∧ ∀ b o, s.heap.get? b = some o → g.get? b = some o
section
variable {P : Program} {w : World} {A : Around} {E : Value → Shared → Prop} {s : Shared}
theorem call_setL {l : Addr} {items : Array Value} (ns : List Int) {Q : Value → Shared → Prop} (hh : A.handled = none) (hl : s.heap.IsList l items) (hit : IntsAre items.toList ns) (room : ns.length + 1 < scanBound)
    (fin : ∀ (g : Heap) (tk c : Nat), LeftS w s ns g c → Q (.ref s.heap.objs.size) { s with heap := g, toks := tk }) : wpAny (model P w) A (call (.type "set") [.ref l]) Q E s := by
  have nsz : items.size = ns.length := by have q := IntsAre.length hit; rwa [Array.length_toList] at q
  have CS := F.called_set
  obtain ⟨cc, tail, mro⟩ := CS.mro
  have x1 := CS.made; have x2 := CS.sub; have x3 := CS.notType; have x4 := CS.canCreate; have x5 := F.typeCall_set_1 (.ref l)
  have at0 : (s.heap.push (set0 w)).get? s.heap.objs.size = some (set0 w) := Heap.get?_push_size _ rfl
  refine wpAny_call (codeAny_of_tree ?_)
  show wpAny _ _ (callAny (.type "set") ⟨[.ref l], []⟩) _ _ s
  refine wpAny_pure (And.intro (Code.quiet_builtin _ (by decide +kernel)) (codeAny_builtin F.entry_type_call ?_))
  rw [Around.under_plain (weight_type_call_type "set" [Value.ref l] []) rfl]
  repeat (any_goals (first | assumption | wp_step))
  refine codeAny_mono (code_set_led1 (Value.ref l) (E := E) (Q₁ := fun v t => v = .ref s.heap.objs.size ∧ t = { s with heap := s.heap.push (set0 w) }) ⟨rfl, rfl⟩) fun r t hr => ?_
  cases r with
  | error e => exact hr
  | ok fl =>
    cases fl with
    | ret v =>
      obtain ⟨rfl, rfl⟩ := hr
      have ty : Shared.TypeIs { s with heap := s.heap.push (set0 w) } (.ref s.heap.objs.size) "set" := ⟨_, at0, rfl⟩
      have y1 := CS.init.lookup; have y2 := CS.init.bind (.ref s.heap.objs.size)
      repeat (any_goals (first | assumption | wp_step))
      refine codeAny_mono (codeAny_call_builtin (R := wants (fun r t => r = .none ∧ ∃ g tk c, t = { s with heap := g, toks := tk } ∧ LeftS w s ns g c) E) CS.init.plain F.entry_set_init (check_set_init_1 ty ?_)) fun r2 t2 h2 => ?_
      · obtain ⟨⟨cls, dd, dat, slt⟩, ol, hc, nl, hd⟩ := hl
        simp only at hc hd
        subst hc hd
        have ol2 : (s.heap.push (set0 w)).get? l = some ⟨.type "list", dd, .seq items nl, slt⟩ := Heap.get?_push_of_some _ ol
        have z1 := PySem.F.sub_list_set; have z2 := PySem.F.sub_list_frozenset
        have z3 : (Value.type "list" == Value.type "dict") = false := by decide
        have isl : (s.heap.push (set0 w)).IsList l items := ⟨_, ol2, rfl, nl, rfl⟩
        unfold Builtin.«set.__init__» noKeywords Builtin.Frozenset.updateFrom
        generalize hPI : pyIter = PI
        wp_walk
        subst hPI
        refine wpAny_pyIter_list isl (wpAny_bind (wpAny_runValue ?_))
        have ll : l < s.heap.objs.size := Heap.lt_size ol
        have sz1 : (s.heap.push (set0 w)).objs.size = s.heap.objs.size + 1 := Heap.size_push ..
        have h3 : A.in1.in1.in1.handled = none := by simp [hh]
        have nel : l ≠ (s.heap.push (set0 w)).objs.size := by rw [sz1]; exact Nat.ne_of_lt (Nat.lt_succ_of_lt ll)
        have off : s.heap.objs.size ∉ [(s.heap.push (set0 w)).objs.size, l] := fun z => by
          rw [sz1] at z
          rcases List.mem_cons.mp z with z | z
          · exact absurd z (Nat.ne_of_lt (Nat.lt_succ_self _))
          · exact absurd (List.mem_singleton.mp z) (Nat.ne_of_gt ll)
        have vals : ∀ (i : Nat) (v : Value), items[i]? = some v → ∃ k t, ns[i]? = some k ∧ v = .int k t := fun i v hv => by
          have hi : i < ns.length := nsz ▸ (Array.getElem?_eq_some_iff.mp hv).1
          obtain ⟨t, e⟩ := PyProof.Rows.IntsAre.int_at hit i v (by rw [Array.getElem?_toList]; exact hv)
          exact ⟨ns[i], t, List.getElem?_eq_getElem hi, by rw [e, List.getD_eq_getElem?_getD, List.getElem?_eq_getElem hi] <;> rfl⟩
        refine set_update_ints (Walks.list h3 _ l nel items).toS s.heap.objs.size off ns nsz room vals items.size 0 _ (Nat.sub_zero _) (Nat.zero_le _) ⟨⟨_, Heap.get?_push_size _ rfl, rfl, rfl⟩, isl.push _⟩ ⟨0, Nat.le_refl 0, setR_new_at (Heap.get?_push_of_some _ at0)⟩ fun t c mv hc2 hS => ?_
        obtain ⟨g, gg, dr, tk, os⟩ := t
        obtain rfl : gg = s.gens := mv.gens
        obtain rfl : dr = s.drawn := mv.drawn
        obtain rfl : os = s.os := mv.os
        refine wpAny_pure (wpAny_pure ⟨rfl, g, tk, c, rfl, hS, nsz ▸ hc2, fun b o e => mv.heap b o (fun z => ?_) (Heap.get?_push_of_some _ (Heap.get?_push_of_some _ e))⟩)
        have lb := Heap.lt_size e
        rcases List.mem_cons.mp z with z | z
        · exact absurd z (Nat.ne_of_lt lb)
        · exact absurd ((List.mem_singleton.mp z).trans sz1) (Nat.ne_of_lt (Nat.lt_succ_of_lt lb))
      · cases r2 with
        | error e => exact h2
        | ok fl2 =>
          cases fl2 with
          | ret r =>
            obtain ⟨rfl, g, tk, c, rfl, q⟩ := h2
            repeat (any_goals (first | assumption | wp_step))
            exact fin _ _ _ q
          | next => exact h2.elim
          | brk => exact h2.elim
          | cont => exact h2.elim
    | next => exact hr.elim
    | brk => exact hr.elim
    | cont => exact hr.elim
end
/-- set(xs), xs a list of ints -/
def rSetOfI (K : PySem.W.Frag) (w : World) : List V → Hp → VK → Prop := fun vs H Q => ∃ (a : Addr) (ns : List Int), vs = [.ref a] ∧ SqL K H a (ns.map V.int) ∧ ns.length + 1 < scanBound ∧ ∀ (p : Addr) (c : Nat), H p = none → c ≤ ns.length → Q (.ref p) (upd H p (SetO w p (fun j => decide (j ∈ ns)) c))
theorem cr_setOfI {X : Cx} (hc : X.calm = true) : CallR X (.type "set") (rSetOfI X.K X.w) := by
  intro pins s σ H vs us Q I r h
  obtain ⟨a, ns, rfl, hs, room, q⟩ := h
  obtain ⟨its, rv, hl, hz⟩ := I.list hs
  rw [Vals.ref1 r]
  refine call_setL ns (I.ok.hd hc) hl.isList (by simpa using ints_of_vals rv) room fun g tk c ⟨R, hc2, kp⟩ => ?_
  exact ⟨.ref _, upd H s.heap.objs.size (SetO X.w s.heap.objs.size (fun j => decide (j ∈ ns)) c), I.laid (t' := tk) (fun b u e => kp b u e) (Nat.le_refl _) (setO_new R), rfl, q _ c (I.hok.fresh (Nat.le_refl _)) hc2⟩
/-- {elt for target in iter if ..}, elt an int: D the new set -/
def tScI (w : World) (wi : TI) (g : TG) (tt : TT) (te : TE) (vs : List Nat) : TE := fun σ H Q => wi σ H fun J H1 => ∀ D, H1 D = none → ∃ W : Nat → Nat → Hp → Prop, (∃ m, W 0 m (upd H1 D (SetO w D (fun _ => false) 0))) ∧ ∀ i m G, W i m G →
  (J.stop i G ∧ Q (.ref D) G) ∨ (J.go i G ∧ ∃ Nx : Hp → Prop, (∀ G', Nx G' → ∃ m', m' < m ∧ W (i + 1) m' G') ∧ ∀ x G', J.yld i G x G' → g x (wipe σ vs) G' fun τ G2 => wipe τ vs = wipe σ vs ∧ tt τ G2 fun b G3 =>
    if b = true then te τ G3 fun y G4 => ∃ (c : Int) (S : Int → Bool) (n : Nat), y = .int c ∧ G4 D = some (SetO w D S n) ∧ n + 1 < scanBound ∧ Nx (upd G4 D (SetO w D (fun j => S j || decide (j = c)) (if S c = true then n else n + 1))) else Nx G3)
theorem addI_ok {X : Cx} {pins : List (Addr × Obj)} {σ : L2.St} {H : Hp} {s : Shared} {E : Value → Shared → Prop} {D : Addr} {S : Int → Bool} {n : Nat} {k : Int} {tk : Tok} {Q : Value → Shared → Prop} (I : Inv X pins σ H s) (hD : H D = some (SetO X.w D S n)) (room : n + 1 < scanBound)
    (h : ∀ s', Inv X pins σ (upd H D (SetO X.w D (fun j => S j || decide (j = k)) (if S k = true then n else n + 1))) s' → Q .none s') : wpAny (model X.prog X.w) X.A (call (.builtin "set.add") [.ref D, .int k tk]) Q E s := by
  refine setR_add (setO_get I hD) room fun g sb new => ?_
  obtain ⟨o, _, _, _, ho, _⟩ := id new
  exact h _ (I.write (e := D) (t' := s.toks + 1) (by rw [hD]; trivial) (.inl rfl) (fun b u hb _ => (sb.2 b hb).trans ‹_›) ⟨o, ho⟩ (setO_new new))
section
variable {X : Cx} {elt tg iter : Expr} {ifs : List Expr} {scope : Scope} {own : List (Str × Nat)} {pos : Pos} {wi : TI} {g : TG} {tt : TT} {te : TE}
theorem pe_scI (hcalm : X.calm = true) (nd : X.N.Nodup) (hi : PI X tg iter wi) (ok : BlkOk X.N X.env.scope scope own)
    (hg : ∀ (s : Shared) (G : Hp) (C : Addr) (cl : List (Str × Addr)) (fp : List Addr), PG (X.blk s G scope (compEnvC scope cl C X.env) fp) tg g) (ht : ∀ (s : Shared) (G : Hp) (C : Addr) (cl : List (Str × Addr)) (fp : List Addr), PTs (X.blk s G scope (compEnvC scope cl C X.env) fp) ifs tt)
    (he : ∀ (s : Shared) (G : Hp) (C : Addr) (cl : List (Str × Addr)) (fp : List Addr), PE (X.blk s G scope (compEnvC scope cl C X.env) fp) elt te) (hfs : ∀ x, foldedSetIterable iter X.env x = pure x := by intro _; rfl) :
    PE X (.SetComp elt [⟨tg, iter, ifs, 0⟩] scope pos) (tScI X.w wi g tt te (own.map (·.2))) := by
  constructor
  intro ps s τ G Q I h
  have cells : ∀ y ∈ scope.names, y.2 = .free → ∃ c, X.env.cells.lookup y.1 = some c := by
    intro y my ey
    cases ok.free y my ey with
    | inl k => exact I.ok.has _ (.inl k)
    | inr k => exact I.ok.has _ (.inr k)
  rw [PpSet.eval_SetComp]
  apply wpAny_comprehension_free (use := none) rfl hfs (closure_ok cells) ok.kind
  · intro y my ey
    rw [ok.uniq y my, ey]
  apply thn (hi.run ps s τ G _ I h)
  intro xv sa ha
  apply thn ha
  rintro itv sb ⟨it, fp, tn, J, Gb, rfl, Ib, T, tb, fb, rd⟩
  refine PpSet.newSet_ok (newEnv_comp ?_)
  obtain ⟨D, eD⟩ : ∃ D, sb.heap.objs.size = D := ⟨_, rfl⟩
  rw [eD]
  obtain ⟨W, ⟨m0, w0⟩, turn⟩ := rd D (Ib.hok.fresh (Nat.le_of_eq eD))
  have gD := Ib.hok.fresh (Nat.le_of_eq eD)
  obtain ⟨sc, esc⟩ : ∃ z : Shared, z = { sb with heap := sb.heap.push (set0 X.w) } := ⟨_, rfl⟩
  have hc : sc.heap = sb.heap.push (set0 X.w) := congrArg Shared.heap esc
  have up : ∀ b o, sb.heap.get? b = some o → sc.heap.get? b = some o := by
    intro b o e
    rw [hc]
    exact Heap.get?_push_of_some _ e
  have Ic : Inv X ps τ (upd Gb D (SetO X.w D (fun _ => false) 0)) sc := by
    subst esc
    apply Ib.laid (t' := sb.toks) up (Nat.le_of_eq eD)
    rw [← eD]
    exact setO_new (setR_fresh X.w)
  obtain ⟨Gc, eG⟩ : ∃ z, z = upd Gb D (SetO X.w D (fun _ => false) 0) := ⟨_, rfl⟩
  rw [← eG] at Ic w0
  have fc : ∀ b ∈ fp, FpOk X ps Gc b ∧ b < sc.heap.objs.size := by
    intro b mb
    obtain ⟨o, eo, _⟩ := T.obj _ _ tb b mb
    have lt := Heap.lt_size eo
    constructor
    · refine ⟨?_, (fb b mb).2⟩
      rw [eG, L2.upd_ne (show b ≠ D by rw [← eD]; exact Nat.ne_of_lt lt)]
      exact (fb b mb).1
    · exact Heap.lt_size (up _ _ eo)
  have tc := T.keep _ _ _ tb fun b _ o e => up b o e
  have Id := block_start Ic ok nd fc
  have pg := hg sc Gc sc.heap.objs.size (cellsFrom (sc.heap.objs.size + 1) scope.names (cloFrom X.env.cells scope.names [])) fp
  have pt := ht sc Gc sc.heap.objs.size (cellsFrom (sc.heap.objs.size + 1) scope.names (cloFrom X.env.cells scope.names [])) fp
  have pv := he sc Gc sc.heap.objs.size (cellsFrom (sc.heap.objs.size + 1) scope.names (cloFrom X.env.cells scope.names [])) fp
  rw [← esc]
  obtain ⟨ce, ece⟩ : ∃ z, z = compEnvC scope (cellsFrom (sc.heap.objs.size + 1) scope.names (cloFrom X.env.cells scope.names [])) sc.heap.objs.size X.env := ⟨_, rfl⟩
  rw [← ece] at Id pg pt pv
  have lo : ce.locals = sc.heap.objs.size := by rw [ece]; rfl
  obtain ⟨sd, esd⟩ : ∃ z : Shared, z = { sc with heap := pushCells (sc.heap.push { cls := .type "dict", data := .dict #[] }) scope.names } := ⟨_, rfl⟩
  rw [← esd] at Id
  have td : tn 0 sd.heap := T.keep 0 sc.heap sd.heap tc fun b _ o e => by
    rw [esd]
    exact pushCells_keeps _ _ _ _ (Heap.get?_push_of_some _ e)
  have free0 : ∀ b ∈ fp, Gc b = none := fun b mb => (fc b mb).1.1
  have still : ∀ {τ' : L2.St} {G' : Hp} {s' : Shared}, Inv (X.blk sc Gc scope ce fp) [] τ' G' s' → (∀ b ∈ fp, G' b = none) → ∀ b ∈ fp, FpOk (X.blk sc Gc scope ce fp) [] G' b := by
    intro τ' G' s' Ie n b mb
    refine ⟨n b mb, (Ie.ok.exf b mb).1, Ie.ok.exfs b mb, .inl mb, ?_, ?_⟩
    · intro x c e
      exact (Ie.ok.exf b mb).2 x c e
    · intro p mp
      cases (show p ∈ ([] : List (Addr × Obj)) from mp)
  have walk : codeAny (model X.prog X.w) X.A (.compLoop (.SetComp elt [⟨tg, iter, ifs, 0⟩] scope pos) 0 (.ref it) (.ref D) ce)
      (compPost (model X.prog X.w) X.A X.xe none (EP X ps τ Q) (.ref D) sc.heap.objs.size) sd := by
    apply PpSet.compLoopS_any (fun n z => ∃ i G', Inv (X.blk sc Gc scope ce fp) [] (wipe τ (own.map (·.2))) G' z ∧ tn i z.heap ∧ (∀ b ∈ fp, G' b = none) ∧ W i n G') _ m0 ⟨0, Gc, Id, td, free0, w0⟩
    rintro n z ⟨i, G5, I5, t5, n5, w5⟩
    cases turn i n G5 w5 with
    | inl stop =>
      apply thnF (T.done (X.blk sc Gc scope ce fp) rfl rfl rfl hcalm i [] z _ G5 (fun _ _ => False) I5 (still I5 n5) t5 stop.1)
      rintro r z6 ⟨rfl, I6⟩
      have I7 : Inv X ps τ G5 z6 := by
        apply Ic.call' (ch := fp) I6.os I6.base I6.hok I6.bare
        intro b mb
        have f := (fc b mb).1
        exact ⟨f.2.2.2.1, f.2.1, f.2.2.2.2.1, f.2.2.2.2.2⟩
      have nL : G5 sc.heap.objs.size = none := lo ▸ I6.free
      obtain ⟨m, hm, _⟩ := I6.loc
      have hm : z6.heap.Ns sc.heap.objs.size m := lo ▸ hm
      obtain ⟨f0, f1, f2, f3, f4, f5⟩ := Ic.fpOk (Nat.le_refl _) nL
      refine ⟨m, hm, ?_⟩
      intro h9 sb9
      exact ⟨.ref D, G5, I7.turned (t' := z6.toks) (fun b o hb e => (sb9.2 b hb).trans e) f0 f1 f3 f4 f5, rfl, stop.2⟩
    | inr go =>
      obtain ⟨jg, Nx, hN, step⟩ := go
      apply thnF (T.item (X.blk sc Gc scope ce fp) rfl rfl rfl hcalm i [] z _ G5 (fun _ _ => False) I5 (still I5 n5) t5 jg)
      rintro r z6 ⟨u, rfl, h6⟩
      apply thnF h6
      rintro _ z7 ⟨x, G7, I7, r7, y7, t7, n7⟩
      have J7 := I7.pinned (still I7 n7) (T.obj _ _ t7)
      apply thnF (pg.run _ z7 _ G7 x u _ J7 r7 (step x G7 y7))
      rintro _ z8 ⟨τ8, G8, I8, w8, q8⟩
      apply thnF (pt.run _ z8 τ8 G8 _ I8 q8)
      rintro b z9 ⟨G9, I9, q9⟩
      have fin : ∀ {z9 : Shared} {G9 : Hp}, Inv (X.blk sc Gc scope ce fp) ([] ++ pinsAt fp z7.heap) τ8 G9 z9 → Nx G9 → ∃ m', m' < n ∧ ∃ i G', Inv (X.blk sc Gc scope ce fp) [] (wipe τ (own.map (·.2))) G' z9 ∧ tn i z9.heap ∧ (∀ b ∈ fp, G' b = none) ∧ W i m' G' := by
        intro z9 G9 I9 q9
        obtain ⟨m', lt, w'⟩ := hN G9 q9
        have pin : ∀ b ∈ fp, ∀ o, z7.heap.get? b = some o → z9.heap.get? b = some o ∧ G9 b = none := by
          intro b mb o e
          have q := I9.pin (b, o) (List.mem_append_right _ (List.mem_append_right _ (mem_pinsAt mb e)))
          exact ⟨q.1, q.2.1⟩
        have ll : (wipe τ (own.map (·.2))).length = τ8.length := by rw [← w8, wipe_length]
        refine ⟨m', lt, i + 1, G9, ?_, T.keep (i + 1) z7.heap z9.heap t7 (fun b mb o e => (pin b mb o e).1), ?_, w'⟩
        · apply (I9.unpinned (pins := [])).weak ll
          intro j v e
          rw [← w8] at e
          exact (wipe_some e).1
        · intro b mb
          obtain ⟨o, e, _⟩ := T.obj _ _ t7 b mb
          exact (pin b mb o e).2
      cases b with
      | false =>
        rw [if_neg Bool.false_ne_true] at q9 ⊢
        exact fin I9 q9
      | true =>
        rw [if_pos rfl] at q9 ⊢
        apply thnF (pv.run _ z9 τ8 G9 _ I9 q9)
        rintro v z10 ⟨y, G10, I10, ry, c, S, n0, rfl, gD10, room, nx⟩
        obtain ⟨tk, rfl⟩ := ry
        exact addI_ok (X := X.blk sc Gc scope ce fp) I10 gD10 room fun z11 I11 => fin I11 nx
  show codeAny _ _ (.compStart (.SetComp elt [⟨tg, iter, ifs, 0⟩] scope pos) 0 (.ref it) (.ref D) (compEnvC scope (cellsFrom (sc.heap.objs.size + 1) scope.names (cloFrom X.env.cells scope.names [])) sc.heap.objs.size X.env)) _ { sc with heap := pushCells (sc.heap.push { cls := .type "dict", data := .dict #[] }) scope.names }
  rw [← ece, ← esd]
  exact PpSet.codeAny_compStart_set walk (T.self X.A 0 _ _ _ td walk)
end
end U

namespace U
open PySem PySem.Spec L2 PyProof.Rows
section
variable {X : Cx} {ps : List (Addr × Obj)} {σ : L2.St} {H : Hp} {s : Shared}
/-- the generator at g over the flat items ws stands ready: its truth at each turn is f of that text -/
def RdyV (X : Cx) (ps : List (Addr × Obj)) (σ : L2.St) (G : Hp) (P : Addr) (ws : List V) (f : V → Bool) (g : Addr) (t : Shared) : Prop :=
  ∃ (fp wr : List Addr) (M : Array GenState → Array GenState → Prop) (F : Nat → Value → Prop) (St : Nat → Shared → Prop), WalksS X.prog X.w X.A.in1 g fp wr M ws.length F St ∧ St 0 t ∧
    TruthOf X.prog X.w X.A.in1 F (fun j => (ws[j]?.map f).getD false) ∧ ∀ t', Moved wr M t t' → ∃ G2, GxR.Tabbed P G G2 ∧ Inv X ps σ G2 t'
theorem rdyV_any (ws : List V) (f : V → Bool) : ((List.range ws.length).any fun j => (ws[j]?.map f).getD false) = ws.any f := by
  rw [Bool.eq_iff_iff, List.any_eq_true, List.any_eq_true]
  constructor
  · rintro ⟨j, hj, e⟩
    have lt := List.mem_range.mp hj
    rw [List.getElem?_eq_getElem lt] at e
    exact ⟨_, List.getElem_mem lt, e⟩
  · rintro ⟨b, hb, e⟩
    obtain ⟨j, lt, q⟩ := List.getElem_of_mem hb
    refine ⟨j, List.mem_range.mpr lt, ?_⟩
    rw [List.getElem?_eq_getElem lt, q]
    exact e
/-- z in y, where z is the turn's item and y a captured list, all flat -/
theorem elt_inV {prog : Program} {w : World} {A : Around} {E : Value → Shared → Prop} {ce : Env} {x y : Str} {p1 p2 p3 : Pos} {a : V} {u : Value} {t : Shared} {m : Str → Option Value} {cy L : Addr} {ls : List V} {its : List Value}
    (kf : ce.scope.kind = .function) (lx : ce.scope.names.lookup x = some .local) (ly : ce.scope.names.lookup y = some .free) (hn : t.heap.Ns ce.locals m) (hm : m x = some u) (rx : RelV a u) (fa : flatV a = true) (hc : ce.cells.lookup y = some cy) (hv : t.heap.IsCell cy (some (.ref L)))
    (hl : t.heap.IsList L its.toArray) (rv : Vals ls its) (fl : ls.all flatV = true) (dx : (x == ("__debug__" : Str)) = false) (dy : (y == ("__debug__" : Str)) = false) (cy0 : (y == ("__classdict__" : Str)) = false) :
    wpAny (model prog w) A (eval (.Compare (.Name x p1) [.In] [.Name y p2] p3) ce) (fun v t2 => v = .bool (inV a ls) ∧ Keeps t t2) E t := by
  refine wpAny_Compare1 (wpAny_Name (wpAny_loadName_local kf lx hn hm (wpAny_Name (wpAny_loadName_free kf ly hc hv ?_ cy0) dy)) dx)
  refine SeqAt.in_listAt (eqU a) hl (fun z hz => mem_eqAt rx fa rv fl z (by simpa using hz)) ⟨?_, GxR.keeps_refl _⟩
  rw [show its.toArray.any (eqU a) = its.any (eqU a) by simp, any_eqU rv fl]
  rfl
theorem gen_inV {c P : Addr} {iter : Expr} {x y : Str} {px p1 p2 p3 gpos : Pos} {scope : Scope} {i k : Nat} {te : TE} {Q' : Value → Shared → Prop} {R : List V → List V → Hp → Prop}
    (hr : Room k X.A) (TB : GxR.TabB X.base X.mg c P) (hcode : X.env.code = .ref c) (S : GS X.env.scope scope x y) (hyi : X.N[i]? = some y)
    (hi : PE X iter te) (hs : ∀ v, genFold iter X.env v = pure v) (dx : (x == ("__debug__" : Str)) = false) (dy : (y == ("__debug__" : Str)) = false) (cy0 : (y == ("__classdict__" : Str)) = false)
    (I : Inv X ps σ H s) (h : te σ H fun v G => ∃ (yl L : Addr) (ws ls : List V), v = .ref yl ∧ σ[i]? = some (some (.ref L)) ∧ SqL X.K G yl ws ∧ SqL X.K G L ls ∧ ws.all flatV = true ∧ ls.all flatV = true ∧ GxR.TabG G P ∧ R ws ls G)
    (hQ : ∀ ws ls G g t, R ws ls G → RdyV X ps σ G P ws (fun a => inV a ls) g t → Q' (.ref g) t) :
    wpAny (model X.prog X.w) X.A (eval (.GeneratorExp (.Compare (.Name x p1) [.In] [.Name y p2] p3) [⟨.Name x px, iter, [], 0⟩] scope gpos) X.env) Q' X.xe s := by
  obtain ⟨S_kind, S_co, S_cell, S_dot, S_loc, hyf, hyc, S_fr⟩ := S
  have S_free : ∀ p ∈ scope.names, p.2 = .free → ∃ c, X.env.cells.lookup p.1 = some c := fun p hp e => (S_fr p hp e).elim (fun z => I.ok.has _ (.inl z)) fun z => I.ok.has _ (.inr z)
  refine wpAny_GeneratorExp_walksQ hr.hd S_co (closure_ok S_free) S_cell S_dot S_loc S_kind (by have := hr.dp; omega) (thn (hi.run ps s σ H _ I h) fun xv s1 ⟨v, G, J, r1, q1⟩ => ?_) hs
  obtain ⟨yl, L, ws, ls, rfl, hσ, hyl, hL, fws, fls, ⟨qs, hP, ht⟩, q1⟩ := q1
  obtain rfl : xv = Value.ref yl := r1
  obtain ⟨its, rv, hl, _⟩ := J.list hyl
  obtain ⟨jts, rw_, hl2, _⟩ := J.list hL
  have yL := hl.isList
  have LL := hl2.isList
  -- the captured list's cell
  obtain ⟨cy, hcy, hcell⟩ : ∃ cy, X.env.cells.lookup y = some cy ∧ s1.heap.IsCell cy (some (.ref L)) := by
    obtain ⟨m, _, hm⟩ := J.loc
    obtain ⟨u, ru, lo⟩ := hm i y _ hyi hσ (.inr (.inl hyc))
    obtain rfl : u = Value.ref L := ru
    rcases lo with ⟨z, _⟩ | ⟨_, q⟩
    · have z : X.env.scope.names.lookup y = some .local := z
      rw [hyc] at z
      cases z
    · exact q
  have hce : (cloFrom X.env.cells scope.names []).lookup y = some cy := NdefX.clo_has S_free (PySem.mem_of_lookup hyf) hcy
  have n2 : its.length = ws.length := rv.length.symm
  have turn : ∀ (j : Nat) (v : Value), its.toArray[j]? = some v → ∃ a : V, ws[j]? = some a ∧ RelV a v ∧ flatV a = true := fun j v hv => by
    have h1 : its[j]? = some v := by simpa using hv
    have h2 : j < ws.length := n2 ▸ (List.getElem?_eq_some_iff.mp h1).1
    obtain ⟨a, ha⟩ : ∃ a, ws[j]? = some a := ⟨_, List.getElem?_eq_getElem h2⟩
    obtain ⟨u, hu, ru⟩ := rv.get ha
    rw [h1] at hu
    cases hu
    exact ⟨a, ha, ru, List.all_eq_true.mp fws _ (List.mem_of_getElem? ha)⟩
  refine wpAny_pyIter_list yL ?_
  generalize ho : ({ cls := .type "list_iterator", data := .fields #[.ref yl, .int 0 0] } : Obj) = it
  have itS : (s1.heap.push it).IsListIter s1.heap.objs.size yl 0 := by subst ho; exact ⟨_, Heap.get?_push_size _ rfl, rfl, rfl⟩
  have lt_of : ∀ {b : Addr} {l : Array Value}, s1.heap.IsList b l → b < s1.heap.objs.size := fun z => let ⟨_, e, _⟩ := z; Heap.lt_size e
  have P1 := J.hok P _ hP
  have Plt := Heap.lt_size P1
  have P2 := Heap.get?_push_of_some it P1
  have code2 : PySem.W.CodeHd (s1.heap.push it) c P := TB.code.keeps fun b u e => Heap.get?_push_of_some _ (J.bk b u e)
  have lim := J.nolimit.push it
  have sz : (s1.heap.push it).objs.size = s1.heap.objs.size + 1 := Heap.size_push ..
  have nP : ∀ {b : Addr} {o : Obj}, s1.heap.get? b = some o → (∀ z, o.data ≠ .fields z) → b ≠ P := fun {b o} e n z => by
    rw [z] at e
    have := (Option.some.inj (P1.symm.trans e))
    subst this
    exact n _ rfl
  have rest : ∀ (code : Value) (h3 : Heap) (tk : Nat) (rs : Array Value), Heap.ExtBut P (s1.heap.push it) h3 → (s1.heap.push it).objs.size ≤ h3.objs.size → h3.get? P = some { cls := .none, data := .fields rs } → (∃ more, rs = qs ++ more) → TriplesOk rs.toList →
      wpAny (model X.prog X.w) X.A (builtinsFor X.env.globals X.env.builtins) (fun bi s4 => ∃ Ia fp wr n0 Pf St0 pz F, Value.ref s1.heap.objs.size = .ref Ia ∧ (∀ A' : Around, A'.handled = none → Walks X.prog X.w A' Ia fp wr n0 Pf St0) ∧ St0 0 s4.heap ∧ (∀ b ∈ fp, b < s4.heap.objs.size) ∧ s4.heap.NoLimit ∧ cStatics ∉ wr ∧
          (∀ hh : Heap, (∀ b o, s4.heap.get? b = some o → hh.get? b = some o) → QuietGen X.prog X.w (genEnv scope (cloFrom X.env.cells scope.names []) s4.heap.objs.size code bi X.env) x [] (.Compare (.Name x p1) [.In] [.Name y p2] p3) (List.range s4.heap.objs.size) wr Pf pz F hh) ∧
          (∀ a h5 tk gs, gs.bare = true → s4.heap.objs.size < a → h5.objs.size = a + 1 → (∀ b o, s4.heap.get? b = some o → h5.get? b = some o) → WalksS X.prog X.w X.A.in4 a (a :: s4.heap.objs.size :: List.range s4.heap.objs.size) (s4.heap.objs.size :: wr) (GenOnlyQ s4.gens.size) (passing pz n0 0).length
              (fun j y => ∃ i, (passing pz n0 0)[j]? = some i ∧ F i y) (GenAt X.prog X.w X.A.in4 a s4.gens.size s4.heap.objs.size (List.range s4.heap.objs.size) wr pz n0 F) →
            GenAt X.prog X.w X.A.in4 a s4.gens.size s4.heap.objs.size (List.range s4.heap.objs.size) wr pz n0 F 0 { s4 with gens := s4.gens.push gs, toks := tk, heap := h5 } → Q' (.ref a) { s4 with gens := s4.gens.push gs, toks := tk, heap := h5 })) X.xe { s1 with heap := h3, toks := tk } := by
    intro code h3 tk rs hx hsz hP3 hmore ht3
    obtain ⟨bm, ob, e1, e2, e3, e4, e5, e6, e7, e8⟩ := TB.bm
    obtain ⟨_, ⟨o9, es9, ep9, ho9, hd9, r9⟩, l9⟩ := J.nolimit
    have cP : cStatics ≠ P := nP ho9 fun z e => by rw [hd9] at e; cases e
    have cl : cStatics < s1.heap.objs.size := Heap.lt_size ho9
    have up3 : ∀ b u, b ≠ P → s1.heap.get? b = some u → h3.get? b = some u := fun b u hb e => hx b u hb (Heap.get?_push_of_some _ e)
    have lst3 : ∀ {b : Addr} {l : Array Value}, s1.heap.IsList b l → h3.IsList b l := fun {b l} ⟨o, e, a1, n, a2⟩ => ⟨o, up3 _ _ (nP e fun z q => by rw [a2] at q; cases q) e, a1, n, a2⟩
    refine wpAny_builtinsFor (m := X.mg) (by rw [J.ok.glob]; exact ((J.mod.glob.keeps J.bk).push it).extBut hx TB.gP) e1 e2 (up3 _ _ e4 (J.bk _ _ e5)) e6 e7 e8 ?_
    refine ⟨_, [s1.heap.objs.size, yl], [s1.heap.objs.size], its.toArray.size, (fun i v => its.toArray[i]? = some v), (fun i h => h.IsListIter s1.heap.objs.size yl i ∧ h.IsList yl its.toArray), (fun _ => true), (fun i v => ∃ a, ws[i]? = some a ∧ v = .bool (inV a ls)), rfl,
      (fun A' hA => Walks.list hA _ _ (Nat.ne_of_lt (lt_of yL)) _), ⟨itS.at fun u e => hx _ u (Nat.ne_of_gt Plt) e, lst3 yL⟩, ?_, lim.extBut hx cP, ?_, ?_, ?_⟩
    · intro b hb
      have h6 : s1.heap.objs.size < h3.objs.size := by omega
      rcases List.mem_cons.mp hb with z | z
      · exact z ▸ h6
      · rw [List.mem_singleton.mp z]
        exact Nat.lt_trans (lt_of yL) h6
    · intro z
      exact Nat.ne_of_lt cl (List.mem_singleton.mp z)
    · intro hh hhr
      refine ⟨fun A' E' j v t m hA hv hn hm hk => ?_, fun A' E' j v t m hA hv hp hn hm hk => ?_⟩
      · simp only [List.forIn_nil]
        exact wpAny_pure ⟨rfl, GxR.keeps_refl _⟩
      obtain ⟨a, ha, ra, fa⟩ := turn j v hv
      have stay : ∀ b o, b < s1.heap.objs.size → h3.get? b = some o → t.heap.get? b = some o := fun b o hb e => hk b (List.mem_range.mpr (Nat.lt_of_lt_of_le hb (by show s1.heap.objs.size ≤ h3.objs.size; omega))) (fun z => Nat.ne_of_lt hb (List.mem_singleton.mp z)) o (hhr b o e)
      have lstT : t.heap.IsList L jts.toArray := by
        obtain ⟨o, e, r⟩ := lst3 LL
        exact ⟨o, stay _ _ (lt_of LL) e, r⟩
      have celT : t.heap.IsCell cy (some (.ref L)) := by
        obtain ⟨o, e, r⟩ := hcell
        exact ⟨o, stay _ _ (Heap.lt_size e) (up3 _ _ (nP e fun z q => by rw [r] at q; cases q) e), r⟩
      refine wpAny_mono (elt_inV (ce := genEnv scope (cloFrom X.env.cells scope.names []) h3.objs.size code _ X.env) (A := A') (E := E') S_kind S_loc hyf hn hm ra fa hce celT lstT rw_ fls dx dy cy0) (fun v t2 r => ⟨⟨a, ha, r.1⟩, r.2⟩) fun _ _ e => e
    · intro g h5 tk5 gs hgb hag hsz5 hk5 W5 hat
      simp only [GxR.passing_true, List.length_range] at W5
      have n5 : its.toArray.size = ws.length := by rw [List.size_toArray, n2]
      rw [n5] at W5 hat
      refine hQ ws ls G g _ q1 ⟨_, _, _, _, _, W5.in4_1, hat, ?_, fun t' hm => ?_⟩
      · rintro j v sj Qj Ej ⟨i2, hij, a, ha, rfl⟩ hq
        obtain ⟨hj, ej⟩ := List.getElem?_eq_some_iff.mp hij
        rw [List.getElem_range] at ej
        subst ej
        have hq : Qj ((ws[j]?.map fun a => inV a ls).getD false) sj := hq
        rw [ha] at hq
        exact wpAny_truthy_bool hq
      · obtain ⟨more, em⟩ := hmore
        have off : ∀ b u, s1.heap.get? b = some u → b ∉ h3.objs.size :: [s1.heap.objs.size] := fun b u e hb => by
          have lt := Heap.lt_size e
          have h6 : s1.heap.objs.size < h3.objs.size := by omega
          rcases List.mem_cons.mp hb with z | z
          · have z : b = h3.objs.size := z
            rw [z] at lt
            exact Nat.lt_asymm h6 lt
          · rw [List.mem_singleton.mp z] at lt
            exact Nat.lt_irrefl _ lt
        have K1 := GxR.inv_tab (more := more) (h' := t'.heap) (g' := t'.gens) (d' := t'.drawn) (t' := t'.toks) J hP (fun b u hb e => hm.heap b u (off b u e) (hk5 b u (up3 b u hb e))) (by rw [← em]; exact hm.heap P _ (off P _ P1) (hk5 P _ hP3)) (AllBare.movedS (J.bare.push hgb) hm)
        rw [GxR.sh_eta s1 t' hm.os] at K1
        exact ⟨upd G P (.tbl (qs ++ more)), ⟨⟨_, upd_same, by rw [← em]; exact ht3⟩, fun b hb => upd_ne hb⟩, K1⟩
  refine ⟨lim, ?_⟩
  cases hf : codeAmong gpos qs.toList with
  | some cv => exact wpAny_genexprCode_hit hcode (code2.code P2 ht) hf (rest cv _ s1.toks qs (Heap.ExtBut.refl _ _) (Nat.le_refl _) P2 ⟨#[], by simp⟩ ht)
  | none =>
    refine wpAny_genexprCodeX hcode (code2.code P2 ht) (code2.tab P2) hf fun c' h' tk hx hge hlt hco' _ htab' _ => ?_
    obtain ⟨o1, vs, f1, tf, fl, tg, inF, tx, tt, op, _, _, _, _, _, _, _, _, _, htr, _⟩ := hco'
    exact rest _ h' tk _ hx (Nat.le_trans hge (Nat.le_of_lt hlt)) htab'.2 ⟨_, rfl⟩ htr
/-- any(x in y for x in e): e a list of texts, y a captured one; behind it the def's table may have grown -/
def tAnyInV (K : PySem.W.Frag) (P : Addr) (i : Nat) (te : TE) : TE := fun σ H Q => te σ H fun v G => ∃ (yl L : Addr) (ws ls : List V), v = .ref yl ∧ σ[i]? = some (some (.ref L)) ∧ SqL K G yl ws ∧ SqL K G L ls ∧ ws.all flatV = true ∧ ls.all flatV = true ∧ GxR.TabG G P ∧
  ∀ G2, GxR.Tabbed P G G2 → Q (.bl (ws.any fun a => inV a ls)) G2
theorem pe_anyInV {c P : Addr} {iter : Expr} {x y : Str} {px p p1 p2 p3 pos gpos : Pos} {scope : Scope} {i k : Nat} {te : TE}
    (hr : Room k X.A) (hg : Gl X "any") (hm : X.mg "any" = none) (TB : GxR.TabB X.base X.mg c P) (hcode : X.env.code = .ref c) {sc : Scope} (hsc : X.env.scope = sc) (S : GS sc scope x y) (hyi : X.N[i]? = some y)
    (hi : PE X iter te) (hs : ∀ v, genFold iter X.env v = pure v := by intro _; rfl) (dx : (x == ("__debug__" : Str)) = false := by decide) (dy : (y == ("__debug__" : Str)) = false := by decide) (cy0 : (y == ("__classdict__" : Str)) = false := by decide)
    (he : starEach [.GeneratorExp (.Compare (.Name x p1) [.In] [.Name y p2] p3) [⟨.Name x px, iter, [], 0⟩] scope gpos] X.env = (false, eval (.GeneratorExp (.Compare (.Name x p1) [.In] [.Name y p2] p3) [⟨.Name x px, iter, [], 0⟩] scope gpos) X.env) :: starEach [] X.env := by rfl) :
    PE X (.Call (.Name "any" p) [.GeneratorExp (.Compare (.Name x p1) [.In] [.Name y p2] p3) [⟨.Name x px, iter, [], 0⟩] scope gpos] [] pos) (tAnyInV X.K P i te) := by
  refine ⟨fun ps s σ H Q I h => wpAny_Call_Name_kw (ld_blt I hg hm boot_any (PyProof.Rows.callWith_builtin1 ?_ he (by rfl)))⟩
  rw [he]
  show wpAny _ _ (spliced ((false, eval (.GeneratorExp (.Compare (.Name x p1) [.In] [.Name y p2] p3) [⟨.Name x px, iter, [], 0⟩] scope gpos) X.env) :: backTo pos (starEach [] X.env))) _ _ s
  refine Calls.spliced_cons (gen_inV (R := fun ws ls G => ∀ G2, GxR.Tabbed P G G2 → Q (.bl (ws.any fun a => inV a ls)) G2) hr TB hcode (hsc ▸ S) hyi hi hs dx dy cy0 I h fun ws ls G g t hR hG => ?_)
  obtain ⟨fp, wr, M, F, St, W, hst, htr, hI⟩ := hG
  refine Calls.spliced_nil (call_any_walkS (W.self 0 _ _ _ hst ⟨g, fp, wr, M, _, F, St, _, rfl, W, hst, htr, fun t' hmv => ?_⟩))
  obtain ⟨G2, hT, J⟩ := hI t' hmv
  refine ⟨.bl _, G2, J, rfl, ?_⟩
  rw [rdyV_any ws fun a => inV a ls]
  exact hR G2 hT
end
/-! ### a def whose code object is told, that may raise -/
theorem FunC.okX {P : Program} {w : World} {K : PySem.W.Frag} {mg : Str → Option Value} {base : Heap} {x qual : Str} {st : Stmt} {f c : Addr} {fd : FuncData} {N ps : List Str} {k : Nat} {sp : Sp} (F : FunC K x qual st f c fd) (S : FnScope N ps (defScope st)) (len : ∀ vs H Q E, sp vs H Q E → vs.length = ps.length)
    (hb : ∀ (A : Around) (outer : List Env) (s : Shared) (H : Hp) (vs : List V) (Q : VK) (E : XK), Room k (A.deeper (envOfC qual (defScope st) s.heap.objs.size f (.ref c))) → sp vs H Q E →
      ∃ t, PSs (cxOf (L2N.CX P w) P w K mg base N qual (defScope st) f (.ref c) A outer s H E) (defBody st) t ∧ t { nx := fun _ H' => Q .non H', rt := Q } (L2.start N vs) H) : FnOk P w K mg base (L2N.CX P w) (k + 1) f fd ps sp := by
  obtain ⟨oc, od, kV, doc, pm, an, ct, osl, rfl, lk, hcd⟩ := F.ex
  exact fn_of lk hcd S len fun A outer s H vs Q E hr h => hb A outer s H vs Q E hr h
theorem passX0 {X : Cx} : Passes (L2N.CX X.prog X.w) X E0 := L2N.passes_call takes0N (fun _ _ _ _ h => h)
theorem pa_starK {X : Cx} {K : PySem.W.Frag} {e : Expr} {es : List Expr} {te : TE} {t : TA} {p : Pos} (hK : X.K = K) (he : PE X e te) (hr : L2.PA X es t) (hs : starEach (.Starred e p :: es) X.env = (true, eval e X.env) :: starEach es X.env := by rfl) : L2.PA X (.Starred e p :: es) (StX.tStar K te t) := hK ▸ StX.pa_star he hr hs
end U

namespace U
open PySem PySem.Spec L2 PyProof.Rows
/-- == of two dicts of equal data -/
def rEqDD (K : PySem.W.Frag) : R2 := fun x y H Q => ∃ a b kvs kws, x = .ref a ∧ y = .ref b ∧ H a = some (.dK kvs) ∧ H b = some (.dK kws) ∧ kvs.length = kws.length ∧ (∀ p ∈ kvs, ∃ y d e, valV kws p.1 = some y ∧ Dp K H p.2 d ∧ Dp K H y e ∧ SeqAt.shaped d = true ∧ SeqAt.shaped e = true ∧ PyData.eqv d e = true) ∧ Q (.bl true) H
theorem op_eqDD {X : Cx} (hu : X.A.units + 65 < cLine) : OpR X (compareOp .Eq) (rEqDD X.K) := by
  rintro ps s σ H x y v u Q I rx ry ⟨a, b, kvs, kws, rfl, rfl, ea, eb, hl, hp, q⟩
  obtain rfl : v = Value.ref a := rx
  obtain rfl : u = Value.ref b := ry
  obtain ⟨_, ya, va, ra, da⟩ := (show ObjOk X.prog X.w H s.heap a (.dK kvs) from I.hok a _ ea)
  obtain ⟨_, yb, vb, rb, db⟩ := (show ObjOk X.prog X.w H s.heap b (.dK kws) from I.hok b _ eb)
  have hl : va.length = vb.length := ra.length.symm.trans (hl.trans rb.length)
  exact PySem.W.keq_eq (knd := mixKind X.prog X.w) (r := true) ya yb da db (by omega) (fun _ => hits_data I (by show X.A.units + 1 + 64 < cLine; omega) rb ra hp) (fin_bl I q (by simp [hl]))
theorem op_neDDK {X : Cx} {K : PySem.W.Frag} (h : X.K = K) (hu : X.A.units + 65 < cLine) : OpR X (compareOp .NotEq) (rNeDD K) := h ▸ op_neDD hu
end U

namespace U
open PySem PySem.Spec PyProof.Rows L2 LamX
/-! ### a lambda with one parameter that has a default, handed to a def that calls it without arguments -/
abbrev dlFn (qual : Str) (params : Arguments) (body : Expr) (scope : Scope) (cl : List (Str × Addr)) (dV pm cdv ct : Value) : FuncData :=
  { name := "<lambda>", qualname := qual, params, body := .expr body, scope, globals := mainGlobals, closure := cl, defaults := dV, kwdefaults := .none, doc := .none, pyModule := pm, annotations := none, code := cdv, closureTuple := ct, builtins := builtinsNs }
abbrev dlObj (qual : Str) (params : Arguments) (body : Expr) (scope : Scope) (cl : List (Str × Addr)) (dV pm : Value) (c' : Addr) (ct : Value) : Obj :=
  { cls := .type "function", data := .func (dlFn qual params body scope cl dV pm (.ref c') ct) }
section
variable {M : Model} {A : Around} {E : Value → Shared → Prop} {s : Shared} {qual : Str} {params : Arguments} {body : Expr} {scope : Scope} {env : Env} {c P : Addr} {ps : Array Value} {pos : Pos} {line : Nat} {mg : Str → Option Value} {cl : List (Str × Addr)} {Q : Value → Shared → Prop} {dV : Value}
/-- what is behind the code object is the same whether it is new or found: Cd tells of it -/
theorem dl_tail {Cd : Heap → Value → Heap → Prop} (hcl : closureFor scope env = pure cl) (ge : env.globals = mainGlobals) (hg : s.heap.Ns mainGlobals mg) (hb : s.heap.BuiltinsAt mg P)
    (code : ∀ (h0 : Heap) (R : Value → Shared → Prop), (∀ b o, s.heap.get? b = some o → h0.get? b = some o) → (∀ cv h1 tk, Cd h0 cv h1 → R cv { s with heap := h1, toks := tk }) → wpAny M A (functionCode env pos line "<lambda>" qual params scope (.expr body)) R E { s with heap := h0 })
    (keep : ∀ h0 cv h1, Cd h0 cv h1 → h0.Ns mainGlobals mg → h1.Ns mainGlobals mg ∧ ∀ b o, b ≠ P → h0.get? b = some o → h1.get? b = some o)
    (fin : ∀ (h0 : Heap) (cv : Value) (h1 : Heap) (ct : Value) (tk : Tok), (∀ b o, s.heap.get? b = some o → h0.get? b = some o) → s.heap.objs.size ≤ h0.objs.size → Cd h0 cv h1 → Q (.ref h1.objs.size) { s with heap := h1.push { cls := .type "function", data := .func (dlFn qual params body scope cl dV ((mg "__name__").getD .none) cv ct) }, toks := tk }) :
    wpAny M A (makeTail "<lambda>" qual params (.expr body) scope env dV .none none pos line) Q E s := by
  obtain ⟨bm, ob, at_, ne, _, nP, ho, kc, kd, kt⟩ := hb
  unfold makeTail
  rw [hcl, ge]
  refine wpAny_bind (wpAny_pure ?_)
  have more : ∀ (o : Obj) (b : Addr) (u : Obj), s.heap.get? b = some u → (s.heap.push o).get? b = some u := fun o b u e => Heap.get?_push_of_some _ e
  cases cl with
  | nil =>
    simp only [List.isEmpty_nil, if_true]
    refine wpAny_bind (wpAny_pure ?_)
    have same : ∀ (b : Addr) (u : Obj), s.heap.get? b = some u → s.heap.get? b = some u := fun _ _ e => e
    refine wpAny_bind (code s.heap _ same fun cv h1 tk cd => ?_)
    obtain ⟨n1, k1⟩ := keep _ cv h1 cd hg
    refine wpAny_bind (wpAny_builtinsFor n1 at_ ne (k1 _ _ nP (same _ _ ho)) kc kd kt (wpAny_bind (wpAny_nsGet n1 (wpAny_bind (wpAny_pure ?_)))))
    exact wpAny_newObj_type (fin s.heap cv h1 _ tk same (Nat.le_refl _) cd) (by size_fits)
  | cons x r =>
    simp only [List.isEmpty_cons, Bool.false_eq_true, if_false]
    refine wpAny_bind (wpAny_newTextTuple ?_)
    refine wpAny_bind (code _ _ (more _) fun cv h1 tk cd => ?_)
    obtain ⟨n1, k1⟩ := keep _ cv h1 cd (hg.push _)
    refine wpAny_bind (wpAny_builtinsFor n1 at_ ne (k1 _ _ nP ((more _) _ _ ho)) kc kd kt (wpAny_bind (wpAny_nsGet n1 (wpAny_bind (wpAny_pure ?_)))))
    exact wpAny_newObj_type (fin _ cv h1 _ tk (more _) (by rw [Heap.size_push]; exact Nat.le_succ _) cd) (by size_fits)
theorem dl_makeTail (hcl : closureFor scope env = pure cl) (ge : env.globals = mainGlobals) (hg : s.heap.Ns mainGlobals mg) (hcode : env.code = .ref c) (C : PySem.W.CodeHd s.heap c P) (hP : s.heap.get? P = some (PySem.W.tabObj ps)) (ht : TriplesOk ps.toList)
    (none_ : codeAmong pos ps.toList = none) (gP : mainGlobals ≠ P) (hb : s.heap.BuiltinsAt mg P)
    (h : ∀ c' ct h1 tk, Heap.ExtBut P s.heap h1 → s.heap.objs.size ≤ c' → c' < h1.objs.size → h1.CodeRec (.ref c') qual → h1.get? P = some (PySem.W.tabObj (ps ++ #[rawInt pos.line, rawInt pos.col, .ref c'])) → Q (.ref h1.objs.size) { s with heap := h1.push (dlObj qual params body scope cl dV ((mg "__name__").getD .none) c' ct), toks := tk }) :
    wpAny M A (makeTail "<lambda>" qual params (.expr body) scope env dV .none none pos line) Q E s := by
  refine dl_tail (Cd := fun h0 cv h1 => ∃ c', cv = .ref c' ∧ Heap.ExtBut P h0 h1 ∧ h0.objs.size ≤ c' ∧ c' < h1.objs.size ∧ h1.CodeRec (.ref c') qual ∧ h1.get? P = some (PySem.W.tabObj (ps ++ #[rawInt pos.line, rawInt pos.col, .ref c']))) hcl ge hg hb (fun h0 R up go => ?_) (fun h0 cv h1 cd n0 => ?_) fun h0 cv h1 ct tk up sz cd => ?_
  · have C0 := C.keeps up
    exact wpAny_functionCodeX hcode (C0.code (up _ _ hP) ht) (C0.tab (up _ _ hP)) none_ fun c' h1 tk x1 x2 x3 _ x4 x5 _ => go _ _ _ ⟨c', rfl, x1, x2, x3, x4, x5.2⟩
  · obtain ⟨c', _, x1, _⟩ := cd
    exact ⟨n0.extBut x1 gP, fun b o nb e => x1 b o nb e⟩
  · obtain ⟨c', rfl, x1, x2, x3, x4, x5⟩ := cd
    exact h c' ct h1 tk (fun b o nb e => x1 b o nb (up b o e)) (Nat.le_trans sz x2) x3 x4 x5
theorem dl_makeTailHit {c' : Addr} (hcl : closureFor scope env = pure cl) (ge : env.globals = mainGlobals) (hg : s.heap.Ns mainGlobals mg) (hcode : env.code = .ref c) (C : PySem.W.CodeHd s.heap c P) (hP : s.heap.get? P = some (PySem.W.tabObj ps)) (ht : TriplesOk ps.toList)
    (found : codeAmong pos ps.toList = some (.ref c')) (hb : s.heap.BuiltinsAt mg P)
    (h : ∀ (ct : Value) (h1 : Heap) (tk : Tok), (∀ b o, s.heap.get? b = some o → h1.get? b = some o) → s.heap.objs.size ≤ h1.objs.size → Q (.ref h1.objs.size) { s with heap := h1.push (dlObj qual params body scope cl dV ((mg "__name__").getD .none) c' ct), toks := tk }) :
    wpAny M A (makeTail "<lambda>" qual params (.expr body) scope env dV .none none pos line) Q E s := by
  refine dl_tail (Cd := fun h0 cv h1 => cv = .ref c' ∧ h1 = h0) hcl ge hg hb (fun h0 R up go => ?_) (fun h0 cv h1 cd n0 => ?_) fun h0 cv h1 ct tk up sz cd => ?_
  · exact wpAny_functionCode_hit hcode ((C.keeps up).code (up _ _ hP) ht) found (go (.ref c') h0 s.toks ⟨rfl, rfl⟩)
  · rw [cd.2]
    exact ⟨n0, fun _ _ _ e => e⟩
  · obtain ⟨rfl, rfl⟩ := cd
    exact h ct h1 tk up sz
end
structure LamSD (a : Str) (sc scope : Scope) : Prop where
  kind : scope.kind = .function
  co : scope.isCoroutine = false
  gen : scope.isGenerator = false
  cell : ∀ y ∈ scope.names, y.2 ≠ .cell
  loc : ∀ y ∈ scope.names, y.2 = .local → y.1 = a
  pa : scope.names.lookup a = some .local
  free : ∀ y ∈ scope.names, y.2 = .free → sc.names.lookup y.1 = some .cell ∨ sc.names.lookup y.1 = some .free
def lamSDB (a : Str) (sc scope : Scope) : Bool :=
  (decide (scope.kind = .function) && !scope.isCoroutine && !scope.isGenerator && decide (scope.names.lookup a = some .local)) &&
    scope.names.all fun y => !decide (y.2 = .cell) && (!decide (y.2 = .local) || decide (y.1 = a)) && (!decide (y.2 = .free) || decide (sc.names.lookup y.1 = some .cell) || decide (sc.names.lookup y.1 = some .free))
theorem lamSD_by {a : Str} {sc scope : Scope} (h : lamSDB a sc scope = true) : LamSD a sc scope := by
  unfold lamSDB at h
  simp only [Bool.and_eq_true, Bool.or_eq_true, Bool.not_eq_true', decide_eq_true_eq, decide_eq_false_iff_not, List.all_eq_true] at h
  obtain ⟨⟨⟨⟨h1, h2⟩, h3⟩, h4⟩, h6⟩ := h
  refine ⟨h1, h2, h3, fun y hy => (h6 y hy).1.1, fun y hy e => ?_, h4, fun y hy e => ?_⟩
  · rcases (h6 y hy).1.2 with z | z
    · exact absurd e z
    · exact z
  · rcases (h6 y hy).2 with (z | z) | z
    · exact absurd e z
    · exact .inl z
    · exact .inr z
theorem LamSD.has {X : Cx} {a : Str} {scope : Scope} (L : LamSD a X.env.scope scope) (ok : X.Ok) : ∀ y ∈ scope.names, y.2 = .free → ∃ c, X.env.cells.lookup y.1 = some c := fun y hy e => ok.has _ (L.free y hy e)
abbrev xeN (X : Cx) (A : Around) (outer : List Env) (s : Shared) (H : Hp) (E : XK) (scope : Scope) (f c' : Addr) : Value → Shared → Prop := fun e s' => wpAny (model X.prog X.w) (A.deeper (lamEnv X scope s.heap.objs.size f c')) (leaving (lamEnv X scope s.heap.objs.size f c') e) (fun _ s2 => L2N.CX X.prog X.w outer H s E e s2) (fun e2 s2 => L2N.CX X.prog X.w outer H s E e2 s2) s'
def lamCxD (X : Cx) (a : Str) (A : Around) (outer : List Env) (s : Shared) (H : Hp) (E : XK) (scope : Scope) (f c' : Addr) : Cx := { lamCx X A outer s H E scope f c' with N := X.N ++ [a], xe := xeN X A outer s H E scope f c' }
def lamCx0 (X : Cx) (A : Around) (outer : List Env) (s : Shared) (H : Hp) (E : XK) (scope : Scope) (f c' : Addr) : Cx := { lamCx X A outer s H E scope f c' with xe := xeN X A outer s H E scope f c' }
/-- a def that calls what it got, told that what comes out has no context -/
def GivesN (X : Cx) (Ng : List Str) (x : Str) (sg : Scope) (g : Addr) (cdg : Value) (bg : List Stmt) (a q : Str) (TT : (XK → Hp → VK → Prop) → Hp → VK → Prop) : Prop :=
  ∀ (f c' : Addr) (s : Shared) (H : Hp) (Q : VK) (tl : XK → Hp → VK → Prop),
    (∀ (W : WX) (pn : List (Addr × Obj)) (xe : Value → Shared → Prop) (E : XK) (p1 p2 : Pos), L2N.Takes ((cxOf C8.CX0 X.prog X.w X.K X.mg X.base Ng x sg g cdg X.A X.stack s H C8.E0).tr pn xe) W → (∀ cls d σ' H', E cls d H' → W cls d σ' H') →
      PE ((cxOf C8.CX0 X.prog X.w X.K X.mg X.base Ng x sg g cdg X.A X.stack s H C8.E0).tr pn xe) (.Call (.Name a p1) [] [] p2) (fun σZ HZ Q => σZ[0]? = some (some (.ref f)) ∧ HZ c' = some (CodeO c' q) ∧ tl E HZ Q)) →
    H c' = some (CodeO c' q) → TT tl H Q → ∃ t, PSs (cxOf C8.CX0 X.prog X.w X.K X.mg X.base Ng x sg g cdg X.A X.stack s H C8.E0).nox bg t ∧ t { nx := fun _ H' => Q .non H', rt := Q } (L2.start Ng [.ref f]) H
section
variable {X : Cx} {pins : List (Addr × Obj)} {σ : L2.St} {H HZ : Hp} {s s1 : Shared} {a : Str}
theorem lam_startD {A : Around} {outer : List Env} {E : XK} {scope : Scope} {f c' : Addr} {h₁ : Heap} {tk : Nat} {v1 : V} {u1 : Value} (I : Inv X pins σ H s) (L : LamSD a X.env.scope scope) (na : a ∉ X.N)
    (e0 : Env0 X.prog X.w X.K X.mg X.base A outer s1 HZ) (hd : A.handled = none) (un : Un (frs X.stack) [] H HZ s.heap s1.heap) (hns : h₁.Ns s1.heap.objs.size fun y => ([(a, u1)] : List (Str × Value)).reverse.lookup y) (kp : ∀ b o, s1.heap.get? b = some o → h₁.get? b = some o)
    (r1 : L2.RelV v1 u1) : Inv (lamCxD X a A outer s1 HZ E scope f c') [] (σ ++ [some v1]) HZ { s1 with heap := h₁, toks := tk } := by
  have hfree := L.has I.ok
  have back : ∀ {y c}, (cloFrom X.env.cells scope.names []).lookup y = some c → X.env.cells.lookup y = some c := fun {y c} e => by
    rcases cloFrom_mem (PySem.mem_of_lookup e) with hm | ⟨h1, h2⟩
    · cases hm
    · obtain ⟨c1, hc⟩ := hfree _ h1 rfl
      have hc : X.env.cells.lookup y = some c1 := hc
      have : c = c1 := by rw [h2, hc] <;> rfl
      rw [this, hc]
  have look : ∀ {y}, scope.names.lookup y = some .free → ∃ c, (cloFrom X.env.cells scope.names []).lookup y = some c := fun {y} hl => mem_lookup (cloFrom_has (cells := X.env.cells) (acc := []) (PySem.mem_of_lookup hl))
  have cellK : ∀ {c : Addr} {v : Option Value}, H c = none → s.heap.IsCell c v → h₁.IsCell c v := fun {c v} n z => by
    obtain ⟨o, ho, hd⟩ := z
    obtain ⟨sl, q⟩ := un.any ho n List.not_mem_nil
    exact ⟨_, kp _ _ q, hd⟩
  have lz : ∀ {y : Str}, scope.names.lookup y = some .local → y = a := fun {y} h => L.loc _ (PySem.mem_of_lookup h) rfl
  have la : (([(a, u1)] : List (Str × Value)).reverse).lookup a = some u1 := by
    show List.lookup a [(a, u1)] = _
    rw [List.lookup_cons, beq_self_eq_true]
  have len := I.len
  refine ⟨⟨e0.mod, L.kind, rfl, rfl, Nat.le_refl _, fun y z c p q => I.ok.inj y z c (back p) (back q), fun y hy => ?_, fun y c z _ => ?_, fun _ => hd, Around.frames_deeper e0.frames, .inr ⟨rfl, rfl⟩, (fun b z => absurd (show b ∈ ([] : List Addr) from z) List.not_mem_nil), e0.bs, e0.bsz, (fun b _ _ z => absurd (show b ∈ ([] : List Addr) from z) List.not_mem_nil),
      (fun b z => absurd (show b ∈ ([] : List Addr) from z) List.not_mem_nil), e0.funs, e0.frf⟩,
    rfl, e0.bare, Un.kept kp, ⟨_, hns, fun i y v p q vis => ?_⟩, fun y c e => ?_, e0.hok.fresh (Nat.le_refl _), fun y c e => ?_, fun q hq => absurd (show q ∈ ([] : List (Addr × Obj)) ++ [] from hq) (by simp), e0.hok.kept kp, ?_⟩
  · have hy : scope.names.lookup y = some .cell ∨ scope.names.lookup y = some .free := hy
    rcases hy with hy | hy
    · exact absurd rfl (L.cell _ (PySem.mem_of_lookup hy))
    · exact look hy
  · have z : false = true := z
    cases z
  · have p : (X.N ++ [a])[i]? = some y := p
    have vis : Vis scope y := vis
    by_cases hi : i < X.N.length
    · rw [List.getElem?_append_left hi] at p
      rw [List.getElem?_append_left (by omega)] at q
      have hyN := List.mem_of_getElem? p
      rcases vis with k | k | k
      · exact absurd (lz k ▸ hyN) na
      · exact absurd rfl (L.cell _ (PySem.mem_of_lookup k))
      · obtain ⟨m, hn, hl⟩ := I.loc
        have kv := L.free _ (PySem.mem_of_lookup k) rfl
        obtain ⟨w', r, q'⟩ := hl i y v p q (kv.elim (fun k => .inr (.inl k)) (fun k => .inr (.inr k)))
        obtain ⟨c2, h2⟩ := look k
        refine ⟨w', r, .inr ⟨.inr k, c2, h2, ?_⟩⟩
        have c1 := back h2
        rcases q' with ⟨k', _⟩ | ⟨_, c3, e', z⟩
        · have k' : X.env.scope.names.lookup y = some .local := k'
          rcases kv with k2 | k2 <;> (have k2 : X.env.scope.names.lookup y = _ := k2; rw [k2] at k'; cases k')
        · rw [c1] at e'
          cases e'
          exact cellK (I.freeC y _ c1) z
    · rw [List.getElem?_append_right (by omega)] at p q
      rw [len] at q
      have h2 : i - X.N.length = 0 := by
        have := (List.getElem?_eq_some_iff.mp p).1
        simp at this
        omega
      rw [h2] at p q
      obtain rfl : a = y := by simpa using p
      obtain rfl : v1 = v := by simpa using q
      exact ⟨u1, r1, .inl ⟨L.pa, la⟩⟩
  · obtain ⟨w', z⟩ := I.cell y c (back e)
    exact ⟨w', cellK (I.freeC y c (back e)) z⟩
  · obtain ⟨v, o, ho, hd⟩ := I.cell y c (back e)
    exact un.free c o ho (I.freeC y c (back e)) List.not_mem_nil
  · show (σ ++ [some v1]).length = (X.N ++ [a]).length
    rw [List.length_append, List.length_append, len]
    rfl
abbrev dTup (u : Value) : Obj := { cls := .type "tuple", data := .seq #[u] }
/-- x(), in the def that got the lambda -/
theorem pe_actD {CXg : CXT} {Eg : XK} {Ng : List Str} {qg : Str} {sg : Scope} {g f c' dT : Addr} {cdg pm ctv u1 : Value} {v1 : V} {params : Arguments} {body : Expr} {scope : Scope} {k i : Nat} {x : Str} {pn : List (Addr × Obj)} {xe : Value → Shared → Prop} {W : WX} {E : XK} {tb : TE} {p1 p2 : Pos}
    (I : Inv X pins σ H s) (L : LamSD a X.env.scope scope) (na : a ∉ X.N) (hf : s.heap.get? f = some (dlObj (X.env.qual ++ "<lambda>") params body scope (cloFrom X.env.cells scope.names []) (.ref dT) pm c' ctv)) (hfn : H f = none) (hfr : f ∉ frs X.stack)
    (hd0 : s.heap.get? dT = some (dTup u1)) (hdn : H dT = none) (hdr : dT ∉ frs X.stack) (rv1 : L2.RelV v1 u1)
    (hbind : ∃ kk, bindArgs (dlFn (X.env.qual ++ "<lambda>") params body scope (cloFrom X.env.cells scope.names []) (.ref dT) pm (.ref c') ctv) ⟨[], []⟩ = seqItems? (.ref dT) >>= kk ∧ kk (some #[u1]) = pure [(a, u1)])
    (tk : L2N.Takes ((cxOf CXg X.prog X.w X.K X.mg X.base Ng qg sg g cdg X.A X.stack s H Eg).tr pn xe) W) (hW : ∀ cls d σ' H', E cls d H' → W cls d σ' H') (hr : Room (k + 1) (X.A.deeper (envOfC qg sg s.heap.objs.size g cdg)))
    (hbody : ∀ (A : Around) (outer : List Env) (s : Shared) (H : Hp), Room k (A.deeper (lamEnv X scope s.heap.objs.size f c')) → PE (lamCxD X a A outer s H E scope f c') body tb)
    (hN : Ng[i]? = some x) (hv : Vis sg x) (hd : (x == ("__debug__" : Str)) = false := by decide) (hcd : (x == ("__classdict__" : Str)) = false := by decide) :
    PE ((cxOf CXg X.prog X.w X.K X.mg X.base Ng qg sg g cdg X.A X.stack s H Eg).tr pn xe) (.Call (.Name x p1) [] [] p2)
      (fun σZ HZ Q => σZ[i]? = some (some (.ref f)) ∧ HZ c' = some (CodeO c' (X.env.qual ++ "<lambda>")) ∧ tb (σ ++ [some v1]) HZ Q) := by
  refine ⟨fun pinsZ sZ σZ HZ Q IZ h => ?_⟩
  obtain ⟨hs, hc, ht⟩ := h
  refine wpAny_Call_Name_kw (thn ((pe_var (pos := p1) (i := i) hN hv hd hcd).run pinsZ sZ σZ HZ (fun v H1 => v = .ref f ∧ H1 = HZ) IZ ⟨.ref f, hs, rfl, rfl⟩) fun u s1 ⟨v, H1, I1, r1, q1⟩ => ?_)
  obtain ⟨ev, eH⟩ := q1
  subst ev
  rw [eH] at I1
  obtain rfl : u = Value.ref f := r1
  have of1 : s1.heap.get? f = some (dlObj (X.env.qual ++ "<lambda>") params body scope (cloFrom X.env.cells scope.names []) (.ref dT) pm c' ctv) := I1.base.keep f _ hf hfn hfr (fun z => nomatch (show f ∈ ([] : List Addr) from z))
  have od1 : s1.heap.get? dT = some (dTup u1) := I1.base.keep dT _ hd0 hdn hdr (fun z => nomatch (show dT ∈ ([] : List Addr) from z))
  refine PySem.W.callWith_F0 ⟨_, _, _, _, of1⟩ ?_
  have un : Un (frs X.stack) [] H HZ s.heap s1.heap := I1.base
  obtain ⟨⟨oc, vs, t, hoc, hdc, hvc⟩, _, _⟩ := I1.hok c' _ hc
  have rc : codeAny (model X.prog X.w) (X.A.deeper (envOfC qg sg s.heap.objs.size g cdg)) (.call (.ref f) ⟨[], []⟩) (CR (L2N.CX X.prog X.w) (envOfC qg sg s.heap.objs.size g cdg :: X.stack) X.prog X.w HZ s1 Q E) s1 := by
    refine PySem.W.kla_callFunE hr.depth of1 rfl L.co L.gen rfl ⟨c', oc, vs, t, rfl, hoc, hdc, hvc⟩ ?_
    obtain ⟨kk, e1, e2⟩ := hbind
    rw [e1]
    refine wpAny_bind (wpAny_seqItems od1 rfl ?_)
    rw [e2]
    refine wpAny_pure (wpAny_newFunctionEnv (fun y hy => L.cell y hy) (fun y hy => ?_) (fun h₁ hns hsb => ⟨I1.nolimit.fresh _ hsb, ?_⟩) L.kind)
    · rw [List.mem_singleton.mp hy]
      exact L.pa
    show codeAny _ _ (.expr body (lamEnv X scope s1.heap.objs.size f c')) _ _
    have kp : ∀ b o, s1.heap.get? b = some o → h₁.get? b = some o := fun b o e => hsb.extBut b o (Nat.ne_of_lt (Heap.lt_size e)) (Heap.get?_push_of_some _ e)
    have J : Inv (lamCxD X a (X.A.deeper (envOfC qg sg s.heap.objs.size g cdg)) (envOfC qg sg s.heap.objs.size g cdg :: X.stack) s1 HZ E scope f c') [] (σ ++ [some v1]) HZ { s1 with heap := h₁, toks := s1.toks + ([(a, u1)] : List (Str × Value)).length } :=
      lam_startD I L na I1.env0 hr.hd un hns kp rv1
    refine PySem.W.kla_codeExpr (wpAny_mono ((hbody _ _ s1 HZ (hr.deeper _)).run [] _ _ HZ Q J ht) (fun v s' hq => ?_) fun e s' hq => hq)
    obtain ⟨w', H', J', rv, q⟩ := hq
    exact ⟨w', H', J'.os, J'.bare, J'.base, J'.hok, rv, q⟩
  have hx : Passes (L2N.CX X.prog X.w) ((cxOf CXg X.prog X.w X.K X.mg X.base Ng qg sg g cdg X.A X.stack s H Eg).tr pn xe) E := L2N.passes_call tk hW
  refine wpAny_call (codeAny_mono rc fun r s' hq => ?_)
  cases r with
  | error e => exact hx pinsZ σZ HZ s1 e s' I1 hq
  | ok fl =>
    cases fl with
    | ret u => exact I1.after hq
    | next => exact False.elim hq
    | brk => exact False.elim hq
    | cont => exact False.elim hq
theorem lam_start0 {A : Around} {outer : List Env} {E : XK} {scope : Scope} {f c' : Addr} {h₁ : Heap} {tk : Nat} (I : Inv X pins σ H s) (L : LamS X.env.scope scope) (e0 : Env0 X.prog X.w X.K X.mg X.base A outer s1 HZ) (hd : A.handled = none)
    (un : Un (frs X.stack) [] H HZ s.heap s1.heap) (hns : h₁.Ns s1.heap.objs.size fun y => ([] : List (Str × Value)).reverse.lookup y) (kp : ∀ b o, s1.heap.get? b = some o → h₁.get? b = some o) : Inv (lamCx0 X A outer s1 HZ E scope f c') [] σ HZ { s1 with heap := h₁, toks := tk } := by
  have J : Inv (lamCx X A outer s1 HZ E scope f c') [] σ HZ { s1 with heap := h₁, toks := tk } := lam_start2 I L e0 hd un hns kp
  have o := J.ok
  exact ⟨⟨o.mod, o.kind, o.glob, o.blt, o.above, o.inj, o.has, o.cab, o.hd, o.frames, o.stk, o.exf, o.bs, o.bsz, o.noex, o.exfs, o.funs, o.frf⟩, J.os, J.bare, J.base, J.loc, J.cell, J.free, J.freeC, J.pin, J.hok, J.len⟩
/-- x(), in the def that got the lambda -/
theorem pe_act0N {CXg : CXT} {Eg : XK} {Ng : List Str} {qg : Str} {sg : Scope} {g f c' : Addr} {cdg pm ctv : Value} {params : Arguments} {body : Expr} {scope : Scope} {k i : Nat} {x : Str} {pn : List (Addr × Obj)} {xe : Value → Shared → Prop} {W : WX} {E : XK} {tb : TE} {p1 p2 : Pos}
    (I : Inv X pins σ H s) (L : LamS X.env.scope scope) (hf : s.heap.get? f = some (PySem.W.kla_obj "<lambda>" (X.env.qual ++ "<lambda>") params body scope (cloFrom X.env.cells scope.names []) pm c' ctv)) (hfn : H f = none) (hfr : f ∉ frs X.stack)
    (hbind : bindArgs (PySem.W.kla_fn "<lambda>" (X.env.qual ++ "<lambda>") params body scope (cloFrom X.env.cells scope.names []) pm (.ref c') ctv) ⟨[], []⟩ = pure [])
    (tk : L2N.Takes ((cxOf CXg X.prog X.w X.K X.mg X.base Ng qg sg g cdg X.A X.stack s H Eg).tr pn xe) W) (hW : ∀ cls d σ' H', E cls d H' → W cls d σ' H') (hr : Room (k + 1) (X.A.deeper (envOfC qg sg s.heap.objs.size g cdg)))
    (hbody : ∀ (A : Around) (outer : List Env) (s : Shared) (H : Hp), Room k (A.deeper (lamEnv X scope s.heap.objs.size f c')) → PE (lamCx0 X A outer s H E scope f c') body tb)
    (hN : Ng[i]? = some x) (hv : Vis sg x) (hd : (x == ("__debug__" : Str)) = false := by decide) (hcd : (x == ("__classdict__" : Str)) = false := by decide) :
    PE ((cxOf CXg X.prog X.w X.K X.mg X.base Ng qg sg g cdg X.A X.stack s H Eg).tr pn xe) (.Call (.Name x p1) [] [] p2)
      (fun σZ HZ Q => σZ[i]? = some (some (.ref f)) ∧ HZ c' = some (CodeO c' (X.env.qual ++ "<lambda>")) ∧ tb σ HZ Q) := by
  refine ⟨fun pinsZ sZ σZ HZ Q IZ h => ?_⟩
  obtain ⟨hs, hc, ht⟩ := h
  refine wpAny_Call_Name_kw (thn ((pe_var (pos := p1) (i := i) hN hv hd hcd).run pinsZ sZ σZ HZ (fun v H1 => v = .ref f ∧ H1 = HZ) IZ ⟨.ref f, hs, rfl, rfl⟩) fun u s1 ⟨v, H1, I1, r1, q1⟩ => ?_)
  obtain ⟨ev, eH⟩ := q1
  subst ev
  rw [eH] at I1
  obtain rfl : u = Value.ref f := r1
  have of1 : s1.heap.get? f = some (PySem.W.kla_obj "<lambda>" (X.env.qual ++ "<lambda>") params body scope (cloFrom X.env.cells scope.names []) pm c' ctv) := I1.base.keep f _ hf hfn hfr (fun z => nomatch (show f ∈ ([] : List Addr) from z))
  refine PySem.W.callWith_F0 ⟨_, _, _, _, of1⟩ ?_
  have un : Un (frs X.stack) [] H HZ s.heap s1.heap := I1.base
  obtain ⟨⟨oc, vs, t, hoc, hdc, hvc⟩, _, _⟩ := I1.hok c' _ hc
  have rc : codeAny (model X.prog X.w) (X.A.deeper (envOfC qg sg s.heap.objs.size g cdg)) (.call (.ref f) ⟨[], []⟩) (CR (L2N.CX X.prog X.w) (envOfC qg sg s.heap.objs.size g cdg :: X.stack) X.prog X.w HZ s1 Q E) s1 := by
    refine PySem.W.kla_callFunE hr.depth of1 rfl L.co L.gen rfl ⟨c', oc, vs, t, rfl, hoc, hdc, hvc⟩ ?_
    rw [hbind]
    refine wpAny_pure (wpAny_newFunctionEnv (fun y hy => (L.own y hy).2) (fun y hy => absurd hy (by simp)) (fun h₁ hns hsb => ⟨I1.nolimit.fresh _ hsb, ?_⟩) L.kind)
    show codeAny _ _ (.expr body (lamEnv X scope s1.heap.objs.size f c')) _ _
    have kp : ∀ b o, s1.heap.get? b = some o → h₁.get? b = some o := fun b o e => hsb.extBut b o (Nat.ne_of_lt (Heap.lt_size e)) (Heap.get?_push_of_some _ e)
    have J : Inv (lamCx0 X (X.A.deeper (envOfC qg sg s.heap.objs.size g cdg)) (envOfC qg sg s.heap.objs.size g cdg :: X.stack) s1 HZ E scope f c') [] σ HZ { s1 with heap := h₁, toks := s1.toks + ([] : List (Str × Value)).length } :=
      lam_start0 I L I1.env0 hr.hd un hns kp
    refine PySem.W.kla_codeExpr (wpAny_mono ((hbody _ _ s1 HZ (hr.deeper _)).run [] _ _ HZ Q J ht) (fun v s' hq => ?_) fun e s' hq => hq)
    obtain ⟨w', H', J', rv, q⟩ := hq
    exact ⟨w', H', J'.os, J'.bare, J'.base, J'.hok, rv, q⟩
  have hx : Passes (L2N.CX X.prog X.w) ((cxOf CXg X.prog X.w X.K X.mg X.base Ng qg sg g cdg X.A X.stack s H Eg).tr pn xe) E := L2N.passes_call tk hW
  refine wpAny_call (codeAny_mono rc fun r s' hq => ?_)
  cases r with
  | error e => exact hx pinsZ σZ HZ s1 e s' I1 hq
  | ok fl =>
    cases fl with
    | ret u => exact I1.after hq
    | next => exact False.elim hq
    | brk => exact False.elim hq
    | cont => exact False.elim hq
/-- the lambda is made, its default ahead of it -/
theorem lam_newD {c P : Addr} {params : Arguments} {body e : Expr} {te : TE} {scope : Scope} {pos : Pos} {E : Value → Shared → Prop} {Q : Value → Shared → Prop} {R : V → Hp → Prop} (I : Inv X pins σ H s) (TB : TabB X.base X.mg c P) (hcode : X.env.code = .ref c)
    (hdef : defaultsOf params X.env = ([eval e X.env], [])) (he : PE X e te) (ht0 : te σ H fun v H1 => TabS H1 P (X.env.qual ++ "<lambda>") ∧ R v H1) (hfree : ∀ y ∈ scope.names, y.2 = .free → ∃ c, X.env.cells.lookup y.1 = some c)
    (hE : ∀ e s', X.xe e s' → E e s')
    (h : ∀ (f c' dT : Addr) (pm ctv u1 : Value) (v1 : V) (H0 H1 : Hp) (s' : Shared), R v1 H0 → Inv X pins σ H1 s' → Keep P P H0 H1 → TabS H1 P (X.env.qual ++ "<lambda>") → L2.RelV v1 u1 →
      s'.heap.get? f = some (dlObj (X.env.qual ++ "<lambda>") params body scope (cloFrom X.env.cells scope.names []) (.ref dT) pm c' ctv) → H1 f = none → f ∉ frs X.stack → s'.heap.get? dT = some (dTup u1) → H1 dT = none → dT ∉ frs X.stack → H1 c' = some (CodeO c' (X.env.qual ++ "<lambda>")) → Q (.ref f) s') :
    wpAny (model X.prog X.w) X.A (eval (.Lambda params body scope pos) X.env) Q E s := by
  rw [PySem.arm_eval_Lambda, hdef]
  show wpAny _ _ (do let dv ← evalAll [eval e X.env]; let kdv ← holding dv (evalAllOpt []); makeFunction "<lambda>" (X.env.qual ++ "<lambda>") params (.expr body) scope X.env dv kdv [] pos pos.line) Q E s
  refine wpAny_bind ?_
  show wpAny _ _ (do let v ← eval e X.env; return v :: (← holding [v] (evalAll []))) _ E s
  refine wpAny_bind (wpAny_mono (he.run pins s σ H _ I ht0) (fun u s1 q1 => ?_) fun e s' q => hE e s' q)
  obtain ⟨v1, H0, I0, rv, hT, hR⟩ := q1
  refine wpAny_bind (wpAny_holding (wpAny_pure (wpAny_pure ?_)))
  refine wpAny_bind (wpAny_holding (wpAny_pure ?_))
  rw [makeFunction_eq]
  simp only [List.zip_nil_right, List.filterMap_nil, List.isEmpty_nil, List.isEmpty_cons, Bool.false_eq_true, if_false, if_true, pure_bind]
  refine wpAny_bind (wpAny_newTextTuple ?_)
  have I1 : Inv X pins σ H0 { s1 with heap := s1.heap.push (dTup u) } := I0.kept fun b o e => Heap.get?_push_of_some _ e
  have hd0 : (s1.heap.push (dTup u)).get? s1.heap.objs.size = some (dTup u) := Heap.get?_push_size _ rfl
  have hdn : H0 s1.heap.objs.size = none := I0.hok.fresh (Nat.le_refl _)
  have nofr0 : ∀ f, s1.heap.objs.size ≤ f → f ∉ frs X.stack := fun f hf z => by
    rcases List.mem_cons.mp (I0.stkSub _ z) with e | e
    · have h1 := I0.lt
      rw [← e] at h1
      exact Nat.lt_irrefl _ (Nat.lt_of_lt_of_le h1 hf)
    · exact I0.nofs hf e
  have szp : (s1.heap.push (dTup u)).objs.size = s1.heap.objs.size + 1 := by rw [Heap.size_push]
  have hdr := nofr0 _ (Nat.le_refl _)
  generalize s1.heap.objs.size = dT at hd0 hdn hdr szp nofr0
  generalize hs2 : ({ s1 with heap := s1.heap.push (dTup u) } : Shared) = s2 at I1
  have es2 : s2.heap = s1.heap.push (dTup u) := by rw [← hs2]
  have hd2 : s2.heap.get? dT = some (dTup u) := by rw [es2]; exact hd0
  have hdlt : dT < s2.heap.objs.size := by rw [es2, szp]; omega
  clear hs2 es2 hd0 szp
  obtain ⟨ps, hP, ht, ha⟩ := hT
  have bP : s2.heap.BuiltinsAt X.mg P := TB.bm.keeps I1.bk
  have hP' : s2.heap.get? P = some { cls := .none, data := .fields ps } := I1.hok P _ hP
  cases hc : codeAmong pos ps.toList with
  | none =>
    refine dl_makeTail (mg := X.mg) (c := c) (P := P) (ps := ps) (closure_ok hfree) I1.ok.glob (I1.mod.glob.keeps I1.bk) hcode (TB.code.keeps I1.bk) hP' ht hc TB.gP bP fun c' ctv h' tk hx hge hlt hrec htb => ?_
    obtain ⟨c2, oc, vs, t, e2, hoc, hd, hv⟩ := hrec
    cases e2
    have hsz : s2.heap.objs.size ≤ h'.objs.size := Nat.le_trans hge (Nat.le_of_lt hlt)
    have nC : H0 c' = none := I1.hok.fresh hge
    have nP : dT ≠ P := fun z => by rw [z] at hdn; rw [hP] at hdn; cases hdn
    have I2 := inv_table (t' := tk) (more := #[rawInt pos.line, rawInt pos.col, .ref c']) (h' := h'.push (dlObj (X.env.qual ++ "<lambda>") params body scope (cloFrom X.env.cells scope.names []) (.ref dT) ((X.mg "__name__").getD .none) c' ctv)) I1 hP
      (fun b o hb e => Heap.get?_push_of_some _ (hx b o hb e)) (Heap.get?_push_of_some _ htb) hge ⟨oc, vs, t, Heap.get?_push_of_some _ hoc, hd, hv⟩
    have hE2 : ∀ b o, H0 b = some o → b ≠ P → upd (upd H0 P (.tbl (ps ++ #[rawInt pos.line, rawInt pos.col, .ref c']))) c' (CodeO c' (X.env.qual ++ "<lambda>")) b = some o := fun b o e n => by
      rw [upd_ne (ne_of_none e nC), upd_ne n]
      exact e
    have eL : (ps ++ #[rawInt pos.line, rawInt pos.col, .ref c']).toList = ps.toList ++ [rawInt pos.line, rawInt pos.col, .ref c'] := by simp
    have gone : ∀ {x : Addr}, x ≠ c' → x ≠ P → H0 x = none → upd (upd H0 P (.tbl (ps ++ #[rawInt pos.line, rawInt pos.col, .ref c']))) c' (CodeO c' (X.env.qual ++ "<lambda>")) x = none := fun n1 n2 z => by
      rw [upd_ne n1, upd_ne n2]
      exact z
    refine h h'.objs.size c' dT ((X.mg "__name__").getD .none) ctv u v1 H0 _ _ hR I2 (fun b o e n _ => hE2 b o e n) ⟨_, by rw [upd_ne (ne_of_none hP nC), upd_same], by rw [eL]; exact PySem.TriplesOk_snoc _ _ _ _ ht, fun p' cv hcv => ?_⟩ rv (Heap.get?_push_size _ rfl) (gone (Nat.ne_of_gt hlt) (Nat.ne_of_gt (Nat.lt_of_lt_of_le (Heap.lt_size hP') hsz)) (I1.hok.fresh hsz)) (nofr0 _ (Nat.le_of_lt (Nat.lt_of_lt_of_le hdlt hsz)))
      (Heap.get?_push_of_some _ (hx _ _ nP hd2)) (gone (Nat.ne_of_lt (Nat.lt_of_lt_of_le hdlt hge)) nP hdn) hdr upd_same
    rw [eL] at hcv
    rcases among_app _ ht hcv with z | z
    · obtain ⟨c0, e1, e2⟩ := ha p' cv z
      exact ⟨c0, e1, hE2 _ _ e2 fun z => by
        rw [z, hP] at e2
        exact codeO_ne _ (Option.some.inj e2).symm⟩
    · exact ⟨c', z, upd_same⟩
  | some cv =>
    obtain ⟨c', e, hco⟩ := ha pos cv hc
    subst e
    refine dl_makeTailHit (mg := X.mg) (c := c) (P := P) (ps := ps) (closure_ok hfree) I1.ok.glob (I1.mod.glob.keeps I1.bk) hcode (TB.code.keeps I1.bk) hP' ht hc bP fun ctv h' tk hx hsz => ?_
    have I2 : Inv X pins σ H0 { s2 with heap := h'.push (dlObj (X.env.qual ++ "<lambda>") params body scope (cloFrom X.env.cells scope.names []) (.ref dT) ((X.mg "__name__").getD .none) c' ctv), toks := tk } := I1.kept fun b o e => Heap.get?_push_of_some _ (hx b o e)
    exact h h'.objs.size c' dT ((X.mg "__name__").getD .none) ctv u v1 H0 H0 _ hR I2 (Keep.refl _ _ _) ⟨ps, hP, ht, ha⟩ rv (Heap.get?_push_size _ rfl) (I1.hok.fresh hsz) (nofr0 _ (Nat.le_of_lt (Nat.lt_of_lt_of_le hdlt hsz))) (Heap.get?_push_of_some _ (hx _ _ hd2)) hdn hdr hco
def tLamD (P : Addr) (q : Str) (TT : (XK → Hp → VK → Prop) → Hp → VK → Prop) (te : TE) (t : XK → TE) : TE := fun σ H Q => te σ H fun v H0 => TabS H0 P q ∧ ∀ H1, Keep P P H0 H1 → TabS H1 P q → TT (fun E H' Q' => t E (σ ++ [some v]) H' Q') H1 Q
/-- x(lambda a=e: body) -/
theorem pe_lamcallD {TT : (XK → Hp → VK → Prop) → Hp → VK → Prop} {x a pa : Str} {g c P : Addr} {k : Nat} {pg : Arguments} {bg : List Stmt} {sg : Scope} {dV kV doc pm cdv ct oc : Value} {an od : Option Addr} {osl : Array (Option Value)} {Ng : List Str}
    {params : Arguments} {body e : Expr} {te : TE} {scope : Scope} {t : XK → TE} {p lpos pos : Pos} (hg : Gl X x) (hm : X.mg x = some (.ref g)) (hk : PySem.W.keepIn X.K (.ref g) = true)
    (lk : X.K.lookup g = some ⟨oc, od, .func (PySem.W.fnOf x x pg bg sg dV kV doc pm an cdv ct), osl⟩) (hcg : PySem.W.codeIn X.K cdv x = true) (hb : L2.Binds X.K (PySem.W.fnOf x x pg bg sg dV kV doc pm an cdv ct) [a] []) (Sg : FnScope Ng [a] sg) (hNg : Ng[0]? = some a) (hva : Vis sg a)
    (hG : GivesN X Ng x sg g cdv bg a (X.env.qual ++ "<lambda>") TT)
    (TB : TabB X.base X.mg c P) (hcode : X.env.code = .ref c) (hr : Room (k + 2) X.A) (L : LamSD pa X.env.scope scope) (npa : pa ∉ X.N) (hdef : defaultsOf params X.env = ([eval e X.env], [])) (he : PE X e te)
    (hbind : ∀ (q : Str) (cl : List (Str × Addr)) (dT : Addr) (pm cv ctv u1 : Value), ∃ kk, bindArgs (dlFn q params body scope cl (.ref dT) pm cv ctv) ⟨[], []⟩ = seqItems? (.ref dT) >>= kk ∧ kk (some #[u1]) = pure [(pa, u1)])
    (hbody : ∀ (A : Around) (outer : List Env) (s : Shared) (H : Hp) (E : XK) (f c' : Addr), Room k (A.deeper (lamEnv X scope s.heap.objs.size f c')) → PE (lamCxD X pa A outer s H E scope f c') body (t E))
    (hdb : (x == ("__debug__" : Str)) = false := by decide) (hd : (a == ("__debug__" : Str)) = false := by decide) (hcd : (a == ("__classdict__" : Str)) = false := by decide) :
    PE X (.Call (.Name x p) [.Lambda params body scope lpos] [] pos) (tLamD P (X.env.qual ++ "<lambda>") TT te t) := by
  refine ⟨fun pins s σ H Q I h => ?_⟩
  refine wpAny_Call_Name_kw (ld_glob I hg hm ?_ hdb)
  refine PySem.W.callWith_K (h₀ := X.base) I.ok.mod.kin hk ?_ (by rfl) (by rfl)
  show wpAny _ _ (spliced ((false, eval (.Lambda params body scope lpos) X.env) :: backTo pos (starEach [] X.env))) _ _ s
  refine Calls.spliced_cons (lam_newD (R := fun v H0 => ∀ H1, Keep P P H0 H1 → TabS H1 P (X.env.qual ++ "<lambda>") → TT (fun E H' Q' => t E (σ ++ [some v]) H' Q') H1 Q) I TB hcode hdef he h (L.has I.ok) (fun _ _ z => z) fun f c' dT pm' ctv u1 v1 H0 H1 s' hR I1 eN T1 rv hf hfn hfr hd0 hdn hdr hco => ?_)
  refine Calls.spliced_nil ⟨I1.kIn, ?_⟩
  have rc : codeAny (model X.prog X.w) X.A (.call (.ref g) ⟨[.ref f], []⟩) (CR C8.CX0 X.stack X.prog X.w H1 s' Q C8.E0) s' := by
    refine run_ofS (N := Ng) (ps := [a]) (us := [.ref f]) (vs := [.ref f]) lk hcg Sg hr I1.env0 (hb s' [.ref f] I1.kIn rfl) (.cons rfl .nil) rfl fun hr' => ?_
    obtain ⟨t', ht', hq'⟩ := hG f c' s' H1 Q (fun E H' Q' => t E (σ ++ [some v1]) H' Q') (fun W pn xe E p1 p2 tk hW => pe_actD (i := 0) I1 L npa hf hfn hfr hd0 hdn hdr rv (hbind _ _ _ _ _ _ _) tk hW hr' (fun A outer s H hr2 => hbody A outer s H E f c' hr2) hNg hva hd hcd) hco (hR H1 eN T1)
    exact ⟨t', ht'.nox, hq'⟩
  refine wpAny_call (codeAny_mono rc fun r s2 hq => ?_)
  cases r with
  | error e => exact (show False from hq).elim
  | ok fl =>
    cases fl with
    | ret u => exact I1.after hq
    | next => exact False.elim hq
    | brk => exact False.elim hq
    | cont => exact False.elim hq
def tLam0 (P : Addr) (q : Str) (TT : (XK → Hp → VK → Prop) → Hp → VK → Prop) (t : XK → TE) : TE := fun σ H Q => TabS H P q ∧ ∀ H1, Keep P P H H1 → TabS H1 P q → TT (fun E H' Q' => t E σ H' Q') H1 Q
/-- x(lambda: body), told what stays -/
theorem pe_lamcall0 {TT : (XK → Hp → VK → Prop) → Hp → VK → Prop} {x a : Str} {g c P : Addr} {k : Nat} {pg : Arguments} {bg : List Stmt} {sg : Scope} {dV kV doc pm cdv ct oc : Value} {an od : Option Addr} {osl : Array (Option Value)} {Ng : List Str}
    {params : Arguments} {body : Expr} {scope : Scope} {t : XK → TE} {p lpos pos : Pos} (hg : Gl X x) (hm : X.mg x = some (.ref g)) (hk : PySem.W.keepIn X.K (.ref g) = true)
    (lk : X.K.lookup g = some ⟨oc, od, .func (PySem.W.fnOf x x pg bg sg dV kV doc pm an cdv ct), osl⟩) (hcg : PySem.W.codeIn X.K cdv x = true) (hb : L2.Binds X.K (PySem.W.fnOf x x pg bg sg dV kV doc pm an cdv ct) [a] []) (Sg : FnScope Ng [a] sg) (hNg : Ng[0]? = some a) (hva : Vis sg a)
    (hG : GivesN X Ng x sg g cdv bg a (X.env.qual ++ "<lambda>") TT)
    (TB : TabB X.base X.mg c P) (hcode : X.env.code = .ref c) (hr : Room (k + 2) X.A) (L : LamS X.env.scope scope) (hdef : defaultsOf params X.env = ([], []))
    (hbind : ∀ (q : Str) (cl : List (Str × Addr)) (pm cv ctv : Value), bindArgs (PySem.W.kla_fn "<lambda>" q params body scope cl pm cv ctv) ⟨[], []⟩ = pure [])
    (hbody : ∀ (A : Around) (outer : List Env) (s : Shared) (H : Hp) (E : XK) (f c' : Addr), Room k (A.deeper (lamEnv X scope s.heap.objs.size f c')) → PE (lamCx0 X A outer s H E scope f c') body (t E))
    (hdb : (x == ("__debug__" : Str)) = false := by decide) (hd : (a == ("__debug__" : Str)) = false := by decide) (hcd : (a == ("__classdict__" : Str)) = false := by decide) :
    PE X (.Call (.Name x p) [.Lambda params body scope lpos] [] pos) (tLam0 P (X.env.qual ++ "<lambda>") TT t) := by
  refine ⟨fun pins s σ H Q I h => ?_⟩
  obtain ⟨hT, h⟩ := h
  refine wpAny_Call_Name_kw (ld_glob I hg hm ?_ hdb)
  refine PySem.W.callWith_K (h₀ := X.base) I.ok.mod.kin hk ?_ (by rfl) (by rfl)
  show wpAny _ _ (spliced ((false, eval (.Lambda params body scope lpos) X.env) :: backTo pos (starEach [] X.env))) _ _ s
  refine Calls.spliced_cons (lam_new I TB hcode hT hdef (L.has I.ok) fun f c' pm' ctv H1 s' I1 k1 T1 hf hfn hfr hco => ?_)
  refine Calls.spliced_nil ⟨I1.kIn, ?_⟩
  have rc : codeAny (model X.prog X.w) X.A (.call (.ref g) ⟨[.ref f], []⟩) (CR C8.CX0 X.stack X.prog X.w H1 s' Q C8.E0) s' := by
    refine run_ofS (N := Ng) (ps := [a]) (us := [.ref f]) (vs := [.ref f]) lk hcg Sg hr I1.env0 (hb s' [.ref f] I1.kIn rfl) (.cons rfl .nil) rfl fun hr' => ?_
    obtain ⟨t', ht', hq'⟩ := hG f c' s' H1 Q (fun E H' Q' => t E σ H' Q') (fun W pn xe E p1 p2 tk hW => pe_act0N (i := 0) I1 L hf hfn hfr (hbind _ _ _ _ _) tk hW hr' (fun A outer s H hr2 => hbody A outer s H E f c' hr2) hNg hva hd hcd) hco (h H1 k1 T1)
    exact ⟨t', ht'.nox, hq'⟩
  refine wpAny_call (codeAny_mono rc fun r s2 hq => ?_)
  cases r with
  | error e => exact (show False from hq).elim
  | ok fl =>
    cases fl with
    | ret u => exact I1.after hq
    | next => exact False.elim hq
    | brk => exact False.elim hq
    | cont => exact False.elim hq
end
/-- a def that may raise, nothing handled as it begins -/
theorem _root_.L2.Fun.okN {P : Program} {w : World} {K : PySem.W.Frag} {mg : Str → Option Value} {base : Heap} {x qual : Str} {st : Stmt} {f : Addr} {fd : FuncData} {N ps : List Str} {k : Nat} {sp : Sp} (F : Fun K x qual st f fd) (S : FnScope N ps (defScope st))
    (len : ∀ vs H Q E, sp vs H Q E → vs.length = ps.length)
    (read : ∀ (cdv : Value) (A : Around) (outer : List Env) (s : Shared) (H : Hp) (vs : List V) (Q : VK) (E : XK), Room k (A.deeper (envOfC qual (defScope st) s.heap.objs.size f cdv)) → sp vs H Q E → ∃ t, PSs (cxOf (L2N.CX P w) P w K mg base N qual (defScope st) f cdv A outer s H E) (defBody st) t ∧ t { nx := fun _ H' => Q .non H', rt := Q } (L2.start N vs) H) :
    FnOk P w K mg base (L2N.CX P w) (k + 1) f fd ps sp := by
  obtain ⟨_, _, _, _, _, _, cdv, _, _, rfl, at_, code⟩ := F.ex
  exact fn_of at_ code S len fun A outer s H vs Q E room want => read cdv A outer s H vs Q E room want
end U

namespace U
open PySem PySem.Spec PyProof.Rows L2 L2H
/-! ### a comprehension while an exception is handled -/
/-- a block's context that still knows what is handled -/
abbrev hot (X : Cx) (s : Shared) (H : Hp) (scope : Scope) (ce : Env) (fp : List Addr) : Cx := { X.blk s H scope ce fp with pn := X.pn }
theorem hot_inv {X : Cx} {s s' : Shared} {H H' : Hp} {scope : Scope} {ce : Env} {fp : List Addr} {σ : L2.St} (I : Inv (X.blk s H scope ce fp) [] σ H' s') (hp : ∀ p ∈ X.pn, s'.heap.get? p.1 = some p.2 ∧ H' p.1 = none ∧ p.1 ≠ ce.locals ∧ p.1 ∉ frs X.stack ∧ ∀ v, p.2.data ≠ .cell v) :
    Inv (hot X s H scope ce fp) [] σ H' s' := by
  have o := I.ok
  exact ⟨⟨o.mod, o.kind, o.glob, o.blt, o.above, o.inj, o.has, o.cab, o.hd, o.frames, o.stk, o.exf, o.bs, o.bsz, o.noex, o.exfs, o.funs, o.frf⟩, I.os, I.bare, I.base, I.loc, I.cell, I.free, I.freeC, fun p m => hp p (by simpa using m), I.hok, I.len⟩
/-- where the block's turns are, told of the block's own state -/
structure HotAtTurn (X : Cx) (B : Cx) (σ : L2.St) (tn : Nat → Heap → Prop) (fp : List Addr) (W : Nat → Nat → Hp → Prop) (n : Nat) (s : Shared) : Prop where
  ex : ∃ (i : Nat) (H : Hp), Inv B [] σ H s ∧ tn i s.heap ∧ (∀ b ∈ fp, H b = none) ∧ W i n H
theorem pe_lcH {X : Cx} {elt tg iter : Expr} {ifs : List Expr} {scope : Scope} {own : List (Str × Nat)} {pos : Pos} {wi : TI} {g : TG} {tt : TT} {te : TE} (hot_ : HotC X) (nd : X.N.Nodup) (src : PIH X tg iter wi) (bo : BlkOk X.N X.env.scope scope own)
    (rg : ∀ s H C cl fp, PG (hot X s H scope (compEnvC scope cl C X.env) fp) tg g) (rt : ∀ s H C cl fp, PTs (hot X s H scope (compEnvC scope cl C X.env) fp) ifs tt) (re : ∀ s H C cl fp, PE (hot X s H scope (compEnvC scope cl C X.env) fp) elt te)
    (fold : ∀ x, foldedSetIterable iter X.env x = pure x := by intro _; rfl) : PE X (.ListComp elt [⟨tg, iter, ifs, 0⟩] scope pos) (tLc wi g tt te (own.map (·.2))) := by
  constructor
  intro pins s σ H Q I want
  rw [eval_ListComp]
  have seen : ∀ y ∈ scope.names, y.2 = .free → ∃ c, X.env.cells.lookup y.1 = some c := fun y m e => I.ok.has _ (bo.free y m e)
  apply wpAny_comprehension_free (use := none) rfl fold (closure_ok seen) bo.kind (fun y m e => e ▸ bo.uniq y m)
  refine thn (src.run pins s σ H _ I want) fun u sa got => thn got ?_
  rintro itv sb ⟨it, fp, tn, J, Hb, rfl, Ib, T, at0_, okb, plan⟩
  -- the list that is to be, and the block's own namespace
  obtain ⟨D, eD⟩ : ∃ D, sb.heap.objs.size = D := ⟨_, rfl⟩
  have nD : Hb D = none := Ib.hok.fresh (Nat.le_of_eq eD)
  obtain ⟨W, ⟨n0, w0⟩, turns⟩ := plan D nD
  refine wpAny_newObj_type (newEnv_comp ?_) (Nat.zero_le _)
  rw [eD]
  obtain ⟨sc, esc⟩ : ∃ sc : Shared, sc = { sb with heap := sb.heap.push { cls := .type "list", data := .seq ([] : List Value).toArray } } := ⟨_, rfl⟩
  have hsc : sc.heap = sb.heap.push { cls := .type "list", data := .seq ([] : List Value).toArray } := congrArg Shared.heap esc
  have pushed : ∀ b o, sb.heap.get? b = some o → sc.heap.get? b = some o := fun b o e => by
    rw [hsc]
    exact Heap.get?_push_of_some _ e
  have Ic : Inv X pins σ (upd Hb D (.lst [])) sc := by
    rw [esc]
    exact Ib.laid (t' := sb.toks) (fun b o e => Heap.get?_push_of_some _ e) (Nat.le_of_eq eD) ⟨Nat.zero_le _, [], 0, .nil, eD ▸ Heap.get?_push_size _ rfl⟩
  have young : ∀ b ∈ fp, b < sb.heap.objs.size := fun b m => by
    obtain ⟨o, e, _⟩ := T.obj _ _ at0_ b m
    exact Heap.lt_size e
  have okc : ∀ b ∈ fp, FpOk X pins (upd Hb D (.lst [])) b ∧ b < sc.heap.objs.size := fun b m =>
    ⟨⟨by rw [upd_ne (by rw [← eD]; exact Nat.ne_of_lt (young b m))]; exact (okb b m).1, (okb b m).2⟩, by rw [hsc, Heap.size_push]; exact Nat.lt_succ_of_lt (young b m)⟩
  have turn0 : tn 0 sc.heap := T.keep _ _ _ at0_ fun b _ o e => pushed b o e
  have Id := block_start Ic bo nd okc
  have noD : ∀ b ∈ fp, upd Hb D (.lst []) b = none := fun b m => (okc b m).1.1
  obtain ⟨Hc, eHc⟩ : ∃ Hc, Hc = upd Hb D (.lst []) := ⟨_, rfl⟩
  rw [← eHc] at Ic Id w0 noD
  have okc' : ∀ b ∈ fp, FpOk X pins Hc b ∧ b < sc.heap.objs.size := by rw [eHc]; exact okc
  rw [← esc]
  obtain ⟨cl, ecl⟩ : ∃ cl, cl = cellsFrom (sc.heap.objs.size + 1) scope.names (cloFrom X.env.cells scope.names []) := ⟨_, rfl⟩
  have G := rg sc Hc sc.heap.objs.size cl fp
  have Te := rt sc Hc sc.heap.objs.size cl fp
  have El := re sc Hc sc.heap.objs.size cl fp
  show codeAny _ _ (.compStart (.ListComp elt [⟨tg, iter, ifs, 0⟩] scope pos) 0 (.ref it) (.ref D) (compEnvC scope (cellsFrom (sc.heap.objs.size + 1) scope.names (cloFrom X.env.cells scope.names [])) sc.heap.objs.size X.env)) (compPost (model X.prog X.w) X.A X.xe none _ (.ref D) sc.heap.objs.size) { sc with heap := pushCells (sc.heap.push { cls := .type "dict", data := .dict #[] }) scope.names }
  rw [← ecl] at Id ⊢
  have eloc : (compEnvC scope cl sc.heap.objs.size X.env).locals = sc.heap.objs.size := rfl
  generalize compEnvC scope cl sc.heap.objs.size X.env = ce at Id G Te El eloc ⊢
  have there : ∀ b o, sc.heap.get? b = some o → (pushCells (sc.heap.push { cls := .type "dict", data := .dict #[] }) scope.names).get? b = some o := fun b o e => pushCells_keeps _ _ _ _ (Heap.get?_push_of_some _ e)
  obtain ⟨sd, esd⟩ : ∃ sd : Shared, sd = { sc with heap := pushCells (sc.heap.push { cls := .type "dict", data := .dict #[] }) scope.names } := ⟨_, rfl⟩
  have hsd : sd.heap = pushCells (sc.heap.push { cls := .type "dict", data := .dict #[] }) scope.names := congrArg Shared.heap esd
  rw [← esd] at Id ⊢
  have Ie : Inv (hot X sc Hc scope ce fp) [] (wipe σ (own.map (·.2))) Hc sd := hot_inv Id fun p m => by
    obtain ⟨a1, a2, a3, a4, a5⟩ := Ic.pin p (List.mem_append_left _ m)
    refine ⟨by rw [hsd]; exact there _ _ a1, a2, ?_, ?_, a5⟩
    · rw [eloc]
      exact Nat.ne_of_lt (Heap.lt_size a1)
    · intro z
      rcases List.mem_cons.mp (Ic.stkSub _ z) with z | z
      · exact a3 z
      · exact a4 z
  have turn1 : tn 0 sd.heap := T.keep _ _ _ turn0 fun b _ o e => by rw [hsd]; exact there b o e
  have hotB : HotC (hot X sc Hc scope ce fp) := hot_
  have fpB : ∀ {σ' : L2.St} {H' : Hp} {s' : Shared}, Inv (hot X sc Hc scope ce fp) [] σ' H' s' → (∀ b ∈ fp, H' b = none) → ∀ b ∈ fp, FpOk (hot X sc Hc scope ce fp) [] H' b := fun J none_ b m =>
    ⟨none_ b m, (J.ok.exf b m).1, J.ok.exfs b m, .inl m, fun x c e => (J.ok.exf b m).2 x c e, fun p mp => (okc' b m).1.2.2.2.2.2 p (List.mem_append_left _ (by simpa using mp))⟩
  refine codeAny_compStart_list ?_ (T.self X.A 0 _ _ _ turn1 ?_)
  all_goals
    refine compLoop_any (HotAtTurn X (hot X sc Hc scope ce fp) (wipe σ (own.map (·.2))) tn fp W) ?_ n0 ⟨0, Hc, Ie, turn1, noD, w0⟩
    rintro n s1 ⟨i, H1, J1, t1, f1, w1⟩
    rcases turns i n H1 w1 with ⟨halt, res⟩ | ⟨go, Nx, less, step⟩
    · refine thnF (T.done (hot X sc Hc scope ce fp) rfl rfl rfl hotB i [] s1 _ H1 (fun _ _ => False) J1 (fpB J1 f1) t1 halt) ?_
      rintro r s2 ⟨rfl, J2⟩
      have back : Inv X pins σ H1 s2 := Ic.call' (ch := fp) J2.os J2.base J2.hok J2.bare fun b m => ⟨(okc' b m).1.2.2.2.1, (okc' b m).1.2.1, (okc' b m).1.2.2.2.2.1, (okc' b m).1.2.2.2.2.2⟩
      have gone : H1 sc.heap.objs.size = none := eloc ▸ J2.free
      obtain ⟨m, ns, _⟩ := J2.loc
      obtain ⟨q0, q1, q2, q3, q4, q5⟩ := Ic.fpOk (Nat.le_refl sc.heap.objs.size) gone
      exact ⟨m, eloc ▸ ns, fun h2 sb2 => ⟨.ref D, H1, back.turned (t' := s2.toks) (fun b o ne e => (sb2.2 b ne).trans e) q0 q1 q3 q4 q5, rfl, res⟩⟩
    · refine thnF (T.item (hot X sc Hc scope ce fp) rfl rfl rfl hotB i [] s1 _ H1 (fun _ _ => False) J1 (fpB J1 f1) t1 go) ?_
      rintro r s2 ⟨u2, rfl, next⟩
      refine thnF next ?_
      rintro _ s3 ⟨x, H3, J3, rx, yx, t3, f3⟩
      refine thnF (G.run _ s3 _ H3 x u2 _ (J3.pinned (fpB J3 f3) (T.obj _ _ t3)) rx (step x H3 yx)) ?_
      rintro _ s4 ⟨σ4, H4, J4, wip, asked⟩
      refine thnF (Te.run _ s4 σ4 H4 _ J4 asked) ?_
      rintro b s5 ⟨H5, J5, then_⟩
      have again : ∀ {s' : Shared} {H' : Hp}, Inv (hot X sc Hc scope ce fp) ([] ++ pinsAt fp s3.heap) σ4 H' s' → Nx H' → ∃ m, m < n ∧ HotAtTurn X (hot X sc Hc scope ce fp) (wipe σ (own.map (·.2))) tn fp W m s' := fun {s' H'} J nx => by
        obtain ⟨m, lt, wm⟩ := less H' nx
        have kept : ∀ c ∈ fp, ∀ o, s3.heap.get? c = some o → s'.heap.get? c = some o ∧ H' c = none := fun c mc o e => by
          have z := J.pin (c, o) (List.mem_append_right _ (List.mem_append_right _ (mem_pinsAt mc e)))
          exact ⟨z.1, z.2.1⟩
        refine ⟨m, lt, i + 1, H', Inv.weak (Inv.unpinned (pins := []) J) ?_ ?_, T.keep _ _ _ t3 fun c mc o e => (kept c mc o e).1, ?_, wm⟩
        · rw [← wip, wipe_length]
        · intro j v e
          rw [← wip] at e
          exact (wipe_some e).1
        · intro c mc
          obtain ⟨o, e, _⟩ := T.obj _ _ t3 c mc
          exact (kept c mc o e).2
      cases b with
      | false =>
        simp only [Bool.false_eq_true, if_false] at then_ ⊢
        exact again J5 then_
      | true =>
        simp only [if_true] at then_ ⊢
        refine thnF (El.run _ s5 σ4 H5 _ J5 then_) ?_
        rintro z s6 ⟨yv, H6, J6, ry, xs, atD, few, nx⟩
        exact app_ok (X := hot X sc Hc scope ce fp) J6 atD few ry fun s7 J7 => again J7 nx
end U

namespace U
open PySem L2 PyProof.Rows
def top (i : Nat) : Stmt := PySem.Challenge.pw_undotable_k09_refused_and_nothing_change.main.body.getD i (.Pass ⟨0, 0, 0, 0⟩)
abbrev s_wall : Stmt := top 0
theorem sc_wall : FnScope ["k"] ["k"] (defScope s_wall) := ⟨rfl, rfl, rfl, by decide +kernel, rfl, by decide +kernel, by decide +kernel⟩
abbrev s_is_cell : Stmt := top 12
theorem sc_is_cell : FnScope ["text"] ["text"] (defScope s_is_cell) := ⟨rfl, rfl, rfl, by decide +kernel, rfl, by decide +kernel, by decide +kernel⟩
abbrev s_place : Stmt := top 13
theorem sc_place : FnScope ["cell"] ["cell"] (defScope s_place) := ⟨rfl, rfl, rfl, by decide +kernel, rfl, by decide +kernel, by decide +kernel⟩
abbrev s_stretch : Stmt := top 14
theorem sc_stretch : FnScope ["one", "other", "left", "top", "right", "bottom", "columns", "rows", "row", "column"] ["one", "other"] (defScope s_stretch) := ⟨rfl, rfl, rfl, by decide +kernel, rfl, by decide +kernel, by decide +kernel⟩
abbrev s_shifted : Stmt := top 15
theorem sc_shifted : FnScope ["cell", "rows", "_", "row", "lower"] ["cell", "rows"] (defScope s_shifted) := ⟨rfl, rfl, rfl, by decide +kernel, rfl, by decide +kernel, by decide +kernel⟩
abbrev s_is_number : Stmt := top 20
theorem sc_is_number : FnScope ["text", "figures"] ["text"] (defScope s_is_number) := ⟨rfl, rfl, rfl, by decide +kernel, rfl, by decide +kernel, by decide +kernel⟩
abbrev s_read : Stmt := top 21
theorem sc_read : FnScope ["text", "words", "part", "behind"] ["text"] (defScope s_read) := ⟨rfl, rfl, rfl, by decide +kernel, rfl, by decide +kernel, by decide +kernel⟩
abbrev s_part_at : Stmt := top 22
theorem sc_part_at : FnScope ["words", "at", "depth", "word"] ["words", "at", "depth"] (defScope s_part_at) := ⟨rfl, rfl, rfl, by decide +kernel, rfl, by decide +kernel, by decide +kernel⟩
abbrev s_sum_at : Stmt := top 23
theorem sc_sum_at : FnScope ["words", "at", "ends"] ["words", "at"] (defScope s_sum_at) := ⟨rfl, rfl, rfl, by decide +kernel, rfl, by decide +kernel, by decide +kernel⟩
abbrev s_parts_at : Stmt := top 24
theorem sc_parts_at : FnScope ["words", "at", "depth", "word", "parts", "behind", "_", "part"] ["words", "at", "depth"] (defScope s_parts_at) := ⟨rfl, rfl, rfl, by decide +kernel, rfl, by decide +kernel, by decide +kernel⟩
abbrev s_read_cells : Stmt := top 25
theorem sc_read_cells : FnScope ["content", "first", "cell"] ["content"] (defScope s_read_cells) := ⟨rfl, rfl, rfl, by decide +kernel, rfl, by decide +kernel, by decide +kernel⟩
abbrev s_cells_of : Stmt := top 26
theorem sc_cells_of : FnScope ["part", "word", "cells", "inner"] ["part"] (defScope s_cells_of) := ⟨rfl, rfl, rfl, by decide +kernel, rfl, by decide +kernel, by decide +kernel⟩
abbrev s_uses : Stmt := top 28
theorem sc_uses : FnScope ["deed", "word", "cell", "third", "rows"] ["deed"] (defScope s_uses) := ⟨rfl, rfl, rfl, by decide +kernel, rfl, by decide +kernel, by decide +kernel⟩
abbrev s_changes : Stmt := top 29
theorem sc_changes : FnScope ["contents", "deed", "newer", "cell"] ["contents", "deed"] (defScope s_changes) := ⟨rfl, rfl, rfl, by decide +kernel, rfl, by decide +kernel, by decide +kernel⟩
abbrev s_check : Stmt := top 30
theorem sc_check : FnScope ["deed", "word", "cell", "third"] ["deed"] (defScope s_check) := ⟨rfl, rfl, rfl, by decide +kernel, rfl, by decide +kernel, by decide +kernel⟩
abbrev s_newer_contents : Stmt := top 31
theorem sc_newer_contents : FnScope ["contents", "deed", "word", "cell", "third", "copied", "rows"] ["contents", "deed"] (defScope s_newer_contents) := ⟨rfl, rfl, rfl, by decide +kernel, rfl, by decide +kernel, by decide +kernel⟩
abbrev s_lowered : Stmt := top 32
theorem sc_lowered : FnScope ["content", "rows", "word", "inner", "cell", "part"] ["content", "rows"] (defScope s_lowered) := ⟨rfl, rfl, rfl, by decide +kernel, rfl, by decide +kernel, by decide +kernel⟩
abbrev s_lower_cell : Stmt := top 33
theorem sc_lower_cell : FnScope ["cell", "rows", "lower"] ["cell", "rows"] (defScope s_lower_cell) := ⟨rfl, rfl, rfl, by decide +kernel, rfl, by decide +kernel, by decide +kernel⟩
abbrev s_replaced : Stmt := top 34
theorem sc_replaced : FnScope ["contents", "newer", "merged", "cell"] ["contents", "newer"] (defScope s_replaced) := ⟨rfl, rfl, rfl, by decide +kernel, rfl, by decide +kernel, by decide +kernel⟩
abbrev s_values : Stmt := top 39
theorem sc_values : FnScope ["contents"] ["contents"] (defScope s_values) := ⟨rfl, rfl, rfl, by decide +kernel, rfl, by decide +kernel, by decide +kernel⟩
abbrev s_reckoned : Stmt := top 40
theorem sc_reckoned : FnScope ["contents", "known", "reads", "worths", "cell", "left", "ready"] ["contents", "known"] (defScope s_reckoned) := ⟨rfl, rfl, rfl, by decide +kernel, rfl, by decide +kernel, by decide +kernel⟩
abbrev s_reads_of : Stmt := top 41
theorem sc_reads_of : FnScope ["contents", "cell"] ["contents"] (defScope s_reads_of) := ⟨rfl, rfl, rfl, by decide +kernel, rfl, by decide +kernel, by decide +kernel⟩
abbrev s_come_to : Stmt := top 42
theorem sc_come_to : FnScope ["reads", "cell", "found", "waiting", "reader", "inner"] ["reads", "cell"] (defScope s_come_to) := ⟨rfl, rfl, rfl, by decide +kernel, rfl, by decide +kernel, by decide +kernel⟩
abbrev s_is_waiting : Stmt := top 43
theorem sc_is_waiting : FnScope ["reads", "cell", "left", "inner"] ["reads", "cell", "left"] (defScope s_is_waiting) := ⟨rfl, rfl, rfl, by decide +kernel, rfl, by decide +kernel, by decide +kernel⟩
abbrev s_worth : Stmt := top 44
theorem sc_worth : FnScope ["part", "worths", "word", "first", "second", "odd"] ["part", "worths"] (defScope s_worth) := ⟨rfl, rfl, rfl, by decide +kernel, rfl, by decide +kernel, by decide +kernel⟩
abbrev s_summed : Stmt := top 45
theorem sc_summed : FnScope ["cells", "worths", "total", "cell"] ["cells", "worths"] (defScope s_summed) := ⟨rfl, rfl, rfl, by decide +kernel, rfl, by decide +kernel, by decide +kernel⟩
abbrev s_combined : Stmt := top 46
theorem sc_combined : FnScope ["word", "one", "other", "odd", "result"] ["word", "one", "other"] (defScope s_combined) := ⟨rfl, rfl, rfl, by decide +kernel, rfl, by decide +kernel, by decide +kernel⟩
abbrev s_first_odd : Stmt := top 47
theorem sc_first_odd : FnScope ["one", "other"] ["one", "other"] (defScope s_first_odd) := ⟨rfl, rfl, rfl, by decide +kernel, rfl, by decide +kernel, by decide +kernel⟩
abbrev s_is_odd : Stmt := top 48
theorem sc_is_odd : FnScope ["value"] ["value"] (defScope s_is_odd) := ⟨rfl, rfl, rfl, by decide +kernel, rfl, by decide +kernel, by decide +kernel⟩
abbrev s_Point___init__ : Stmt := inClass (top 51) 0
theorem sc_Point___init__ : FnScope ["self", "origin", "hand", "deed", "rows", "contents"] ["self", "origin", "hand", "deed", "rows", "contents"] (defScope s_Point___init__) := ⟨rfl, rfl, rfl, by decide +kernel, rfl, by decide +kernel, by decide +kernel⟩
abbrev s_Tree___init__ : Stmt := inClass (top 52) 0
theorem sc_Tree___init__ : FnScope ["self", "hands"] ["self", "hands"] (defScope s_Tree___init__) := ⟨rfl, rfl, rfl, by decide +kernel, rfl, by decide +kernel, by decide +kernel⟩
abbrev s_Tree_do : Stmt := inClass (top 52) 1
theorem sc_Tree_do : FnScope ["self", "hand", "deed", "origin", "contents", "rows", "newer", "row"] ["self", "hand", "deed"] (defScope s_Tree_do) := ⟨rfl, rfl, rfl, by decide +kernel, rfl, by decide +kernel, by decide +kernel⟩
abbrev s_Tree_here : Stmt := inClass (top 52) 2
theorem sc_Tree_here : FnScope ["self", "hand"] ["self", "hand"] (defScope s_Tree_here) := ⟨rfl, rfl, rfl, by decide +kernel, rfl, by decide +kernel, by decide +kernel⟩
abbrev s_Tree_told : Stmt := inClass (top 52) 3
theorem sc_Tree_told : FnScope ["self", "point", "made"] ["self", "point"] (defScope s_Tree_told) := ⟨rfl, rfl, rfl, by decide +kernel, rfl, by decide +kernel, by decide +kernel⟩
abbrev s_Tree_many : Stmt := inClass (top 52) 4
theorem sc_Tree_many : FnScope ["self"] ["self"] (defScope s_Tree_many) := ⟨rfl, rfl, rfl, by decide +kernel, rfl, by decide +kernel, by decide +kernel⟩
abbrev s_Tree_table : Stmt := inClass (top 52) 5
theorem sc_Tree_table : FnScope ["self", "point"] ["self", "point"] (defScope s_Tree_table) := ⟨rfl, rfl, rfl, by decide +kernel, rfl, by decide +kernel, by decide +kernel⟩
abbrev s_Tree_worths : Stmt := inClass (top 52) 6
theorem sc_Tree_worths : FnScope ["self", "point"] ["self", "point"] (defScope s_Tree_worths) := ⟨rfl, rfl, rfl, by decide +kernel, rfl, by decide +kernel, by decide +kernel⟩
abbrev s_Tree_trail : Stmt := inClass (top 52) 7
theorem sc_Tree_trail : FnScope ["self", "point", "back"] ["self", "point"] (defScope s_Tree_trail) := ⟨rfl, rfl, rfl, by decide +kernel, rfl, by decide +kernel, by decide +kernel⟩
abbrev s_Tree_road : Stmt := inClass (top 52) 8
theorem sc_Tree_road : FnScope ["self", "one", "other", "left", "sought", "back", "forth", "point"] ["self", "one", "other"] (defScope s_Tree_road) := ⟨rfl, rfl, rfl, by decide +kernel, rfl, by decide +kernel, by decide +kernel⟩
abbrev s_Tree_go : Stmt := inClass (top 52) 9
theorem sc_Tree_go : FnScope ["self", "hand", "point", "steps"] ["self", "hand", "point"] (defScope s_Tree_go) := ⟨rfl, rfl, rfl, by decide +kernel, rfl, by decide +kernel, by decide +kernel⟩
abbrev s_Tree_stepped : Stmt := inClass (top 52) 10
theorem sc_Tree_stepped : FnScope ["self", "contents", "step"] ["self", "contents", "step"] (defScope s_Tree_stepped) := ⟨rfl, rfl, rfl, by decide +kernel, rfl, by decide +kernel, by decide +kernel⟩
abbrev s_Tree_check_hand : Stmt := inClass (top 52) 11
theorem sc_Tree_check_hand : FnScope ["self", "hand"] ["self", "hand"] (defScope s_Tree_check_hand) := ⟨rfl, rfl, rfl, by decide +kernel, rfl, by decide +kernel, by decide +kernel⟩
abbrev s_Tree_check_point : Stmt := inClass (top 52) 12
theorem sc_Tree_check_point : FnScope ["self", "point"] ["self", "point"] (defScope s_Tree_check_point) := ⟨rfl, rfl, rfl, by decide +kernel, rfl, by decide +kernel, by decide +kernel⟩
abbrev s_leans : Stmt := top 54
theorem sc_leans : FnScope ["tree", "point", "origin", "_", "deed"] ["tree", "point"] (defScope s_leans) := ⟨rfl, rfl, rfl, by decide +kernel, rfl, by decide +kernel, by decide +kernel⟩
abbrev s_reads : Stmt := top 55
theorem sc_reads : FnScope ["tree", "point", "inner", "rows", "cells", "row", "cell"] ["tree", "point"] (defScope s_reads) := ⟨rfl, rfl, rfl, by decide +kernel, rfl, by decide +kernel, by decide +kernel⟩
abbrev s_without : Stmt := top 56
theorem sc_without : FnScope ["tree", "hand", "gone", "point", "falls", "trail", "origin", "behind"] ["tree", "hand", "gone", "point", "falls"] (defScope s_without) := ⟨rfl, rfl, rfl, by decide +kernel, rfl, by decide +kernel, by decide +kernel⟩
abbrev s_last_to_change : Stmt := top 57
theorem sc_last_to_change : FnScope ["tree", "points", "cells", "last", "point", "row", "cell"] ["tree", "points", "cells"] (defScope s_last_to_change) := ⟨rfl, rfl, rfl, by decide +kernel, rfl, by decide +kernel, by decide +kernel⟩
abbrev s_is_leaning : Stmt := top 58
theorem sc_is_leaning : FnScope ["tree", "point", "lost", "ahead"] ["tree", "point", "lost"] (defScope s_is_leaning) := ⟨rfl, rfl, rfl, by decide +kernel, rfl, by decide +kernel, by decide +kernel⟩
abbrev s_done_anew : Stmt := top 59
theorem sc_done_anew : FnScope ["tree", "hand", "points", "is_out", "left", "pairs", "elder", "newer"] ["tree", "hand", "points", "is_out"] (defScope s_done_anew) := ⟨rfl, rfl, rfl, by decide +kernel, rfl, by decide +kernel, by decide +kernel⟩
abbrev s_newer_point : Stmt := top 60
theorem sc_newer_point : FnScope ["tree", "hand", "elder", "deed"] ["tree", "hand", "elder"] (defScope s_newer_point) := ⟨rfl, rfl, rfl, by decide +kernel, rfl, by decide +kernel, by decide +kernel⟩
abbrev s_joined : Stmt := top 62
theorem sc_joined : FnScope ["tree", "hand", "one", "other", "near", "far", "fork", "behind", "unlike", "point"] ["tree", "hand", "one", "other"] (defScope s_joined) := ⟨rfl, rfl, rfl, by decide +kernel, rfl, by decide +kernel, by decide +kernel⟩
abbrev s_unlike_cells : Stmt := top 63
theorem sc_unlike_cells : FnScope ["elder", "newer", "cell"] ["elder", "newer"] (defScope s_unlike_cells) := ⟨rfl, rfl, rfl, by decide +kernel, rfl, by decide +kernel, by decide +kernel⟩
abbrev s_is_using : Stmt := top 64
theorem sc_is_using : FnScope ["tree", "point", "cells", "deed", "cell"] ["tree", "point", "cells"] (defScope s_is_using) := ⟨rfl, rfl, rfl, by decide +kernel, rfl, by decide +kernel, by decide +kernel⟩
abbrev s_l_begun : Stmt := top 66
theorem sc_l_begun : FnScope ["_law_script", "_law_stirred", "_law_cell_here"] ["_law_script"] (defScope s_l_begun) := ⟨rfl, rfl, rfl, by decide +kernel, rfl, by decide +kernel, by decide +kernel⟩
abbrev s_l_take : Stmt := top 67
theorem sc_l_take : FnScope ["_law_box", "_law_many_here", "_law_number"] ["_law_box", "_law_many_here"] (defScope s_l_take) := ⟨rfl, rfl, rfl, by decide +kernel, rfl, by decide +kernel, by decide +kernel⟩
abbrev s_l_alike : Stmt := top 68
theorem sc_l_alike : FnScope ["_law_found", "_law_due", "_law_k"] ["_law_found", "_law_due"] (defScope s_l_alike) := ⟨rfl, rfl, rfl, by decide +kernel, rfl, by decide +kernel, by decide +kernel⟩
abbrev s_l_cell : Stmt := top 69
theorem sc_l_cell : FnScope ["_law_box"] ["_law_box"] (defScope s_l_cell) := ⟨rfl, rfl, rfl, by decide +kernel, rfl, by decide +kernel, by decide +kernel⟩
abbrev s_l_stretch : Stmt := top 70
theorem sc_l_stretch : FnScope ["_law_one", "_law_other", "_law_columns", "_law_rows", "_law_found", "_law_row", "_law_k"] ["_law_one", "_law_other"] (defScope s_l_stretch) := ⟨rfl, rfl, rfl, by decide +kernel, rfl, by decide +kernel, by decide +kernel⟩
abbrev s_l_down : Stmt := top 71
theorem sc_l_down : FnScope ["_law_cell_here", "_law_rows", "_law_row"] ["_law_cell_here", "_law_rows"] (defScope s_l_down) := ⟨rfl, rfl, rfl, by decide +kernel, rfl, by decide +kernel, by decide +kernel⟩
abbrev s_l_part : Stmt := top 72
theorem sc_l_part : FnScope ["_law_box", "_law_deep", "_law_kind", "_law_one", "_law_other", "_law_third"] ["_law_box", "_law_deep"] (defScope s_l_part) := ⟨rfl, rfl, rfl, by decide +kernel, rfl, by decide +kernel, by decide +kernel⟩
abbrev s_l_content : Stmt := top 73
theorem sc_l_content : FnScope ["_law_box", "_law_deep", "_law_kind", "_law_part_here"] ["_law_box", "_law_deep"] (defScope s_l_content) := ⟨rfl, rfl, rfl, by decide +kernel, rfl, by decide +kernel, by decide +kernel⟩
abbrev s_l_part_text : Stmt := top 74
theorem sc_l_part_text : FnScope ["_law_part_here", "_law_one"] ["_law_part_here"] (defScope s_l_part_text) := ⟨rfl, rfl, rfl, by decide +kernel, rfl, by decide +kernel, by decide +kernel⟩
abbrev s_l_text : Stmt := top 75
theorem sc_l_text : FnScope ["_law_content_here"] ["_law_content_here"] (defScope s_l_text) := ⟨rfl, rfl, rfl, by decide +kernel, rfl, by decide +kernel, by decide +kernel⟩
abbrev s_l_reads : Stmt := top 76
theorem sc_l_reads : FnScope ["_law_content_here", "_law_found", "_law_part_here", "_law_cell_here"] ["_law_content_here"] (defScope s_l_reads) := ⟨rfl, rfl, rfl, by decide +kernel, rfl, by decide +kernel, by decide +kernel⟩
abbrev s_l_deed : Stmt := top 77
theorem sc_l_deed : FnScope ["_law_box", "_law_kind", "_law_cell_here", "_law_content_here"] ["_law_box"] (defScope s_l_deed) := ⟨rfl, rfl, rfl, by decide +kernel, rfl, by decide +kernel, by decide +kernel⟩
abbrev s_l_uses : Stmt := top 78
theorem sc_l_uses : FnScope ["_law_deed_here", "_law_k"] ["_law_deed_here"] (defScope s_l_uses) := ⟨rfl, rfl, rfl, by decide +kernel, rfl, by decide +kernel, by decide +kernel⟩
abbrev s_l_moved : Stmt := top 79
theorem sc_l_moved : FnScope ["_law_content_here", "_law_rows", "_law_cells", "_law_parts", "_law_cell_here", "_law_part_here"] ["_law_content_here", "_law_rows"] (defScope s_l_moved) := ⟨rfl, rfl, rfl, by decide +kernel, rfl, by decide +kernel, by decide +kernel⟩
abbrev s_l_changes : Stmt := top 80
theorem sc_l_changes : FnScope ["_law_contents", "_law_deed_here", "_law_content_here", "_law_new", "_law_k", "_law_cell_here"] ["_law_contents", "_law_deed_here", "_law_content_here"] (defScope s_l_changes) := ⟨rfl, rfl, rfl, by decide +kernel, rfl, by decide +kernel, by decide +kernel⟩
abbrev s_l_with : Stmt := top 81
theorem sc_l_with : FnScope ["_law_contents", "_law_rows", "_law_found", "_law_cell_here", "_law_elder", "_law_newer"] ["_law_contents", "_law_rows"] (defScope s_l_with) := ⟨rfl, rfl, rfl, by decide +kernel, rfl, by decide +kernel, by decide +kernel⟩
abbrev s_l_many : Stmt := top 82
theorem sc_l_many : FnScope ["_law_box"] ["_law_box"] (defScope s_l_many) := ⟨rfl, rfl, rfl, by decide +kernel, rfl, by decide +kernel, by decide +kernel⟩
abbrev s_l_grown : Stmt := top 83
theorem sc_l_grown : FnScope ["_law_box", "_law_many_here", "_law_hands", "_law_tree", "_law_points", "_law_places", "_law_turn", "_law_hand", "_law_deed_here", "_law_content_here", "_law_rows"] ["_law_box", "_law_many_here", "_law_hands"] (defScope s_l_grown) := ⟨rfl, rfl, rfl, by decide +kernel, rfl, by decide +kernel, by decide +kernel⟩
abbrev s_l_trail : Stmt := top 84
theorem sc_l_trail : FnScope ["_law_points", "_law_point", "_law_found"] ["_law_points", "_law_point"] (defScope s_l_trail) := ⟨rfl, rfl, rfl, by decide +kernel, rfl, by decide +kernel, by decide +kernel⟩
abbrev s_l_last : Stmt := top 85
theorem sc_l_last : FnScope ["_law_points", "_law_trail_here", "_law_cell_here", "_law_found", "_law_point", "_law_row"] ["_law_points", "_law_trail_here", "_law_cell_here"] (defScope s_l_last) := ⟨rfl, rfl, rfl, by decide +kernel, rfl, by decide +kernel, by decide +kernel⟩
abbrev s_l_leans : Stmt := top 86
theorem sc_l_leans : FnScope ["_law_points", "_law_point", "_law_trail_here", "_law_found", "_law_cell_here", "_law_one"] ["_law_points", "_law_point"] (defScope s_l_leans) := ⟨rfl, rfl, rfl, by decide +kernel, rfl, by decide +kernel, by decide +kernel⟩
abbrev s_l_refusal : Stmt := top 87
theorem sc_l_refusal : FnScope ["_law_work", "e", "_law_kinds", "_law_words", "_law_k"] ["_law_work"] (defScope s_l_refusal) := ⟨rfl, rfl, rfl, by decide +kernel, rfl, by decide +kernel, by decide +kernel⟩
abbrev s_l_at_points : Stmt := top 88
theorem sc_l_at_points : FnScope ["_law_tree", "_law_hands", "_law_bad", "_law_way"] ["_law_tree", "_law_hands", "_law_bad", "_law_way"] (defScope s_l_at_points) := ⟨rfl, rfl, rfl, by decide +kernel, rfl, by decide +kernel, by decide +kernel⟩
abbrev s_l_at_hands : Stmt := top 89
theorem sc_l_at_hands : FnScope ["_law_tree", "_law_bad", "_law_far", "_law_way"] ["_law_tree", "_law_bad", "_law_far", "_law_way"] (defScope s_l_at_hands) := ⟨rfl, rfl, rfl, by decide +kernel, rfl, by decide +kernel, by decide +kernel⟩
abbrev s_l_at_first : Stmt := top 90
theorem sc_l_at_first : FnScope ["_law_tree", "_law_way"] ["_law_tree", "_law_way"] (defScope s_l_at_first) := ⟨rfl, rfl, rfl, by decide +kernel, rfl, by decide +kernel, by decide +kernel⟩
abbrev s_l_bad_deed : Stmt := top 91
theorem sc_l_bad_deed : FnScope ["_law_box", "_law_cell_here", "_law_bad", "_law_some"] ["_law_box", "_law_cell_here"] (defScope s_l_bad_deed) := ⟨rfl, rfl, rfl, by decide +kernel, rfl, by decide +kernel, by decide +kernel⟩
abbrev s_law : Stmt := top 92
theorem sc_law : FnScope ["_law_script", "_law_box", "_law_hands", "_law_tree", "_law_points", "_law_places", "_law_far", "_law_bad", "_law_way", "_law_beyond", "_law_deed_here", "_law_word", "_law_k", "_law_point"] ["_law_script"] (defScope s_law) := ⟨rfl, rfl, rfl, by decide +kernel, rfl, by decide +kernel, by decide +kernel⟩
end U
namespace U
open PySem L2 PyProof.Rows

section
variable {P : Program} {w : World} {K : PySem.W.Frag} {mg : Str → Option Value} {base : Heap}
theorem ok_lbegun {f : Addr} {fd : FuncData} (F : Fun K "_law_begun" "_law_begun" s_l_begun f fd) (B : Bt mg) : FnOk P w K mg base CX0 1 f fd ["_law_script"] (spBegun K) := by
  refine F.ok sc_l_begun (fun vs H Q E h => ?_) (fun cdv A outer s H vs Q E hr h => ?_)
  · obtain ⟨a, ns, rfl, _⟩ := h
    rfl
  obtain ⟨a, ns, rfl, hS, hl, k⟩ := h
  refine ⟨_, (pss_cons (ps_set (i := 1) sc_l_begun.nd rfl (Or.inl rfl) pe_int)
      (pss_cons (ps_for PassesOwn.never rfl (pi_list (pv 0)) (pg_name (i := 2) sc_l_begun.nd rfl (Or.inl rfl)) (pss_one (ps_set (i := 1) sc_l_begun.nd rfl (Or.inl rfl) (pe_op op_mod (pe_op op_add (pe_op op_add (pe_op op_mul (pv 1) pe_int) (pe_op op_mul (pv 2) pe_int)) pe_int) pe_int))))
      (pss_one (ps_ret (pe_lst (pa_cons (pe_callTy call_list_of (by rfl) B.list boot_list (pa_cons (pv 0) pa_nil)) (pa_cons (pe_op op_mul (pv 1) (pe_callTy call_int1 (by rfl) B.int boot_int (pa_cons (pe_cmpR op_gt (pe_callB call_len_seq (by rfl) B.len boot_len (pa_cons (pv 0) pa_nil)) pe_int (nomark _)) pa_nil))) pa_nil))))))), ?_⟩
  refine ⟨_, rfl, a, rfl, ⟨_, hS⟩, for_list (K := K) (a := a) (xs := ns.map V.int) (fun i σ H2 => ∃ (z : Int) (v : Option V), σ = [some (.ref a), some (.int z), v] ∧ H2 = H ∧ 0 ≤ z ∧ z < 2147483647)
    ⟨0, none, rfl, rfl, by decide, by decide⟩ (fun i σ H2 _ ⟨_, _, _, e, _⟩ => e ▸ hS) ?_ ?_⟩
  · rintro i y σ H2 hi ⟨z, v, rfl, rfl, z0, z1⟩
    obtain ⟨n, rfl⟩ : ∃ n, y = V.int n := by
      rw [List.getElem?_map] at hi
      cases e : ns[i]? with
      | none => rw [e] at hi; cases hi
      | some n => rw [e] at hi; exact ⟨n, (Option.some.inj hi).symm⟩
    refine ⟨_, rfl, _, _, rfl, rfl, cmulR (by decide) (by decide), _, rfl, _, _, rfl, rfl, cmulR (by decide) (by decide), _, _, rfl, rfl, _, _, rfl, rfl, _, _, rfl, rfl, (by decide : (0 : Int) < 2147483647), ?_⟩
    exact ⟨_, _, rfl, rfl, Int.emod_nonneg _ (by decide), Int.emod_lt_of_pos _ (by decide)⟩
  · rintro σ H2 ⟨z, v, rfl, rfl, z0, z1⟩
    have e1 : (ns.map V.int).length = ns.length := List.length_map _
    refine ⟨_, rfl, a, _, rfl, .inl hS, fun l hl0 => ?_⟩
    have s1 : Same H2 (upd H2 l (.lst (ns.map V.int))) := same_new hl0 _
    refine ⟨_, rfl, _, rfl, a, _, rfl, .inl (s1.seq hS), _, _, rfl, rfl, .inr ⟨_, rfl, ?_⟩⟩
    refine ⟨_, _, rfl, rfl, cmulL (by omega) (by omega), (by show 2 ≤ sizeLine; decide), fun b hb0 => ?_⟩
    have nbl : l ≠ b := ne_of_none upd_same hb0
    refine k b l _ (s1.trans (same_new hb0 _)) (s1.free hb0) hl0 ⟨_, ns, upd_same, by rw [upd_ne nbl, upd_same], ?_, ?_, hl⟩
    · split <;> omega
    · split <;> omega
theorem ok_ltake {f : Addr} {fd : FuncData} (F : Fun K "_law_take" "_law_take" s_l_take f fd) (B : Bt mg) : FnOk P w K mg base CX0 1 f fd ["_law_box", "_law_many_here"] spTake := by
  refine F.ok sc_l_take (fun vs H Q E h => ?_) (fun cdv A outer s H vs Q E hr h => ?_)
  · obtain ⟨b, l, m, rfl, _⟩ := h
    rfl
  obtain ⟨b, l, m, rfl, BX, h0, h1, k⟩ := h
  refine ⟨_, (pss_cons (ps_if (pt_cmpR (op_eqD hr.units) (pe_ix ix_list (pv 0) pe_int (fun _ _ => rfl)) (pe_lst pa_nil) (nomark _)) (pss_cons (ps_asg (pe_op op_mod (pe_op op_mul (pe_ix ix_list (pv 0) pe_int (fun _ _ => rfl)) pe_int) pe_int) (pg_sub (pv 0) pe_int set_list))
      (pss_one (ps_ret (pe_op op_mod (pe_op op_fdiv (pe_ix ix_list (pv 0) pe_int (fun _ _ => rfl)) pe_int) (pv 1))))) pss_nil)
      (pss_cons (ps_set (i := 2) sc_l_take.nd rfl (Or.inl rfl) (pe_ix ix_list (pe_ix ix_list (pv 0) pe_int (fun _ _ => rfl)) pe_int (fun _ _ => rfl)))
      (pss_cons (ps_asg (pe_op op_fdiv (pv 2) (pv 1)) (pg_sub (pe_ix ix_list (pv 0) pe_int (fun _ _ => rfl)) pe_int set_list))
      (pss_cons (ps_if (PW.pt (pw_or (pt_cmpR op_eq (pe_ix ix_list (pe_ix ix_list (pv 0) pe_int (fun _ _ => rfl)) pe_int (fun _ _ => rfl)) pe_int (nomark _)) (pw_or1 (pt_cmpR op_eq (pe_ix ix_list (pe_ix ix_list (pv 0) pe_int (fun _ _ => rfl)) pe_int (fun _ _ => rfl)) (pe_un un_neg pe_int) (nomark _))))) (pss_one (ps_expr (pe_bm PySem.F.plainAttrs_list PySem.F.slot_list_pop PySem.F.type_list_pop mt_popAt (pe_ix ix_list (pv 0) pe_int (fun _ _ => rfl)) (pa_cons pe_int pa_nil)))) pss_nil)
      (pss_one (ps_ret (pe_op op_mod (pv 2) (pv 1)))))))), ?_⟩
  obtain ⟨z, ns, hb, hl, z0, z1, hn⟩ := BX.ex
  have nbl := BX.ne
  refine ⟨_, rfl, b, _, _, _, rfl, rfl, SqL.of hb, rfl, (by decide), fun p hp => ?_⟩
  have s1 : Same H (upd H p (.lst [])) := same_new hp _
  refine ⟨_, _, .lst (SqL.of (s1 _ _ hl)) (dp_ints _ _ ns), .lst (SqL.of upd_same) .nil, shaped_ints ns, shaped_nil, _, rfl, ?_⟩
  rw [eqv_nil]
  have pb : b ≠ p := ne_of_none hb hp
  have pl : l ≠ p := ne_of_none hl hp
  have m1 : Keep b l H (upd H p (.lst [])) := .of s1
  cases ns with
  | nil =>
    refine iteT ?_
    refine ⟨_, rfl, b, _, _, _, rfl, rfl, SqL.of (s1 _ _ hb), rfl, _, _, rfl, rfl, cmulL (by omega) (by omega), _, _, rfl, rfl, (by decide : (0 : Int) < 2147483647), _, rfl, b, _, _, _, rfl, rfl, s1 _ _ hb, rfl, ?_⟩
    have hz := Int.emod_nonneg (z * 48271) (show (2147483647 : Int) ≠ 0 by decide)
    have hy := Int.emod_lt_of_pos (z * 48271) (show (0 : Int) < 2147483647 by decide)
    refine ⟨_, rfl, b, _, _, _, rfl, rfl, SqL.of upd_same, rfl, _, _, rfl, rfl, ⟨by decide, by decide⟩, _, rfl, _, _, rfl, rfl, h0, ?_⟩
    refine k _ _ (Int.emod_nonneg _ (by omega)) (Int.emod_lt_of_pos _ h0) ⟨_, [], upd_same, by rw [upd_ne nbl.symm]; exact s1 _ _ hl, hz, hy, hn⟩ (m1.trans fun c o e n m => by rw [upd_ne n]; exact e)
  | cons n r =>
    refine iteF ?_
    refine ⟨_, rfl, b, _, _, _, rfl, rfl, SqL.of (s1 _ _ hb), rfl, _, _, _, _, rfl, rfl, SqL.of (s1 _ _ hl), at0, ?_⟩
    refine ⟨_, rfl, _, rfl, _, _, rfl, rfl, ⟨h0, h1⟩, _, rfl, b, _, _, _, rfl, rfl, SqL.of (s1 _ _ hb), rfl, _, _, _, _, rfl, rfl, s1 _ _ hl, ix0, ?_⟩
    have hb2 : upd (upd H p (.lst [])) l (.lst (((n :: r).map V.int).set 0 (V.int (n / m)))) b = some (.lst [.ref l, .int z]) := by rw [upd_ne nbl]; exact s1 _ _ hb
    have m2 : Keep b l H (upd (upd H p (.lst [])) l (.lst (((n :: r).map V.int).set 0 (V.int (n / m))))) := m1.trans fun c o e n m => by rw [upd_ne m]; exact e
    generalize hG : upd (upd H p (.lst [])) l (.lst (((n :: r).map V.int).set 0 (V.int (n / m)))) = G at hb2 m2
    have hl2 : G l = some (.lst (((n / m) :: r).map V.int)) := by rw [← hG]; exact upd_same
    have out : ∀ G', G' = G ∨ G' = upd G l (.lst (r.map V.int)) → Q (.int (n % m)) G' := by
      rintro G' (rfl | rfl)
      · exact k _ _ (Int.emod_nonneg _ (by omega)) (Int.emod_lt_of_pos _ h0) ⟨z, (n / m) :: r, hb2, hl2, z0, z1, hn⟩ m2
      · exact k _ _ (Int.emod_nonneg _ (by omega)) (Int.emod_lt_of_pos _ h0) ⟨z, r, by rw [upd_ne nbl]; exact hb2, upd_same, z0, z1, by simp only [List.length_cons] at hn; omega⟩ (m2.trans fun c o e n m => by rw [upd_ne m]; exact e)
    have pop : ∀ D : Ends, (D.nx [some (.ref b), some (.int m), some (.int n)] (upd G l (.lst (r.map V.int)))) → tDrop (tBM K "list" rPopAt (tOp (rIxL K) (tVar 0) (tC (.int 0))) (tCons (tC (.int 0)) tNil)) D [some (.ref b), some (.int m), some (.int n)] G := by
      intro D q
      refine ⟨_, rfl, b, _, _, _, rfl, rfl, SqL.of hb2, rfl, .inl ⟨rfl, _, SqL.of hl2⟩, _, _, _, 0, _, rfl, rfl, hl2, by decide, by decide, sq0, rfl, ?_⟩
      exact q
    have lastq : ∀ G', G' = G ∨ G' = upd G l (.lst (r.map V.int)) → tRet (tOp (rI (fun _ j => 0 < j) fun i j => V.int (i % j)) (tVar 2) (tVar 1)) { nx := fun _ H' => Q .non H', rt := Q } [some (.ref b), some (.int m), some (.int n)] G' := by
      intro G' e
      exact ⟨_, rfl, _, rfl, _, _, rfl, rfl, h0, out G' e⟩
    refine ⟨_, rfl, b, _, _, _, rfl, rfl, SqL.of hb2, rfl, _, _, _, _, rfl, rfl, SqL.of hl2, at0, rfl, _, rfl, ?_⟩
    refine ite2 (fun c => ?_) (fun c => ?_)
    · refine iteT ?_
      exact pop _ (lastq _ (.inr rfl))
    · refine ⟨_, rfl, b, _, _, _, rfl, rfl, SqL.of hb2, rfl, _, _, _, _, rfl, rfl, SqL.of hl2, at0, _, rfl, rfl, _, rfl, ?_⟩
      refine ite2 (fun c => ?_) (fun c => ?_)
      · exact pop _ (lastq _ (.inr rfl))
      · exact lastq _ (.inl rfl)
end
end U

namespace U
open PySem L2 PyProof.Rows
section
variable {P : Program} {w : World} {K : PySem.W.Frag} {mg : Str → Option Value} {base : Heap}
theorem ok_lalike {n : Nat} {f : Addr} {fd : FuncData} (F : Fun K "_law_alike" "_law_alike" s_l_alike f fd) (B : Bt mg) (C_l_alike : Cal P w K mg base n "_law_alike" ["_law_found", "_law_due"] (spAlike K n)) : FnOk P w K mg base CX0 (n + 1) f fd ["_law_found", "_law_due"] (spAlike K (n + 1)) := by
  refine F.ok sc_l_alike (fun vs H Q E h => ?_) (fun cdv A outer s H vs Q E hr h => ?_)
  · obtain ⟨x, y, d, rfl, _⟩ := h
    rfl
  obtain ⟨x, y, d, rfl, hx, hy, hn, hz, k⟩ := h
  refine ⟨_, (pss_cons (ps_if (pt_cmpR op_isN (pv 1) pe_non (nomark _)) (pss_one (ps_ret (pe_cmpR op_isN (pv 0) pe_non (nomark _)))) pss_nil)
      (pss_cons (ps_if (pt_val (pe_callB call_isi (by rfl) B.isinstance boot_isinstance (pa_cons (pv 1) (pa_cons (pe_bltn (v := .ty "bool") (by rfl) B.bool boot_bool rfl) pa_nil)))) (pss_one (ps_ret (pe_and (pe_callB call_isi (by rfl) B.isinstance boot_isinstance (pa_cons (pv 0) (pa_cons (pe_bltn (v := .ty "bool") (by rfl) B.bool boot_bool rfl) pa_nil))) (pe_one (pe_cmpR op_eq (pv 0) (pv 1) (nomark _)))))) pss_nil)
      (pss_cons (ps_if (pt_val (pe_callB call_isi (by rfl) B.isinstance boot_isinstance (pa_cons (pv 1) (pa_cons (pe_bltn (v := .ty "int") (by rfl) B.int boot_int rfl) pa_nil)))) (pss_one (ps_ret (pe_and (pe_callB call_isi (by rfl) B.isinstance boot_isinstance (pa_cons (pv 0) (pa_cons (pe_bltn (v := .ty "int") (by rfl) B.int boot_int rfl) pa_nil))) (pe_and (pe_not (pe_callB call_isi (by rfl) B.isinstance boot_isinstance (pa_cons (pv 0) (pa_cons (pe_bltn (v := .ty "bool") (by rfl) B.bool boot_bool rfl) pa_nil)))) (pe_one (pe_cmpR op_eq (pv 0) (pv 1) (nomark _))))))) pss_nil)
      (pss_cons (ps_if (pt_val (pe_callB call_isi (by rfl) B.isinstance boot_isinstance (pa_cons (pv 1) (pa_cons (pe_bltn (v := .ty "str") (by rfl) B.str boot_str rfl) pa_nil)))) (pss_one (ps_ret (pe_and (pe_callB call_isi (by rfl) B.isinstance boot_isinstance (pa_cons (pv 0) (pa_cons (pe_bltn (v := .ty "str") (by rfl) B.str boot_str rfl) pa_nil))) (pe_one (pe_cmpR op_eq (pv 0) (pv 1) (nomark _)))))) pss_nil)
      (pss_cons (ps_if (PW.pt (pw_or (pt_cmpR op_ne (pe_callB call_isi (by rfl) B.isinstance boot_isinstance (pa_cons (pv 1) (pa_cons (pe_bltn (v := .ty "tuple") (by rfl) B.tuple boot_tuple rfl) pa_nil))) (pe_callB call_isi (by rfl) B.isinstance boot_isinstance (pa_cons (pv 0) (pa_cons (pe_bltn (v := .ty "tuple") (by rfl) B.tuple boot_tuple rfl) pa_nil))) (nomark _)) (pw_or1 (pt_cmpR op_ne (pe_callB call_isi (by rfl) B.isinstance boot_isinstance (pa_cons (pv 1) (pa_cons (pe_bltn (v := .ty "list") (by rfl) B.list boot_list rfl) pa_nil))) (pe_callB call_isi (by rfl) B.isinstance boot_isinstance (pa_cons (pv 0) (pa_cons (pe_bltn (v := .ty "list") (by rfl) B.list boot_list rfl) pa_nil))) (nomark _))))) (pss_one (ps_ret pe_bl)) pss_nil)
      (pss_cons (ps_if (pt_cmpR op_ne (pe_callB call_len_seq (by rfl) B.len boot_len (pa_cons (pv 0) pa_nil)) (pe_callB call_len_seq (by rfl) B.len boot_len (pa_cons (pv 1) pa_nil)) (nomark _)) (pss_one (ps_ret pe_bl)) pss_nil)
      (pss_cons (ps_for PassesOwn.never rfl (pi_range1 (by rfl) B.range (pa_cons (pe_callB call_len_seq (by rfl) B.len boot_len (pa_cons (pv 1) pa_nil)) pa_nil)) (pg_name (i := 2) sc_l_alike.nd rfl (Or.inl rfl)) (pss_one (ps_if (pt_not (pt_val (pc_c C_l_alike (hr.mono (by first | exact Nat.le_refl _ | decide | omega)) (by rfl) (pa_cons (pe_ix ix_seq (pv 0) (pv 2) (fun _ _ => rfl)) (pa_cons (pe_ix ix_seq (pv 1) (pv 2) (fun _ _ => rfl)) pa_nil))))) (pss_one (ps_ret pe_bl)) pss_nil)))
      (pss_one (ps_ret pe_bl))))))))), ?_⟩
  -- behind the kinds: a list or a tuple, item by item
  have rest : ∀ (xs ys : List V) (ds : List PyData) (a c : Addr), (SqL K H a xs ∨ SqT K H a xs) → (SqL K H c ys ∨ SqT K H c ys) → DpAll K H xs ds → DpAll K H ys ds → PyData.depthAll ds < n → ds.length ≤ 1000000 → szAll ds = true → (∀ (b : Bool), b = true → Q (.bl b) H) →
      ∀ (D : Ends), D.rt = Q → (tSeq (tIfS (tTest (tOp rNe (tCB (fun xs H Q => ∃ p ys, xs = [V.ref p] ∧ (SqL K H p ys ∨ SqT K H p ys) ∧ Q (.int ys.length) H) (tCons (tVar 0) tNil)) (tCB (fun xs H Q => ∃ p ys, xs = [V.ref p] ∧ (SqL K H p ys ∨ SqT K H p ys) ∧ Q (.int ys.length) H) (tCons (tVar 1) tNil)))) (tRet (tC (.bl false))) tNext)
        (tSeq (tFor (iRng1 (tCons (tCB (fun xs H Q => ∃ p ys, xs = [V.ref p] ∧ (SqL K H p ys ∨ SqT K H p ys) ∧ Q (.int ys.length) H) (tCons (tVar 1) tNil)) tNil)) (gName 2) (tIfS (tNot (tB (tCal (spAlike K n) E0 (tCons (tOp (rIx K) (tVar 0) (tVar 2)) (tCons (tOp (rIx K) (tVar 1) (tVar 2)) tNil))))) (tRet (tC (.bl false))) tNext))
          (tRet (tC (.bl true))))) D [some (.ref a), some (.ref c), none] H := by
    intro xs ys ds a c hX hY aX aY hd hl hz q D hD
    have lX := (dpAll_get aX).1
    have lY := (dpAll_get aY).1
    refine ⟨_, rfl, a, xs, rfl, hX, _, rfl, c, ys, rfl, hY, rfl, _, rfl, ?_⟩
    have e : (!decide (V.int (xs.length : Int) = V.int (ys.length : Int))) = false := by
      rw [lX, lY]
      simp
    rw [e]
    refine iteF ?_
    refine ⟨_, rfl, c, ys, rfl, hY, _, rfl, (by omega), (by omega), for_range (lo := 0) (fun i σ H2 => ∃ v, σ = [some (.ref a), some (.ref c), v] ∧ H2 = H) ⟨none, rfl, rfl⟩ ?_ ?_⟩
    · rintro i σ H2 hi ⟨v, rfl, rfl⟩
      have hi' : i < ds.length := by
        rw [← lY]
        omega
      obtain ⟨x, x1, x2⟩ := dpAll_at aX hi'
      obtain ⟨y, y1, y2⟩ := dpAll_at aY hi'
      have e0 : (0 : Int) + (i : Int) = (i : Int) := by omega
      have g1 : ∀ (R : VK), R x H2 → rIx K (.ref a) (.int (0 + (i : Int))) H2 R := fun R r => by
        rw [e0]
        rcases hX with h | h
        · exact .inl ⟨a, xs, _, x, rfl, rfl, h, x1, r⟩
        · exact .inr (.inl ⟨a, xs, _, x, rfl, rfl, h, x1, r⟩)
      have g2 : ∀ (R : VK), R y H2 → rIx K (.ref c) (.int (0 + (i : Int))) H2 R := fun R r => by
        rw [e0]
        rcases hY with h | h
        · exact .inl ⟨c, ys, _, y, rfl, rfl, h, y1, r⟩
        · exact .inr (.inl ⟨c, ys, _, y, rfl, rfl, h, y1, r⟩)
      refine ⟨_, rfl, _, rfl, g1 _ ⟨_, rfl, _, rfl, g2 _ ⟨x, y, ds[i], rfl, x2, y2, Nat.lt_of_le_of_lt (depth_get hi') hd, szAll_get hi' hz, _, rfl, iteF ?_⟩⟩⟩
      exact ⟨_, rfl, rfl⟩
    · rintro σ H2 ⟨v, rfl, rfl⟩
      show D.rt _ _
      rw [hD]
      exact q _ rfl
  cases hy with
  | non =>
    cases hx
    exact ⟨_, rfl, rfl, _, rfl, iteT ⟨_, rfl, rfl, k⟩⟩
  | bl b =>
    cases hx
    refine ⟨_, rfl, rfl, _, rfl, iteF ⟨_, rfl, ⟨_, _, _, _, _, rfl, .ty _, dp_ty (Dp.bl b), kit_ty k_bool_bool, _, rfl, iteT ⟨_, rfl, ⟨_, _, _, _, _, rfl, .ty _, dp_ty (Dp.bl b), kit_ty k_bool_bool, _, rfl, iteT ⟨_, rfl, _, rfl, rfl, ?_⟩⟩⟩⟩⟩⟩
    rw [decide_eq_true rfl]
    exact k
  | int i =>
    cases hx
    refine ⟨_, rfl, rfl, _, rfl, iteF ⟨_, rfl, ⟨_, _, _, _, _, rfl, .ty _, dp_ty (Dp.int i), kit_ty k_int_bool, _, rfl, iteF ⟨_, rfl, ⟨_, _, _, _, _, rfl, .ty _, dp_ty (Dp.int i), kit_ty k_int_int, _, rfl, iteT ⟨_, rfl, ⟨_, _, _, _, _, rfl, .ty _, dp_ty (Dp.int i), kit_ty k_int_int, _, rfl, iteT ⟨_, rfl, ⟨_, _, _, _, _, rfl, .ty _, dp_ty (Dp.int i), kit_ty k_int_bool, _, rfl, _, rfl, iteT ⟨_, rfl, _, rfl, rfl, ?_⟩⟩⟩⟩⟩⟩⟩⟩⟩⟩
    rw [decide_eq_true rfl]
    exact k
  | str z =>
    cases hx
    refine ⟨_, rfl, rfl, _, rfl, iteF ⟨_, rfl, ⟨_, _, _, _, _, rfl, .ty _, dp_ty (Dp.str z), kit_ty k_str_bool, _, rfl, iteF ⟨_, rfl, ⟨_, _, _, _, _, rfl, .ty _, dp_ty (Dp.str z), kit_ty k_str_int, _, rfl, iteF ⟨_, rfl, ⟨_, _, _, _, _, rfl, .ty _, dp_ty (Dp.str z), kit_ty k_str_str, _, rfl, iteT ⟨_, rfl, ⟨_, _, _, _, _, rfl, .ty _, dp_ty (Dp.str z), kit_ty k_str_str, _, rfl, iteT ⟨_, rfl, _, rfl, rfl, ?_⟩⟩⟩⟩⟩⟩⟩⟩⟩⟩
    rw [decide_eq_true rfl]
    exact k
  | @lst c ys ds hs ha =>
    cases hx with
    | @lst a xs _ hs' ha' =>
      have h1 := Dp.lst hs ha
      have h2 := Dp.lst hs' ha'
      simp only [PyData.depth] at hn
      have hd : PyData.depthAll ds < n := Nat.lt_of_succ_lt_succ hn
      simp only [szOk, Bool.and_eq_true, decide_eq_true_eq] at hz
      refine ⟨_, rfl, rfl, _, rfl, iteF ⟨_, rfl, ⟨_, _, _, _, _, rfl, .ty _, dp_ty h1, kit_ty k_list_bool, _, rfl, iteF ⟨_, rfl, ⟨_, _, _, _, _, rfl, .ty _, dp_ty h1, kit_ty k_list_int, _, rfl, iteF ⟨_, rfl, ⟨_, _, _, _, _, rfl, .ty _, dp_ty h1, kit_ty k_list_str, _, rfl, iteF ?_⟩⟩⟩⟩⟩⟩⟩
      refine ⟨_, rfl, ⟨_, _, _, _, _, rfl, .ty _, dp_ty h1, kit_ty k_list_tuple, _, rfl, ⟨_, _, _, _, _, rfl, .ty _, dp_ty h2, kit_ty k_list_tuple, rfl, _, rfl, iteF ⟨_, rfl, ⟨_, _, _, _, _, rfl, .ty _, dp_ty h1, kit_ty k_list_list, _, rfl, ⟨_, _, _, _, _, rfl, .ty _, dp_ty h2, kit_ty k_list_list, rfl, _, rfl, iteF ?_⟩⟩⟩⟩⟩⟩
      exact rest _ _ _ _ _ (.inl hs') (.inl hs) ha' ha hd hz.1 hz.2 (fun b e => by rw [e]; exact k) _ rfl
  | @tup c ys ds hs ha =>
    cases hx with
    | @tup a xs _ hs' ha' =>
      have h1 := Dp.tup hs ha
      have h2 := Dp.tup hs' ha'
      simp only [PyData.depth] at hn
      have hd : PyData.depthAll ds < n := Nat.lt_of_succ_lt_succ hn
      simp only [szOk, Bool.and_eq_true, decide_eq_true_eq] at hz
      refine ⟨_, rfl, rfl, _, rfl, iteF ⟨_, rfl, ⟨_, _, _, _, _, rfl, .ty _, dp_ty h1, kit_ty k_tuple_bool, _, rfl, iteF ⟨_, rfl, ⟨_, _, _, _, _, rfl, .ty _, dp_ty h1, kit_ty k_tuple_int, _, rfl, iteF ⟨_, rfl, ⟨_, _, _, _, _, rfl, .ty _, dp_ty h1, kit_ty k_tuple_str, _, rfl, iteF ?_⟩⟩⟩⟩⟩⟩⟩
      refine ⟨_, rfl, ⟨_, _, _, _, _, rfl, .ty _, dp_ty h1, kit_ty k_tuple_tuple, _, rfl, ⟨_, _, _, _, _, rfl, .ty _, dp_ty h2, kit_ty k_tuple_tuple, rfl, _, rfl, iteF ⟨_, rfl, ⟨_, _, _, _, _, rfl, .ty _, dp_ty h1, kit_ty k_tuple_list, _, rfl, ⟨_, _, _, _, _, rfl, .ty _, dp_ty h2, kit_ty k_tuple_list, rfl, _, rfl, iteF ?_⟩⟩⟩⟩⟩⟩
      exact rest _ _ _ _ _ (.inr hs') (.inr hs) ha' ha hd hz.1 hz.2 (fun b e => by rw [e]; exact k) _ rfl
theorem cal_lalike {f : Addr} {fd : FuncData} (F : Fun K "_law_alike" "_law_alike" s_l_alike f fd) (B : Bt mg) (m : mg "_law_alike" = some (.ref f)) (b : Binds K fd ["_law_found", "_law_due"] []) : ∀ n : Nat, Cal P w K mg base n "_law_alike" ["_law_found", "_law_due"] (spAlike K n)
  | 0 => by
    have no : ∀ vs H Q E, ¬ spAlike K 0 vs H Q E := fun vs H Q E ⟨_, _, _, _, _, _, h, _⟩ => Nat.not_lt_zero _ h
    exact ⟨f, fd, ⟨fun vs H Q E h => absurd h (no vs H Q E), fun A outer s H args us vs Q E _ _ _ _ h => absurd h (no vs H Q E)⟩, m, F.kp, b⟩
  | n + 1 => ⟨f, fd, ok_lalike F B (cal_lalike F B m b n), m, F.kp, b⟩
end
end U

namespace U
open PySem L2 PyProof.Rows
section
variable {P : Program} {w : World} {K : PySem.W.Frag} {mg : Str → Option Value} {base : Heap}
theorem ok_lcell {f : Addr} {fd : FuncData} (F : Fun K "_law_cell" "_law_cell" s_l_cell f fd) (C_l_take : Cal P w K mg base 1 "_law_take" ["_law_box", "_law_many_here"] spTake) : FnOk P w K mg base CX0 2 f fd ["_law_box"] spCell := by
  refine F.ok sc_l_cell (fun vs H Q E h => ?_) (fun cdv A outer s H vs Q E hr h => ?_)
  · obtain ⟨b, l, rfl, _⟩ := h
    rfl
  obtain ⟨b, l, rfl, BX, k⟩ := h
  refine ⟨_, (pss_cons (ps_if (pt_cmpR op_eq (pc_c C_l_take (hr.mono (by first | exact Nat.le_refl _ | decide | omega)) (by rfl) (pa_cons (pv 0) (pa_cons pe_int pa_nil))) pe_int (nomark _)) (pss_one (ps_ret (pe_op op_add_str (pe_ix ix_str pe_str (pc_c C_l_take (hr.mono (by first | exact Nat.le_refl _ | decide | omega)) (by rfl) (pa_cons (pv 0) (pa_cons pe_int pa_nil))) (fun _ _ => rfl)) (pe_ix ix_str pe_str (pc_c C_l_take (hr.mono (by first | exact Nat.le_refl _ | decide | omega)) (by rfl) (pa_cons (pv 0) (pa_cons pe_int pa_nil))) (fun _ _ => rfl))))) pss_nil)
      (pss_one (ps_ret (pe_op op_add_str (pe_ix ix_str pe_str (pc_c C_l_take (hr.mono (by first | exact Nat.le_refl _ | decide | omega)) (by rfl) (pa_cons (pv 0) (pa_cons pe_int pa_nil))) (fun _ _ => rfl)) (pe_ix ix_str pe_str (pc_c C_l_take (hr.mono (by first | exact Nat.le_refl _ | decide | omega)) (by rfl) (pa_cons (pv 0) (pa_cons pe_int pa_nil))) (fun _ _ => rfl)))))), ?_⟩
  refine ⟨_, rfl, b, l, 4, rfl, BX, by decide, by decide, fun r0 H1 _ _ B1 K1 => ⟨rfl, _, rfl, ?_⟩⟩
  have fin : ∀ (c r : Int) (H3 : Hp), 0 ≤ c → c < 6 → 0 ≤ r → r < 9 → Box H3 b l → Keep b l H H3 → Q (.str (SX.S [97 + c.toNat] ++ SX.S [49 + r.toNat])) H3 := fun c r H3 c0 c1 r0 r1 B3 K3 =>
    k ⟨c.toNat, r.toNat, by omega, by omega⟩ H3 B3 K3
  refine ite2 (fun _ => ?_) (fun _ => ?_)
  · refine ⟨_, rfl, b, l, 6, rfl, B1, by decide, by decide, fun r1 H2 c0 c1 B2 K2 => ⟨_, _, _, rfl, rfl, small (by decide), at_abc c0 c1, ?_⟩⟩
    refine ⟨_, rfl, b, l, 9, rfl, B2, by decide, by decide, fun r2 H3 d0 d1 B3 K3 => ⟨_, _, _, rfl, rfl, small (by decide), at_123 d0 d1, _, _, rfl, rfl, small (by decide : 2 ≤ 1000), ?_⟩⟩
    exact fin r1 r2 H3 c0 c1 d0 d1 B3 ((K1.trans K2).trans K3)
  · refine ⟨_, rfl, b, l, 3, rfl, B1, by decide, by decide, fun r1 H2 c0 c1 B2 K2 => ⟨_, _, _, rfl, rfl, small (by decide), at_abc3 c0 c1, ?_⟩⟩
    refine ⟨_, rfl, b, l, 3, rfl, B2, by decide, by decide, fun r2 H3 d0 d1 B3 K3 => ⟨_, _, _, rfl, rfl, small (by decide), at_1233 d0 d1, _, _, rfl, rfl, small (by decide : 2 ≤ 1000), ?_⟩⟩
    exact fin r1 r2 H3 c0 (by omega) d0 (by omega) B3 ((K1.trans K2).trans K3)
theorem ok_lstretch {f : Addr} {fd : FuncData} (F : Fun K "_law_stretch" "_law_stretch" s_l_stretch f fd) (B : Bt mg) : FnOk P w K mg base CX0 1 f fd ["_law_one", "_law_other"] spStretchL := by
  refine F.ok sc_l_stretch (fun vs H Q E h => ?_) (fun cdv A outer s H vs Q E hr h => ?_)
  · obtain ⟨x, y, rfl, _⟩ := h
    rfl
  obtain ⟨x, y, rfl, k⟩ := h
  refine ⟨_, (pss_cons (ps_set (i := 2) sc_l_stretch.nd rfl (Or.inl rfl) (pe_callB cr_sorted (by rfl) B.sorted boot_sorted (pa_cons (pe_lst (pa_cons (pe_bm PySem.F.plainAttrs_str PySem.F.slot_str_find PySem.F.type_str_find mt_find pe_str (pa_cons (pe_ix ix_str (pv 0) pe_int (fun _ _ => rfl)) pa_nil)) (pa_cons (pe_bm PySem.F.plainAttrs_str PySem.F.slot_str_find PySem.F.type_str_find mt_find pe_str (pa_cons (pe_ix ix_str (pv 1) pe_int (fun _ _ => rfl)) pa_nil)) pa_nil))) pa_nil)))
      (pss_cons (ps_set (i := 3) sc_l_stretch.nd rfl (Or.inl rfl) (pe_callB cr_sorted (by rfl) B.sorted boot_sorted (pa_cons (pe_lst (pa_cons (pe_callTy call_int_str (by rfl) B.int boot_int (pa_cons (pe_ix ix_str (pv 0) pe_int (fun _ _ => rfl)) pa_nil)) (pa_cons (pe_callTy call_int_str (by rfl) B.int boot_int (pa_cons (pe_ix ix_str (pv 1) pe_int (fun _ _ => rfl)) pa_nil)) pa_nil))) pa_nil)))
      (pss_cons (ps_set (i := 4) sc_l_stretch.nd rfl (Or.inl rfl) (pe_lst pa_nil))
      (pss_cons (ps_for PassesOwn.never rfl (pi_range2 (by rfl) B.range (pa_cons (pe_ix ix_list (pv 3) pe_int (fun _ _ => rfl)) (pa_cons (pe_op op_add (pe_ix ix_list (pv 3) pe_int (fun _ _ => rfl)) pe_int) pa_nil))) (pg_name (i := 5) sc_l_stretch.nd rfl (Or.inr rfl)) (pss_one (ps_set (i := 4) sc_l_stretch.nd rfl (Or.inl rfl) (pe_op op_cat (pv 4) (pe_lc (own := [("_law_k", 6)])  rfl sc_l_stretch.nd (pi_range2 (by rfl) B.range (pa_cons (pe_ix ix_list (pv 2) pe_int (fun _ _ => rfl)) (pa_cons (pe_op op_add (pe_ix ix_list (pv 2) pe_int (fun _ _ => rfl)) pe_int) pa_nil))) (blkOk_by (N := ["_law_one", "_law_other", "_law_columns", "_law_rows", "_law_found", "_law_row", "_law_k"]) (sc := defScope s_l_stretch) (by decide +kernel)) (fun _ _ _ _ _ => pg_name (i := 6) sc_l_stretch.nd rfl (Or.inl rfl)) (fun _ _ _ _ _ => pts_nil) (fun _ _ _ _ _ => (pe_op op_add_str (pe_ix ix_str pe_str (pv 6) (fun _ _ => rfl)) (pe_callTy call_str_int (by rfl) B.str boot_str (pa_cons (pv 5) pa_nil)))))))))
      (pss_one (ps_ret (pv 4))))))), ?_⟩
  refine ⟨rfl, _, rfl, _, _, _, rfl, rfl, small (by show 2 ≤ 1000; decide), x.at0, _, _, rfl, rfl, rfl, _, rfl, _, _, _, rfl, rfl, small (by show 2 ≤ 1000; decide), y.at0, _, _, rfl, rfl, ?_⟩
  have ex : Txt.find "abcdef" ⟨#[97 + x.c]⟩ = (x.c : Int) := find_abc x.hc
  have ey : Txt.find "abcdef" ⟨#[97 + y.c]⟩ = (y.c : Int) := find_abc y.hc
  rw [ex, ey]
  refine ⟨(by show 2 ≤ sizeLine; decide), fun p1 n1 => ⟨p1, [x.c, y.c], rfl, SqL.of upd_same, (by show 2 < 64; decide), fun ns1 q1 pe1 so1 m1 => ?_⟩⟩
  have hc := sort2 pe1 so1
  subst hc
  refine ⟨_, rfl, _, _, _, rfl, rfl, small (by show 2 ≤ 1000; decide), x.at1, _, _, rfl, int_one x.hr, (by show 1 ≤ 640; decide), _, rfl, _, _, _, rfl, rfl, small (by show 2 ≤ 1000; decide), y.at1, _, _, rfl, int_one y.hr, (by show 1 ≤ 640; decide), ?_⟩
  refine ⟨(by show 2 ≤ sizeLine; decide), fun p2 n2 => ⟨p2, [(x.r : Int) + 1, (y.r : Int) + 1], rfl, SqL.of upd_same, (by show 2 < 64; decide), fun ns2 q2 pe2 so2 m2 => ?_⟩⟩
  have hr' := sort2 pe2 so2
  subst hr'
  -- the heap behind both sorted lists
  have s1 : Same H (upd (upd H p1 (.lst [V.int x.c, V.int y.c])) q1 (.lst ([min (x.c : Int) y.c, max (x.c : Int) y.c].map V.int))) := (same_new n1 _).trans (same_new m1 _)
  have g1 : upd (upd H p1 (.lst [V.int x.c, V.int y.c])) q1 (.lst ([min (x.c : Int) y.c, max (x.c : Int) y.c].map V.int)) q1 = some (.lst [V.int (min (x.c : Int) y.c), V.int (max (x.c : Int) y.c)]) := upd_same
  generalize upd (upd H p1 (.lst [V.int x.c, V.int y.c])) q1 (.lst ([min (x.c : Int) y.c, max (x.c : Int) y.c].map V.int)) = G1 at s1 g1 n2 m2 ⊢
  have s2 : Same G1 (upd (upd G1 p2 (.lst [V.int ((x.r : Int) + 1), V.int ((y.r : Int) + 1)])) q2 (.lst ([min ((x.r : Int) + 1) (y.r + 1), max ((x.r : Int) + 1) (y.r + 1)].map V.int))) := (same_new n2 _).trans (same_new m2 _)
  have g2 : upd (upd G1 p2 (.lst [V.int ((x.r : Int) + 1), V.int ((y.r : Int) + 1)])) q2 (.lst ([min ((x.r : Int) + 1) (y.r + 1), max ((x.r : Int) + 1) (y.r + 1)].map V.int)) q2 = some (.lst [V.int (min ((x.r : Int) + 1) (y.r + 1)), V.int (max ((x.r : Int) + 1) (y.r + 1))]) := upd_same
  generalize upd (upd G1 p2 (.lst [V.int ((x.r : Int) + 1), V.int ((y.r : Int) + 1)])) q2 (.lst ([min ((x.r : Int) + 1) (y.r + 1), max ((x.r : Int) + 1) (y.r + 1)].map V.int)) = G2 at s2 g2 ⊢
  have hxc := x.hc
  have hyc := y.hc
  have hxr := x.hr
  have hyr := y.hr
  obtain ⟨a, ha⟩ : ∃ a : Nat, a = min x.c y.c := ⟨_, rfl⟩
  obtain ⟨n, hn⟩ : ∃ n : Nat, n = max x.c y.c + 1 - min x.c y.c := ⟨_, rfl⟩
  obtain ⟨b, hb⟩ : ∃ b : Nat, b = min x.r y.r := ⟨_, rfl⟩
  obtain ⟨m, hm⟩ : ∃ m : Nat, m = max x.r y.r + 1 - min x.r y.r := ⟨_, rfl⟩
  have e1 : min (x.c : Int) y.c = (a : Int) := by omega
  have e2 : max (x.c : Int) y.c = ((a + n : Nat) : Int) - 1 := by omega
  have e3 : min ((x.r : Int) + 1) (y.r + 1) = (b : Int) + 1 := by omega
  have e4 : max ((x.r : Int) + 1) (y.r + 1) = ((b + m : Nat) : Int) := by omega
  rw [e1, e2] at g1
  rw [e3, e4] at g2
  have hs : strL x y = rowsL a n b m := by unfold strL; rw [← hn, ← hm, ← ha, ← hb]
  rw [hs] at k
  refine ⟨(by show 0 ≤ sizeLine; decide), fun p3 n3 => ?_⟩
  have s3 : Same G2 (upd G2 p3 (.lst [])) := same_new n3 _
  refine ⟨_, rfl, q2, _, _, _, rfl, rfl, SqL.of (s3 _ _ g2), rfl, _, rfl, q2, _, _, _, rfl, rfl, SqL.of (s3 _ _ g2), rfl, _, _, rfl, rfl, _, _, rfl, (by omega), ?_⟩
  refine for_range (lo := (b : Int) + 1) (fun i σ H2 => ∃ (p : Addr) (v : Option V), σ = [some (.str x.s), some (.str y.s), some (.ref q1), some (.ref q2), some (.ref p), v, none] ∧ H p = none ∧ Same G2 H2 ∧ H2 p = some (.lst ((rowsL a n b i).map V.str)))
    ⟨p3, none, rfl, (s1.trans s2).free n3, s3, upd_same⟩ ?_ ?_
  · rintro i σ H2 hi ⟨p, v, rfl, hp, sm, hp2⟩
    have him : i < m := by omega
    have gc := sm _ _ (s2 _ _ g1)
    refine ⟨_, rfl, _, rfl, q1, _, _, _, rfl, rfl, SqL.of gc, rfl, _, rfl, q1, _, _, _, rfl, rfl, SqL.of gc, rfl, _, _, rfl, rfl, _, _, rfl, (by omega), fun D hD => ?_⟩
    refine lc_range (lo := (a : Int)) (fun j H4 => Same H2 H4 ∧ H4 D = some (.lst ((rowL a j (b + i)).map V.str))) ⟨same_new hD _, upd_same⟩ ?_ ?_
    · rintro j H4 hj ⟨sj, hj4⟩
      have hjn : j < n := by omega
      refine ⟨wipe_in (by decide), yes_ ?_⟩
      have ea : (a : Int) + (j : Int) = ((a + j : Nat) : Int) := by omega
      have eb : (b : Int) + 1 + (i : Int) = ((b + i : Nat) : Int) + 1 := by omega
      refine ⟨_, rfl, _, _, _, rfl, rfl, small (by decide), at_abc (by omega) (by omega), _, rfl, _, rfl, log_small (by omega) (by omega), ?_⟩
      have es : (toString ((b : Int) + 1 + (i : Int)) : Str) = SX.S [49 + (b + i)] := by rw [eb]; exact str_one (by omega)
      rw [es]
      refine ⟨_, _, rfl, rfl, small (by show 2 ≤ 1000; decide), ((rowL a j (b + i)).map V.str), hj4, (by rw [List.length_map, rowL_len]; exact small1000 (by omega)), ?_⟩
      refine ⟨fun c o e => by rw [upd_ne (ne_of_none e hD)]; exact sj c o e, ?_⟩
      rw [upd_same, rowL_succ, List.map_append, ea]
      rfl
    · rintro H4 ⟨sj, hj4⟩
      have en : ((a + n : Nat) : Int) - 1 + 1 - (a : Int) = (n : Int) := by omega
      rw [en, Int.toNat_natCast] at hj4
      refine ⟨p, D, _, _, rfl, rfl, sj _ _ hp2, hj4, ?_, fun t ht => ?_⟩
      · rw [List.length_map, List.length_map, rowsL_len, rowL_len]
        have : n * i ≤ 6 * 9 := Nat.mul_le_mul (by omega) (by omega)
        exact small (by omega)
      · refine ⟨t, _, rfl, (s1.trans s2).free (sm.free (sj.free ht)), sm.trans (sj.trans (same_new ht _)), ?_⟩
        rw [upd_same, rowsL_succ, List.map_append]
  · rintro σ H2 ⟨p, v, rfl, hp, sm, hp2⟩
    have en : (((b + m : Nat) : Int) + 1 - ((b : Int) + 1)).toNat = m := by omega
    rw [en] at hp2
    exact ⟨_, rfl, k p H2 hp ((s1.trans s2).trans sm) hp2⟩
end
end U

namespace U
open PySem L2 PyProof.Rows
section
variable {P : Program} {w : World} {K : PySem.W.Frag} {mg : Str → Option Value} {base : Heap}
theorem ok_lpart {n : Nat} {f : Addr} {fd : FuncData} (F : Fun K "_law_part" "_law_part" s_l_part f fd) (C_l_take : Cal P w K mg base 1 "_law_take" ["_law_box", "_law_many_here"] spTake) (C_l_cell : Cal P w K mg base 2 "_law_cell" ["_law_box"] spCell)
    (C_l_part : Cal P w K mg base (n + 2) "_law_part" ["_law_box", "_law_deep"] (spPart K n)) : FnOk P w K mg base CX0 (n + 1 + 2) f fd ["_law_box", "_law_deep"] (spPart K (n + 1)) := by
  refine F.ok sc_l_part (fun vs H Q E h => ?_) (fun cdv A outer s H vs Q E hr h => ?_)
  · obtain ⟨b, l, d, rfl, _⟩ := h
    rfl
  obtain ⟨b, l, d, rfl, BX, d0, d1, k⟩ := h
  refine ⟨_, (pss_cons (ps_set (i := 2) sc_l_part.nd rfl (Or.inl rfl) (pc_c C_l_take (hr.mono (by first | exact Nat.le_refl _ | decide | omega)) (by rfl) (pa_cons (pv 0) (pa_cons pe_int pa_nil))))
      (pss_cons (ps_if (PW.pt (pw_or (pt_cmpR op_eq (pv 1) pe_int (nomark _)) (pw_or1 (pt_cmpR op_lt (pv 2) pe_int (nomark _))))) (pss_cons (ps_if (pt_cmpR op_eq (pv 2) pe_int (nomark _)) (pss_one (ps_ret (pe_tup (pa_cons pe_str (pa_cons (pe_ix ix_list (pe_lst (pa_cons (pe_op op_sub (pc_c C_l_take (hr.mono (by first | exact Nat.le_refl _ | decide | omega)) (by rfl) (pa_cons (pv 0) (pa_cons pe_int pa_nil))) pe_int) (pa_cons (pe_op op_sub (pc_c C_l_take (hr.mono (by first | exact Nat.le_refl _ | decide | omega)) (by rfl) (pa_cons (pv 0) (pa_cons pe_int pa_nil))) pe_int) pa_nil))) (pc_c C_l_take (hr.mono (by first | exact Nat.le_refl _ | decide | omega)) (by rfl) (pa_cons (pv 0) (pa_cons pe_int pa_nil))) (fun _ _ => rfl)) pa_nil))))) pss_nil)
      (pss_one (ps_ret (pe_tup (pa_cons pe_str (pa_cons (pc_c C_l_cell (hr.mono (by first | exact Nat.le_refl _ | decide | omega)) (by rfl) (pa_cons (pv 0) pa_nil)) pa_nil)))))) pss_nil)
      (pss_cons (ps_if (pt_cmpR op_eq (pv 2) pe_int (nomark _)) (pss_cons (ps_set (i := 3) sc_l_part.nd rfl (Or.inl rfl) (pc_c C_l_cell (hr.mono (by first | exact Nat.le_refl _ | decide | omega)) (by rfl) (pa_cons (pv 0) pa_nil)))
      (pss_one (ps_ret (pe_tup (pa_cons pe_str (pa_cons (pv 3) (pa_cons (pc_c C_l_cell (hr.mono (by first | exact Nat.le_refl _ | decide | omega)) (by rfl) (pa_cons (pv 0) pa_nil)) pa_nil))))))) pss_nil)
      (pss_cons (ps_set (i := 3) sc_l_part.nd rfl (Or.inl rfl) (pc_c C_l_part (hr.mono (by first | exact Nat.le_refl _ | decide | omega)) (by rfl) (pa_cons (pv 0) (pa_cons (pe_op op_sub (pv 1) pe_int) pa_nil))))
      (pss_cons (ps_set (i := 4) sc_l_part.nd rfl (Or.inl rfl) (pc_c C_l_part (hr.mono (by first | exact Nat.le_refl _ | decide | omega)) (by rfl) (pa_cons (pv 0) (pa_cons (pe_op op_sub (pv 1) pe_int) pa_nil))))
      (pss_cons (ps_if (pt_cmpR op_eq (pv 2) pe_int (nomark _)) (pss_cons (ps_set (i := 5) sc_l_part.nd rfl (Or.inl rfl) (pc_c C_l_part (hr.mono (by first | exact Nat.le_refl _ | decide | omega)) (by rfl) (pa_cons (pv 0) (pa_cons (pe_op op_sub (pv 1) pe_int) pa_nil))))
      (pss_one (ps_ret (pe_tup (pa_cons pe_str (pa_cons (pv 3) (pa_cons (pv 4) (pa_cons (pv 5) (pa_cons (pc_c C_l_part (hr.mono (by first | exact Nat.le_refl _ | decide | omega)) (by rfl) (pa_cons (pv 0) (pa_cons (pe_op op_sub (pv 1) pe_int) pa_nil))) pa_nil))))))))) pss_nil)
      (pss_one (ps_ret (pe_tup (pa_cons (pe_ix ix_list (pe_lst (pa_cons pe_str (pa_cons pe_str (pa_cons pe_str (pa_cons pe_str pa_nil))))) (pe_op op_sub (pv 2) pe_int) (fun _ _ => rfl)) (pa_cons (pv 3) (pa_cons (pv 4) pa_nil)))))))))))), ?_⟩
  refine ⟨_, rfl, b, l, 9, rfl, BX, by decide, by decide, fun kd H1 k0 k1 B1 K1 => ?_⟩
  refine ⟨_, rfl, rfl, _, rfl, or_join (fun r => ⟨_, rfl, _, _, rfl, rfl, _, rfl, r⟩) (fun c => ?_) (fun c => ?_)⟩
  · refine ⟨_, rfl, rfl, _, rfl, ite2 (fun c1 => ?_) (fun c1 => ?_)⟩
    · refine ⟨_, rfl, b, l, 9, rfl, B1, by decide, by decide, fun r1 H2 a0 a1 B2 K2 => ⟨_, _, rfl, rfl, _, rfl, b, l, 1999999, rfl, B2, by decide, by decide, fun r2 H3 b0 b1 B3 K3 => ⟨_, _, rfl, rfl, small (by show 2 ≤ 1000; decide), fun p hp => ?_⟩⟩⟩
      have np := B3.new hp
      have B4 := B3.keep (same_new hp (.lst [V.int (r1 - 3), V.int (r2 - 999999)]))
      refine ⟨_, rfl, b, l, 2, rfl, B4, by decide, by decide, fun r3 H5 c0 c1 B5 K5 => ?_⟩
      have hp5 := K5 _ _ upd_same np.1 np.2
      have fin : ∀ (z : Int), -1000000 < z → z < 1000000 → ∀ t, H5 t = none → Q (.ref t) (upd H5 t (.tup [.str "num", .int z])) := fun z z0 z1 t ht =>
        k (.num z) _ _ ⟨z0, z1⟩ (by show 1 ≤ _; omega) ⟨t, rfl, SqT.of upd_same⟩ (B5.keep (same_new ht _)) ((K1.trans (K2.trans (K3.trans ((Keep.of (same_new hp _)).trans K5)))).trans (Keep.of (same_new ht _)))
      have hr3 : r3 = 0 ∨ r3 = 1 := by omega
      rcases hr3 with rfl | rfl
      · exact ⟨p, _, _, _, rfl, rfl, SqL.of hp5, rfl, small (by show 2 ≤ 1000; decide), fin _ (by omega) (by omega)⟩
      · exact ⟨p, _, _, _, rfl, rfl, SqL.of hp5, rfl, small (by show 2 ≤ 1000; decide), fin _ (by omega) (by omega)⟩
    · refine ⟨_, rfl, b, l, rfl, B1, fun ce H2 B2 K2 => ⟨small (by show 2 ≤ 1000; decide), fun t ht => ?_⟩⟩
      exact k (.cel ce) _ _ trivial (by show 1 ≤ _; omega) ⟨t, rfl, SqT.of upd_same⟩ (B2.keep (same_new ht _)) ((K1.trans K2).trans (Keep.of (same_new ht _)))
  · rw [dec_i] at c
    simp only [Bool.or_eq_false_iff, decide_eq_false_iff_not] at c
    obtain ⟨cd, ck⟩ := c
    refine ⟨_, rfl, rfl, _, rfl, ite2 (fun c1 => ?_) (fun c1 => ?_)⟩
    · refine ⟨_, rfl, b, l, rfl, B1, fun ce H2 B2 K2 => ⟨_, rfl, _, rfl, b, l, rfl, B2, fun de H3 B3 K3 => ⟨small (by show 3 ≤ 1000; decide), fun t ht => ?_⟩⟩⟩
      exact k (.sum ce de) _ _ trivial (by show 1 ≤ _; omega) ⟨t, rfl, SqT.of upd_same⟩ (B3.keep (same_new ht _)) ((K1.trans (K2.trans K3)).trans (Keep.of (same_new ht _)))
    · rw [dec_i, decide_eq_true_eq] at c1
      refine ⟨_, rfl, _, rfl, _, _, rfl, rfl, b, l, d - 1, rfl, B1, by omega, by omega, fun p x H2 gp hp ap B2 K2 => ?_⟩
      refine ⟨_, rfl, _, rfl, _, _, rfl, rfl, b, l, d - 1, rfl, B2, by omega, by omega, fun q y H3 gq hq aq B3 K3 => ?_⟩
      have ap3 := ap.tk (.keep B2 K3)
      refine ⟨_, rfl, rfl, _, rfl, ite2 (fun c2 => ?_) (fun c2 => ?_)⟩
      · refine ⟨_, rfl, _, rfl, _, _, rfl, rfl, b, l, d - 1, rfl, B3, by omega, by omega, fun r z H4 gr hr4 ar B4 K4 => ?_⟩
        refine ⟨_, rfl, _, rfl, _, rfl, _, rfl, _, rfl, _, _, rfl, rfl, b, l, d - 1, rfl, B4, by omega, by omega, fun s u H5 gs hs as B5 K5 => ⟨small (by show 5 ≤ 1000; decide), fun t ht => ?_⟩⟩
        have k6 : Tk K H5 (upd H5 t (.tup [.str "pick", x, y, z, u])) := .same (same_new ht _)
        refine k (.pick p q r s) _ _ ⟨gp, gq, gr, gs⟩ (by show max (max p.hgt q.hgt) (max r.hgt s.hgt) + 1 ≤ _; omega)
          ⟨t, x, y, z, u, rfl, SqT.of upd_same, ((ap3.tk (.keep B3 K4)).tk (.keep B4 K5)).tk k6, ((aq.tk (.keep B3 K4)).tk (.keep B4 K5)).tk k6, (ar.tk (.keep B4 K5)).tk k6, as.tk k6⟩
          (B5.keep (same_new ht _)) ((K1.trans (K2.trans (K3.trans (K4.trans K5)))).trans (Keep.of (same_new ht _)))
      · rw [dec_i, decide_eq_true_eq] at c2
        refine ⟨small (by show 4 ≤ 1000; decide), fun p4 hp4 => ?_⟩
        have fin : ∀ (w3 : W3) t, upd H3 p4 (.lst [.str "add", .str "sub", .str "mul", .str "add"]) t = none → Q (.ref t) (upd (upd H3 p4 (.lst [.str "add", .str "sub", .str "mul", .str "add"])) t (.tup [.str w3.s, x, y])) := fun w3 t ht => by
          have k6 : Tk K H3 (upd (upd H3 p4 (.lst [.str "add", .str "sub", .str "mul", .str "add"])) t (.tup [.str w3.s, x, y])) := (Tk.same (same_new hp4 _)).trans (.same (same_new ht _))
          exact k (.op w3 p q) _ _ ⟨gp, gq⟩ (by show max p.hgt q.hgt + 1 ≤ _; omega) ⟨t, x, y, rfl, SqT.of upd_same, ap3.tk k6, aq.tk k6⟩ ((B3.keep (same_new hp4 _)).keep (same_new ht _))
            ((K1.trans (K2.trans K3)).trans ((Keep.of (same_new hp4 _)).trans (Keep.of (same_new ht _))))
        have hk : kd = 5 ∨ kd = 6 ∨ kd = 7 ∨ kd = 8 := by omega
        rcases hk with rfl | rfl | rfl | rfl
        · exact ⟨_, rfl, _, _, rfl, rfl, p4, _, _, _, rfl, rfl, SqL.of upd_same, rfl, _, rfl, _, rfl, small (by show 3 ≤ 1000; decide), fin .add⟩
        · exact ⟨_, rfl, _, _, rfl, rfl, p4, _, _, _, rfl, rfl, SqL.of upd_same, rfl, _, rfl, _, rfl, small (by show 3 ≤ 1000; decide), fin .sub⟩
        · exact ⟨_, rfl, _, _, rfl, rfl, p4, _, _, _, rfl, rfl, SqL.of upd_same, rfl, _, rfl, _, rfl, small (by show 3 ≤ 1000; decide), fin .mul⟩
        · exact ⟨_, rfl, _, _, rfl, rfl, p4, _, _, _, rfl, rfl, SqL.of upd_same, rfl, _, rfl, _, rfl, small (by show 3 ≤ 1000; decide), fin .add⟩
theorem cal_lpart {f : Addr} {fd : FuncData} (F : Fun K "_law_part" "_law_part" s_l_part f fd) (Ct : Cal P w K mg base 1 "_law_take" ["_law_box", "_law_many_here"] spTake) (Cc : Cal P w K mg base 2 "_law_cell" ["_law_box"] spCell)
    (m : mg "_law_part" = some (.ref f)) (b : Binds K fd ["_law_box", "_law_deep"] []) : ∀ n : Nat, Cal P w K mg base (n + 2) "_law_part" ["_law_box", "_law_deep"] (spPart K n)
  | 0 => by
    have no : ∀ vs H Q E, ¬ spPart K 0 vs H Q E := fun vs H Q E ⟨_, _, _, _, _, _, h, _⟩ => Nat.not_lt_zero _ h
    exact ⟨f, fd, ⟨fun vs H Q E h => absurd h (no vs H Q E), fun A outer s H args us vs Q E _ _ _ _ h => absurd h (no vs H Q E)⟩, m, F.kp, b⟩
  | n + 1 => ⟨f, fd, ok_lpart F Ct Cc (cal_lpart F Ct Cc m b n), m, F.kp, b⟩
end
end U

namespace U
open PySem L2 PyProof.Rows
section
variable {P : Program} {w : World} {K : PySem.W.Frag} {mg : Str → Option Value} {base : Heap}
theorem ok_lpart_text {n : Nat} {f : Addr} {fd : FuncData} (F : Fun K "_law_part_text" "_law_part_text" s_l_part_text f fd) (B : Bt mg) (C_l_part_text : Cal P w K mg base n "_law_part_text" ["_law_part_here"] (spPT K n)) : FnOk P w K mg base CX0 (n + 1) f fd ["_law_part_here"] (spPT K (n + 1)) := by
  refine F.ok sc_l_part_text (fun vs H Q E h => ?_) (fun cdv A outer s H vs Q E hr h => ?_)
  · obtain ⟨p, v, rfl, _⟩ := h
    rfl
  obtain ⟨p, v, rfl, ap, gp, hp, hp8, k⟩ := h
  refine ⟨_, (pss_cons (ps_if (pt_cmpR op_in_seq (pe_ix ix_tup (pv 0) pe_int (fun _ _ => rfl)) (pe_tup (pa_cons pe_str (pa_cons pe_str pa_nil))) (nomarkIn _)) (pss_one (ps_ret (pe_callTy call_str_any (by rfl) B.str boot_str (pa_cons (pe_ix ix_tup (pv 0) pe_int (fun _ _ => rfl)) pa_nil)))) pss_nil)
      (pss_cons (ps_if (pt_cmpR op_eq (pe_ix ix_tup (pv 0) pe_int (fun _ _ => rfl)) pe_str (nomark _)) (pss_one (ps_ret (pe_op op_add_str (pe_op op_add_str (pe_op op_add_str pe_str (pe_ix ix_tup (pv 0) pe_int (fun _ _ => rfl))) pe_str) (pe_ix ix_tup (pv 0) pe_int (fun _ _ => rfl))))) pss_nil)
      (pss_one (ps_ret (pe_op op_add_str (pe_op op_add_str (pe_ix ix_tup (pv 0) pe_int (fun _ _ => rfl)) pe_str) (pe_bm PySem.F.plainAttrs_str PySem.F.slot_str_join PySem.F.type_str_join mt_join pe_str (pa_cons (pe_lc (own := [("_law_one", 1)])  rfl sc_l_part_text.nd (pi_tup (pe_slice sl_tup (pv 0) (po_some pe_int) po_none)) (blkOk_by (N := ["_law_part_here", "_law_one"]) (sc := defScope s_l_part_text) (by decide +kernel)) (fun _ _ _ _ _ => pg_name (i := 1) sc_l_part_text.nd rfl (Or.inl rfl)) (fun _ _ _ _ _ => pts_nil) (fun _ _ _ _ _ => (pc_c C_l_part_text (hr.mono (by first | exact Nat.le_refl _ | decide | omega)) (by rfl) (pa_cons (pv 1) pa_nil)))) pa_nil))))))), ?_⟩
  obtain ⟨a0, xs0, rfl, hT⟩ := ap.head
  refine ⟨_, rfl, a0, _, _, _, rfl, rfl, hT, at0, small (by show 2 ≤ 1000; decide), fun t ht => ?_⟩
  have s1 : Same H (upd H t (.tup [.str "num", .str "cell"])) := same_new ht _
  have t1 : Tk K H (upd H t (.tup [.str "num", .str "cell"])) := .same s1
  refine ⟨t, _, rfl, .inr (SqT.of upd_same), rfl, rfl, ?_⟩
  generalize upd H t (.tup [.str "num", .str "cell"]) = H1 at s1 t1 ⊢
  rw [show (if false = true then !inV (.str p.word) [.str "num", .str "cell"] else inV (.str p.word) [.str "num", .str "cell"]) = (p.isNum || p.isCel) from inW p]
  refine ⟨_, rfl, ?_⟩
  rcases p.kinds with ⟨n, rfl⟩ | ⟨c, rfl⟩ | ⟨c, d, rfl⟩ | o
  · refine iteT ?_
    obtain ⟨a, e, h1⟩ := ap
    cases e
    refine ⟨_, rfl, a0, _, _, _, rfl, rfl, t1 _ _ h1, rfl, .inl ⟨n, rfl, log_ok gp.1 gp.2, ?_⟩⟩
    have e : (toString n : Str) = SX.S (Part.num n).tx := numS_nl n
    rw [e]
    exact k _ s1
  · refine iteT ?_
    obtain ⟨a, e, h1⟩ := ap
    cases e
    exact ⟨_, rfl, a0, _, _, _, rfl, rfl, t1 _ _ h1, rfl, .inr ⟨_, rfl, k _ s1⟩⟩
  · refine iteF ?_
    obtain ⟨a, e, h1⟩ := ap
    cases e
    refine ⟨_, rfl, a0, _, _, _, rfl, rfl, t1 _ _ h1, rfl, rfl, _, rfl, ?_⟩
    refine iteT ?_
    refine ⟨_, rfl, a0, _, _, _, rfl, rfl, t1 _ _ h1, rfl, _, _, rfl, rfl, small (by show 6 ≤ 1000; decide), _, _, rfl, rfl, small (by show 7 ≤ 1000; decide), _, rfl, a0, _, _, _, rfl, rfl, t1 _ _ h1, rfl, _, _, rfl, rfl, small (by show 9 ≤ 1000; decide), ?_⟩
    rw [sumS_, blank_eq]
    show Q (.str (SX.S (sumL ++ [32]) ++ SX.S c.l ++ SX.S [32] ++ SX.S d.l)) H1
    rw [S_app, S_app, S_app]
    exact k _ s1
  · obtain ⟨n1, n2, n3⟩ := Part.op_not o
    rw [n1, n2]
    refine iteF ?_
    obtain ⟨a, xs, e, h1, h2⟩ := ap.node o
    cases e
    refine ⟨_, rfl, a0, _, _, _, rfl, rfl, t1 _ _ h1, at0, rfl, _, rfl, ?_⟩
    rw [dec_s, p.w_sum, n3]
    refine iteF ?_
    have wl4 := p.wd_len
    rw [Part.wd_eq o] at h1
    refine ⟨_, rfl, a0, _, _, _, rfl, rfl, t1 _ _ h1, at0, _, _, rfl, rfl, ?_, rfl, _, rfl, 1, rfl, a0, _, rfl, t1 _ _ h1, ?_, fun q hq => ⟨q, rfl, ⟨_, SqT.of upd_same⟩, fun D hD => ?_⟩⟩
    · rw [blank_eq, S_length]
      exact small (by show p.wd.length + 1 ≤ 1000; omega)
    · exact sl1_ne _ _
    · rw [cut1] at hD ⊢
      have gk : ∀ z ∈ p.kids, z.good ∧ z.hgt ≤ 8 := fun z hz => ⟨Part.kid_good gp hz, by have := Part.kid_hgt hz; omega⟩
      have s2 : Same H1 (upd H1 q (.tup xs)) := same_new hq _
      have q2 : SqT K (upd H1 q (.tup xs)) q xs := SqT.of upd_same
      generalize upd H1 q (.tup xs) = H2 at s2 q2 hD ⊢
      refine lc_tup (K := K) (a := q) (xs := xs) (fun i H4 => Same H2 H4 ∧ H4 D = some (.lst ((p.kids.take i).map fun z => V.str (SX.S z.tx)))) ⟨same_new hD _, upd_same⟩ (fun i H4 _ h => Tk.same h.1 _ _ q2) ?_ ?_
      · rintro i x H4 hx ⟨s4, d4⟩
        obtain ⟨z, hz, az⟩ := h2.get hx
        have mz : z ∈ p.kids := List.mem_of_getElem? hz
        have gz := gk z mz
        have hz' := Part.kid_hgt mz
        refine ⟨wipe_in (by decide), yes_ ?_⟩
        refine ⟨_, rfl, z, x, rfl, az.tk ((t1.trans (.same s2)).trans (.same s4)), gz.1, by omega, gz.2, fun H5 s5 => ⟨_, s5 _ _ d4, ?_, ?_⟩⟩
        · rw [List.length_map, List.length_take]
          have := p.kids_len
          exact small1000 (by omega)
        · refine ⟨fun c o e => by rw [upd_ne (ne_of_none e hD)]; exact s5 _ _ (s4 c o e), ?_⟩
          rw [upd_same, take_next hz, List.map_append]
          rfl
      · rintro H4 ⟨s4, d4⟩
        rw [h2.len, List.take_length] at d4
        refine ⟨_, D, p.kids.map (fun z => SX.S z.tx), rfl, rfl, .inl (SqL.of (by rw [d4, List.map_map]; rfl)), kids_size p.kids_len gk, _, _, rfl, rfl, ?_, ?_⟩
        · rw [join_kids, blank_eq, S_app, S_length, S_length]
          have e := Part.tx_kids o
          have l := Part.tx_le gp hp8
          rw [e] at l
          simp only [List.length_append] at l ⊢
          rw [sizeLine_eq]
          omega
        · rw [join_kids, blank_eq, S_app, S_app, List.append_assoc, ← Part.tx_kids o]
          exact k _ ((s1.trans s2).trans s4)
theorem cal_lpart_text {f : Addr} {fd : FuncData} (F : Fun K "_law_part_text" "_law_part_text" s_l_part_text f fd) (B : Bt mg) (m : mg "_law_part_text" = some (.ref f)) (b : Binds K fd ["_law_part_here"] []) : ∀ n : Nat, Cal P w K mg base n "_law_part_text" ["_law_part_here"] (spPT K n)
  | 0 => by
    have no : ∀ vs H Q E, ¬ spPT K 0 vs H Q E := fun vs H Q E ⟨p, _, _, _, _, h, _⟩ => by
      have := p.hgt_pos
      omega
    exact ⟨f, fd, ⟨fun vs H Q E h => absurd h (no vs H Q E), fun A outer s H args us vs Q E _ _ _ _ h => absurd h (no vs H Q E)⟩, m, F.kp, b⟩
  | n + 1 => ⟨f, fd, ok_lpart_text F B (cal_lpart_text F B m b n), m, F.kp, b⟩
end
end U

namespace U
open PySem L2 PyProof.Rows
section
variable {P : Program} {w : World} {K : PySem.W.Frag} {mg : Str → Option Value} {base : Heap}
theorem ok_lcontent {n : Nat} {f : Addr} {fd : FuncData} (F : Fun K "_law_content" "_law_content" s_l_content f fd) (C_l_take : Cal P w K mg base 1 "_law_take" ["_law_box", "_law_many_here"] spTake)
    (C_l_part : Cal P w K mg base (n + 2) "_law_part" ["_law_box", "_law_deep"] (spPart K n)) : FnOk P w K mg base CX0 (n + 3) f fd ["_law_box", "_law_deep"] (spContent K n) := by
  refine F.ok sc_l_content (fun vs H Q E h => ?_) (fun cdv A outer s H vs Q E hr h => ?_)
  · obtain ⟨b, l, d, rfl, _⟩ := h
    rfl
  obtain ⟨b, l, d, rfl, BX, d0, d1, k⟩ := h
  refine ⟨_, (pss_cons (ps_set (i := 2) sc_l_content.nd rfl (Or.inl rfl) (pc_c C_l_take (hr.mono (by first | exact Nat.le_refl _ | decide | omega)) (by rfl) (pa_cons (pv 0) (pa_cons pe_int pa_nil))))
      (pss_cons (ps_if (pt_cmpR op_eq (pv 2) pe_int (nomark _)) (pss_one (ps_ret pe_non)) pss_nil)
      (pss_cons (ps_if (pt_cmpR op_eq (pv 2) pe_int (nomark _)) (pss_one (ps_ret (pe_tup (pa_cons pe_str (pa_cons (pe_ix ix_list (pe_lst (pa_cons (pe_op op_sub (pc_c C_l_take (hr.mono (by first | exact Nat.le_refl _ | decide | omega)) (by rfl) (pa_cons (pv 0) (pa_cons pe_int pa_nil))) pe_int) (pa_cons (pe_op op_sub (pc_c C_l_take (hr.mono (by first | exact Nat.le_refl _ | decide | omega)) (by rfl) (pa_cons (pv 0) (pa_cons pe_int pa_nil))) pe_int) pa_nil))) (pc_c C_l_take (hr.mono (by first | exact Nat.le_refl _ | decide | omega)) (by rfl) (pa_cons (pv 0) (pa_cons pe_int pa_nil))) (fun _ _ => rfl)) pa_nil))))) pss_nil)
      (pss_cons (ps_set (i := 3) sc_l_content.nd rfl (Or.inl rfl) (pc_c C_l_part (hr.mono (by first | exact Nat.le_refl _ | decide | omega)) (by rfl) (pa_cons (pv 0) (pa_cons (pv 1) pa_nil))))
      (pss_one (ps_ret (pe_ifExp (pt_cmpR op_eq (pe_ix ix_tup (pv 3) pe_int (fun _ _ => rfl)) pe_str (nomark _)) (pe_tup (pa_cons pe_str (pa_cons pe_str pa_nil))) (pv 3)))))))), ?_⟩
  refine ⟨_, rfl, b, l, 5, rfl, BX, by decide, by decide, fun kd H1 k0 k1 B1 K1 => ?_⟩
  refine ⟨_, rfl, rfl, _, rfl, ite2 (fun c0 => ?_) (fun c0 => ?_)⟩
  · exact k none _ _ trivial rfl B1 K1
  refine ⟨_, rfl, rfl, _, rfl, ite2 (fun c1 => ?_) (fun c1 => ?_)⟩
  · refine ⟨_, rfl, b, l, 9, rfl, B1, by decide, by decide, fun r1 H2 a0 a1 B2 K2 => ⟨_, _, rfl, rfl, _, rfl, b, l, 1999999, rfl, B2, by decide, by decide, fun r2 H3 b0 b1 B3 K3 => ⟨_, _, rfl, rfl, small (by show 2 ≤ 1000; decide), fun p hp => ?_⟩⟩⟩
    have np := B3.new hp
    have B4 := B3.keep (same_new hp (.lst [V.int (r1 - 3), V.int (r2 - 999999)]))
    refine ⟨_, rfl, b, l, 2, rfl, B4, by decide, by decide, fun r3 H5 c0 c1 B5 K5 => ?_⟩
    have hp5 := K5 _ _ upd_same np.1 np.2
    have fin : ∀ (z : Int), -1000000 < z → z < 1000000 → ∀ t, H5 t = none → Q (.ref t) (upd H5 t (.tup [.str "num", .int z])) := fun z z0 z1 t ht =>
      k (some (.num z)) _ _ ⟨⟨z0, z1⟩, by show 1 ≤ _; omega⟩ ⟨t, rfl, SqT.of upd_same⟩ (B5.keep (same_new ht _)) ((K1.trans (K2.trans (K3.trans ((Keep.of (same_new hp _)).trans K5)))).trans (Keep.of (same_new ht _)))
    have hr3 : r3 = 0 ∨ r3 = 1 := by omega
    rcases hr3 with rfl | rfl
    · exact ⟨p, _, _, _, rfl, rfl, SqL.of hp5, rfl, small (by show 2 ≤ 1000; decide), fin _ (by omega) (by omega)⟩
    · exact ⟨p, _, _, _, rfl, rfl, SqL.of hp5, rfl, small (by show 2 ≤ 1000; decide), fin _ (by omega) (by omega)⟩
  · refine ⟨_, rfl, _, rfl, b, l, d, rfl, B1, d0, d1, fun p v H2 gp hp ap B2 K2 => ?_⟩
    obtain ⟨a, xs, rfl, hT⟩ := ap.head
    refine ⟨_, rfl, a, _, _, _, rfl, rfl, hT, at0, rfl, _, rfl, ?_⟩
    refine ite2 (fun c2 => ?_) (fun c2 => ?_)
    · refine ⟨small (by show 2 ≤ 1000; decide), fun t ht => ?_⟩
      exact k (some (.cel ⟨0, 0, by decide, by decide⟩)) _ _ ⟨trivial, by show 1 ≤ _; omega⟩ ⟨t, rfl, SqT.of (by rw [upd_same, show (⟨0, 0, by decide, by decide⟩ : Cel).s = ("a1" : Str) by decide +kernel] <;> rfl)⟩ (B2.keep (same_new ht _)) ((K1.trans K2).trans (Keep.of (same_new ht _)))
    · exact ⟨_, rfl, k (some p) _ _ ⟨gp, hp⟩ ap B2 (K1.trans K2)⟩
theorem ok_ltext {f : Addr} {fd : FuncData} (F : Fun K "_law_text" "_law_text" s_l_text f fd) (B : Bt mg) (C_l_part_text : Cal P w K mg base 8 "_law_part_text" ["_law_part_here"] (spPT K 8)) : FnOk P w K mg base CX0 9 f fd ["_law_content_here"] (spText K) := by
  refine F.ok sc_l_text (fun vs H Q E h => ?_) (fun cdv A outer s H vs Q E hr h => ?_)
  · obtain ⟨p, v, rfl, _⟩ := h
    rfl
  obtain ⟨p, v, rfl, ap, gp, k⟩ := h
  refine ⟨_, (pss_cons (ps_if (pt_cmpR op_isN (pv 0) pe_non (nomark _)) (pss_one (ps_ret pe_str)) pss_nil)
      (pss_one (ps_ret (pe_ifExp (pt_cmpR op_eq (pe_ix ix_tup (pv 0) pe_int (fun _ _ => rfl)) pe_str (nomark _)) (pc_c C_l_part_text (hr.mono (by first | exact Nat.le_refl _ | decide | omega)) (by rfl) (pa_cons (pv 0) pa_nil)) (pe_op op_add_str pe_str (pc_c C_l_part_text (hr.mono (by first | exact Nat.le_refl _ | decide | omega)) (by rfl) (pa_cons (pv 0) pa_nil))))))), ?_⟩
  cases p with
  | none =>
    cases (show v = V.non from ap)
    exact ⟨_, rfl, rfl, _, rfl, iteT (k _ (.refl H))⟩
  | some p =>
    have ap : PA K H p v := ap
    obtain ⟨a, xs, rfl, hT⟩ := ap.head
    refine ⟨_, rfl, rfl, _, rfl, iteF ?_⟩
    refine ⟨_, rfl, a, _, _, _, rfl, rfl, hT, at0, rfl, _, rfl, ?_⟩
    rw [dec_s, p.w_num]
    by_cases o : p.isNum = true
    · rw [o]
      refine iteT ?_
      refine ⟨_, rfl, p, _, rfl, ap, gp.1, gp.2, gp.2, fun H' s' => ?_⟩
      have e : SX.S p.tx = SX.S (ctx (some p)) := by
        cases p with
        | num n => rfl
        | _ => exact absurd o Bool.false_ne_true
      rw [e]
      exact k _ s'
    · have o : p.isNum = false := Bool.eq_false_iff.mpr o
      rw [o]
      refine iteF ?_
      refine ⟨_, rfl, p, _, rfl, ap, gp.1, gp.2, gp.2, fun H' s' => ⟨_, _, rfl, rfl, ?_, ?_⟩⟩
      · rw [eqS, S_length, S_length]
        have := Part.tx_le gp.1 gp.2
        rw [sizeLine_eq]
        simp only [List.length_cons, List.length_nil]
        omega
      · rw [eqS, S_app, ← ctx_not o]
        exact k _ s'
theorem ok_lreads {n : Nat} {f : Addr} {fd : FuncData} (F : Fun K "_law_reads" "_law_reads" s_l_reads f fd) (C_l_stretch : Cal P w K mg base 1 "_law_stretch" ["_law_one", "_law_other"] spStretchL)
    (C_l_reads : Cal P w K mg base (n + 1) "_law_reads" ["_law_content_here"] (spReads K n)) : FnOk P w K mg base CX0 (n + 1 + 1) f fd ["_law_content_here"] (spReads K (n + 1)) := by
  refine F.ok sc_l_reads (fun vs H Q E h => ?_) (fun cdv A outer s H vs Q E hr h => ?_)
  · obtain ⟨p, v, rfl, _⟩ := h
    rfl
  obtain ⟨p, v, rfl, ap, hp, _, k⟩ := h
  refine ⟨_, (pss_cons (ps_if (PW.pt (pw_or (pt_cmpR op_isN (pv 0) pe_non (nomark _)) (pw_or1 (pt_cmpR op_eq (pe_ix ix_tup (pv 0) pe_int (fun _ _ => rfl)) pe_str (nomark _))))) (pss_one (ps_ret (pe_lst pa_nil))) pss_nil)
      (pss_cons (ps_if (pt_cmpR op_eq (pe_ix ix_tup (pv 0) pe_int (fun _ _ => rfl)) pe_str (nomark _)) (pss_one (ps_ret (pe_lst (pa_cons (pe_ix ix_tup (pv 0) pe_int (fun _ _ => rfl)) pa_nil)))) pss_nil)
      (pss_cons (ps_if (pt_cmpR op_eq (pe_ix ix_tup (pv 0) pe_int (fun _ _ => rfl)) pe_str (nomark _)) (pss_one (ps_ret (pc_c C_l_stretch (hr.mono (by first | exact Nat.le_refl _ | decide | omega)) (by rfl) (pa_cons (pe_ix ix_tup (pv 0) pe_int (fun _ _ => rfl)) (pa_cons (pe_ix ix_tup (pv 0) pe_int (fun _ _ => rfl)) pa_nil))))) pss_nil)
      (pss_cons (ps_set (i := 1) sc_l_reads.nd rfl (Or.inl rfl) (pe_lst pa_nil))
      (pss_cons (ps_for PassesOwn.never rfl (pi_tup (pe_slice sl_tup (pv 0) (po_some pe_int) po_none)) (pg_name (i := 2) sc_l_reads.nd rfl (Or.inl rfl)) (pss_one (ps_for PassesOwn.never rfl (pi_list (pc_c C_l_reads (hr.mono (by first | exact Nat.le_refl _ | decide | omega)) (by rfl) (pa_cons (pv 2) pa_nil))) (pg_name (i := 3) sc_l_reads.nd rfl (Or.inl rfl)) (pss_one (ps_if (pt_cmpR op_notIn_seq (pv 3) (pv 1) (nomarkIn _)) (pss_one (ps_expr (pe_bm PySem.F.plainAttrs_list PySem.F.slot_list_append PySem.F.type_list_append mt_append (pv 1) (pa_cons (pv 3) pa_nil)))) pss_nil)))))
      (pss_one (ps_ret (pv 1)))))))), ?_⟩
  cases p with
  | none =>
    cases (show v = V.non from ap)
    exact ⟨_, rfl, rfl, _, rfl, iteT (iteT ⟨small (by decide), fun r hr => k r _ hr (same_new hr _) upd_same⟩)⟩
  | some p =>
    have ap : PA K H p v := ap
    obtain ⟨hn, h8⟩ := hp p rfl
    obtain ⟨a, xs0, rfl, hT⟩ := ap.head
    refine ⟨_, rfl, rfl, _, rfl, iteF ⟨_, rfl, a, _, _, _, rfl, rfl, hT, at0, rfl, _, rfl, ?_⟩⟩
    rw [dec_s, p.w_num]
    rcases p.kinds with ⟨m, rfl⟩ | ⟨c, rfl⟩ | ⟨c, d, rfl⟩ | o
    · exact iteT ⟨small (by decide), fun r hr => k r _ hr (same_new hr _) upd_same⟩
    · refine iteF ?_
      obtain ⟨a', e, h1⟩ := ap
      cases e
      exact ⟨_, rfl, a, _, _, _, rfl, rfl, h1, at0, rfl, _, rfl, iteT ⟨_, rfl, a, _, _, _, rfl, rfl, h1, rfl, small (by show 1 ≤ 1000; decide), fun r hr => k r _ hr (same_new hr _) upd_same⟩⟩
    · refine iteF ?_
      obtain ⟨a', e, h1⟩ := ap
      cases e
      refine ⟨_, rfl, a, _, _, _, rfl, rfl, h1, at0, rfl, _, rfl, iteF ⟨_, rfl, a, _, _, _, rfl, rfl, h1, at0, rfl, _, rfl, iteT ⟨_, rfl, a, _, _, _, rfl, rfl, h1, rfl, _, rfl, a, _, _, _, rfl, rfl, h1, rfl, c, d, rfl, fun r H' hr s' hr' => k r _ hr s' ?_⟩⟩⟩
      have e : readsC (some (Part.sum c d)) = strL c d := dedupe_nodup (acc := []) (l := strL c d) (by rw [List.nil_append]; exact strL_nodup c d)
      rw [e]
      exact hr'
    · obtain ⟨n1, n2, n3⟩ := Part.op_not o
      rw [n1]
      refine iteF ?_
      refine ⟨_, rfl, a, _, _, _, rfl, rfl, hT, at0, rfl, _, rfl, ?_⟩
      rw [dec_s, p.w_cell, n2]
      refine iteF ?_
      refine ⟨_, rfl, a, _, _, _, rfl, rfl, hT, at0, rfl, _, rfl, ?_⟩
      rw [dec_s, p.w_sum, n3]
      refine iteF ?_
      obtain ⟨a', xs, e, h1, h2⟩ := ap.node o
      cases e
      refine ⟨small (by decide), fun r hr => ?_⟩
      have s1 : Same H (upd H r (.lst [])) := same_new hr _
      have r1 : upd H r (.lst []) r = some (.lst []) := upd_same
      generalize upd H r (.lst []) = H1 at s1 r1 ⊢
      refine ⟨_, rfl, 1, rfl, a, _, rfl, Tk.same s1 _ _ h1, sl1_ne _ _, fun q hq => ⟨q, rfl, ⟨_, SqT.of upd_same⟩, ?_⟩⟩
      rw [cut1]
      have s2 : Same H1 (upd H1 q (.tup xs)) := same_new hq _
      have q2 : SqT K (upd H1 q (.tup xs)) q xs := SqT.of upd_same
      have r2 := s2 _ _ r1
      generalize upd H1 q (.tup xs) = H2 at s2 q2 r2 ⊢
      have h3 : PAs K H2 p.kids xs := h2.tk (.same (s1.trans s2))
      -- Keep r r: all but the list of what is found
      have tk : ∀ {G G' : Hp} {ys : List V}, G r = some (.lst ys) → Keep r r G G' → Tk K G G' := fun {G G' ys} g kp a0 zs h => by
        rcases h with (h | ⟨o, h⟩) | h
        · have ne : a0 ≠ r := ne_of h g (by intro z; cases z)
          exact .inl (.inl (kp _ _ h ne ne))
        · have ne : a0 ≠ r := ne_of h g (by intro z; cases z)
          exact .inl (.inr ⟨o, kp _ _ h ne ne⟩)
        · exact .inr h
      refine for_tup (K := K) (a := q) (xs := xs) (fun i σ H4 => ∃ (v : Option V) (u : Option V), σ = [some (.ref a), some (.ref r), v, u] ∧ Keep r r H2 H4 ∧ H4 r = some (.lst ((((p.kids.take i).flatMap Part.cells).foldl addU []).map V.str)))
        ⟨none, none, rfl, .refl _ _ _, r2⟩ (fun i σ H4 _ ⟨_, _, _, k4, _⟩ => tk r2 k4 _ _ q2) ?_ ?_
      · rintro i x σ H4 hx ⟨v, u, rfl, k4, r4⟩
        obtain ⟨z, hz, az⟩ := h3.get hx
        have mz : z ∈ p.kids := List.mem_of_getElem? hz
        have hz' := Part.kid_hgt mz
        have tot : ∀ j : Nat, ((p.kids.take j).flatMap Part.cells).length ≤ 3600000 := fun j => by
          have h5 := Part.cells_le h8
          rw [Part.cells_kids o] at h5
          have h6 : (p.kids.take j).flatMap Part.cells ++ (p.kids.drop j).flatMap Part.cells = p.kids.flatMap Part.cells := by rw [← List.flatMap_append, List.take_append_drop]
          rw [← h6, List.length_append] at h5
          omega
        refine ⟨_, rfl, some z, x, rfl, az.tk (tk r2 k4), (fun y e => by cases e; exact ⟨by omega, by omega⟩), by omega, fun D H5 hD s5 hD5 => ?_⟩
        have r5 := s5 _ _ r4
        have nDr : D ≠ r := (ne_of_none r4 hD).symm
        refine ⟨D, rfl, ⟨_, SqL.of hD5⟩, for_list (K := K) (a := D) (xs := (readsC (some z)).map V.str) (fun j σ H6 => ∃ u : Option V, σ = [some (.ref a), some (.ref r), some x, u] ∧ Keep r r H5 H6 ∧ H6 r = some (.lst ((((readsC (some z)).take j).foldl addU (((p.kids.take i).flatMap Part.cells).foldl addU [])).map V.str)))
          ⟨u, rfl, .refl _ _ _, r5⟩ (fun j σ H6 _ ⟨_, _, k6, _⟩ => SqL.of (k6 _ _ hD5 nDr nDr)) ?_ ?_⟩
        · rintro j y σ H6 hy ⟨u, rfl, k6, r6⟩
          obtain ⟨t, ht, rfl⟩ : ∃ t, (readsC (some z))[j]? = some t ∧ y = V.str t := by
            rw [List.getElem?_map] at hy
            cases e : (readsC (some z))[j]? with
            | none => rw [e] at hy; cases hy
            | some t => rw [e] at hy; exact ⟨t, rfl, (Option.some.inj hy).symm⟩
          refine ⟨_, rfl, _, rfl, r, _, rfl, .inl (SqL.of r6), rfl, flat_strs _, _, rfl, ?_⟩
          generalize hacc : ((readsC (some z)).take j).foldl addU (((p.kids.take i).flatMap Part.cells).foldl addU []) = acc at r6 ⊢
          have nxt : ((readsC (some z)).take (j + 1)).foldl addU (((p.kids.take i).flatMap Part.cells).foldl addU []) = addU acc t := by
            rw [take_next ht, List.foldl_append, hacc]
            rfl
          rw [show (if true = true then !inV (.str t) (acc.map V.str) else inV (.str t) (acc.map V.str)) = !decide (t ∈ acc) from by rw [if_pos rfl, inS]]
          by_cases m : t ∈ acc
          · rw [decide_eq_true m]
            refine iteF ?_
            exact ⟨_, rfl, k6, by rw [nxt, addU, if_pos m]; exact r6⟩
          · rw [decide_eq_false m]
            refine iteT ?_
            refine ⟨_, rfl, .inl ⟨rfl, _, SqL.of r6⟩, _, rfl, r, _, _, rfl, rfl, r6, ?_, ?_⟩
            · rw [List.length_map, ← hacc]
              have h5 := foldU_len ((readsC (some z)).take j) (((p.kids.take i).flatMap Part.cells).foldl addU [])
              have h6 := foldU_len ((p.kids.take i).flatMap Part.cells) []
              have h7 := foldU_len z.cells []
              have h8' := Part.cells_le (p := z) (by omega)
              have h9 := tot i
              have h10 : ((readsC (some z)).take j).length ≤ z.cells.length := by
                rw [List.length_take]
                have : (readsC (some z)).length ≤ z.cells.length := by simpa [readsC, Part.reads, dedupe] using h7
                omega
              rw [sizeLine_eq]
              simp only [List.length_nil, Nat.zero_add] at h6
              omega
            · exact ⟨_, rfl, fun c o e n m => by rw [upd_ne n]; exact k6 c o e n m, by rw [upd_same, nxt, addU, if_neg m, List.map_append] <;> rfl⟩
        · rintro σ H6 ⟨u, rfl, k6, r6⟩
          refine ⟨_, _, rfl, fun c o e n m => k6 c o (s5 c o (k4 c o e n m)) n m, ?_⟩
          rw [r6, List.length_map, List.take_length, take_next hz, List.flatMap_append, List.foldl_append]
          show some (HO.lst (((dedupe z.cells).foldl addU _).map V.str)) = _
          rw [fold_dedupe]
          simp
      · rintro σ H4 ⟨v, u, rfl, k4, r4⟩
        refine ⟨_, rfl, k r H4 hr (fun c o e => ?_) ?_⟩
        · have ne : c ≠ r := ne_of_none e hr
          exact k4 c o (s2 c o (s1 c o e)) ne ne
        · rw [r4, h3.len, List.take_length, ← Part.cells_kids o]
          rfl
theorem cal_lreads {f : Addr} {fd : FuncData} (F : Fun K "_law_reads" "_law_reads" s_l_reads f fd) (Cs : Cal P w K mg base 1 "_law_stretch" ["_law_one", "_law_other"] spStretchL) (m : mg "_law_reads" = some (.ref f)) (b : Binds K fd ["_law_content_here"] []) : ∀ n : Nat, Cal P w K mg base (n + 1) "_law_reads" ["_law_content_here"] (spReads K n)
  | 0 => by
    have no : ∀ vs H Q E, ¬ spReads K 0 vs H Q E := fun vs H Q E ⟨p, _, _, _, _, h, _⟩ => Nat.lt_irrefl _ h
    exact ⟨f, fd, ⟨fun vs H Q E h => absurd h (no vs H Q E), fun A outer s H args us vs Q E _ _ _ _ h => absurd h (no vs H Q E)⟩, m, F.kp, b⟩
  | n + 1 => ⟨f, fd, ok_lreads F Cs (cal_lreads F Cs m b n), m, F.kp, b⟩
end
end U

namespace U
open PySem L2 PyProof.Rows
section
variable {P : Program} {w : World} {K : PySem.W.Frag} {mg : Str → Option Value} {base : Heap}
theorem ok_is_cell {f : Addr} {fd : FuncData} (F : Fun K "is_cell" "is_cell" s_is_cell f fd) (B : Bt mg) (g_COLUMNS : GStr mg "COLUMNS" "abcdef") (g_ROWS : GStr mg "ROWS" "123456789") : FnOk P w K mg base CX0 1 f fd ["text"] spIsCell := by
  refine F.ok sc_is_cell (fun vs H Q E h => ?_) (fun cdv A outer s H vs Q E hr h => ?_)
  · obtain ⟨l, rfl, _⟩ := h
    rfl
  obtain ⟨l, rfl, hl, k⟩ := h
  refine ⟨_, (pss_one (ps_ret (pe_and (pe_cmpR op_eq (pe_callB call_len_str (by rfl) B.len boot_len (pa_cons (pv 0) pa_nil)) pe_int (nomark _)) (pe_and (pe_cmpR op_in_sign (pe_ix ix_str (pv 0) pe_int (fun _ _ => rfl)) (pe_gs g_COLUMNS (by rfl)) (by rfl)) (pe_one (pe_cmpR op_in_sign (pe_ix ix_str (pv 0) pe_int (fun _ _ => rfl)) (pe_gs g_ROWS (by rfl)) (by rfl))))))), ?_⟩
  have hl' : (SX.S l).length ≤ sizeLine := by rw [S_length]; exact hl
  refine ⟨_, rfl, _, rfl, hl', rfl, _, rfl, ?_⟩
  match l, k, hl' with
  | [a, b], k, hl' =>
    refine iteT ?_
    refine ⟨_, rfl, _, _, _, rfl, rfl, hl', rfl, _, _, rfl, rfl, _, rfl, ?_⟩
    rw [col_in]
    have e : isCelL [a, b] = ((decide (97 ≤ a) && decide (a ≤ 102)) && (decide (49 ≤ b) && decide (b ≤ 57))) := rfl
    cases q : (decide (97 ≤ a) && decide (a ≤ 102)) with
    | false =>
      rw [e, q] at k
      exact iteF k
    | true =>
      rw [e, q] at k
      refine iteT ?_
      refine ⟨_, rfl, _, _, _, rfl, rfl, hl', rfl, _, _, rfl, rfl, ?_⟩
      rw [row_in]
      exact k
  | [], k, _ => exact iteF k
  | [_], k, _ => exact iteF k
  | a :: b :: c :: r, k, _ =>
    have e : decide (V.int ((SX.S (a :: b :: c :: r)).length : Int) = V.int 2) = false := by
      rw [dec_i, S_length]
      simp only [List.length_cons, decide_eq_false_iff_not]
      omega
    rw [e]
    exact iteF k
theorem ok_place {f CN : Addr} {fd : FuncData} (F : Fun K "place" "place" s_place f fd) (B : Bt mg) (g_COLUMNS : GStr mg "COLUMNS" "abcdef") (g_ROWS : GStr mg "ROWS" "123456789") (e_NoCell : ExcF K mg "NoCell" CN) (C_is_cell : Cal P w K mg base 1 "is_cell" ["text"] spIsCell) :
    FnOk P w K mg base (L2N.CX P w) 2 f fd ["cell"] (spPlace CN) := by
  refine F.okN sc_place (fun vs H Q E h => ?_) (fun cdv A outer s H vs Q E hr h => ?_)
  · obtain ⟨l, rfl, _⟩ := h
    rfl
  obtain ⟨l, rfl, hl, k, kx⟩ := h
  refine ⟨_, (pss_cons (ps_if (pt_not (pt_val (pc_c C_is_cell (hr.mono (by first | exact Nat.le_refl _ | decide | omega)) (by rfl) (pa_cons (pv 0) pa_nil)))) (pss_one (L2N.ps_raise rfl (L2N.takes_of rfl rfl rfl rfl) (pmk_x e_NoCell (by rfl) (pe_joined (.cons pe_str (.cons (pe_fmt (pv 0)) .nil)))))) pss_nil)
      (pss_one (ps_ret (pe_tup (pa_cons (pe_bm PySem.F.plainAttrs_str PySem.F.slot_str_index PySem.F.type_str_index mt_sindex (pe_gs g_COLUMNS (by rfl)) (pa_cons (pe_ix ix_str (pv 0) pe_int (fun _ _ => rfl)) pa_nil)) (pa_cons (pe_bm PySem.F.plainAttrs_str PySem.F.slot_str_index PySem.F.type_str_index mt_sindex (pe_gs g_ROWS (by rfl)) (pa_cons (pe_ix ix_str (pv 0) pe_int (fun _ _ => rfl)) pa_nil)) pa_nil)))))), ?_⟩
  refine ⟨_, rfl, l, rfl, ten_m hl, _, rfl, ?_⟩
  cases q : isCelL l with
  | false =>
    refine iteT ?_
    refine ⟨_, rfl, small (by decide), _, rfl, .inl ⟨_, rfl, by rw [S_length]; exact ten_m hl, _, rfl, ?_, ?_⟩⟩
    · rw [show (Str.empty ++ ("no cell: " : Str)) = SX.S [110, 111, 32, 99, 101, 108, 108, 58, 32] by decide +kernel, S_app, S_length, List.length_append, sizeLine_eq]
      simp only [List.length_cons, List.length_nil]
      omega
    · exact kx q
  | true =>
    obtain ⟨c, rfl⟩ := isCelL_iff q
    refine iteF ?_
    obtain ⟨r1, e1⟩ := head_rest (col_idx c.hc)
    obtain ⟨r2, e2⟩ := head_rest (row_idx c.hr)
    refine ⟨rfl, _, rfl, _, _, _, rfl, rfl, small (by show 2 ≤ 1000; decide), c.at0, _, _, _, _, rfl, rfl, e1, rfl, _, rfl, _, _, _, rfl, rfl, small (by show 2 ≤ 1000; decide), c.at1, _, _, _, _, rfl, rfl, e2, small (by show 2 ≤ 1000; decide), fun t ht => ?_⟩
    exact k c rfl t ht
end
end U

namespace U
open PySem L2 PyProof.Rows
section
variable {P : Program} {w : World} {K : PySem.W.Frag} {mg : Str → Option Value} {base : Heap}
theorem ok_shifted {f CN : Addr} {fd : FuncData} (F : Fun K "shifted" "shifted" s_shifted f fd) (B : Bt mg) (g_ROWS : GStr mg "ROWS" "123456789") (C_place : CalX P w K mg base 2 "place" ["cell"] (spPlace CN)) :
    FnOk P w K mg base (L2N.CX P w) 3 f fd ["cell", "rows"] (spShifted CN) := by
  refine F.okN sc_shifted (fun vs H Q E h => ?_) (fun cdv A outer s H vs Q E hr h => ?_)
  · obtain ⟨l, n, rfl, _⟩ := h
    rfl
  obtain ⟨l, n, rfl, hl, k, kx⟩ := h
  refine ⟨_, (pss_cons (ps_asg (pc_x C_place (hr.mono (by first | exact Nat.le_refl _ | decide | omega)) (by rfl) (L2N.passes_call (L2N.takes_of rfl rfl rfl rfl) (fun _ _ _ _ h => h)) (pa_cons (pv 0) pa_nil)) (pg_tup (by rfl) (pgs_cons (pg_name (i := 2) sc_shifted.nd rfl (Or.inl rfl)) (pgs_cons (pg_name (i := 3) sc_shifted.nd rfl (Or.inl rfl)) pgs_nil))))
      (pss_cons (ps_set (i := 4) sc_shifted.nd rfl (Or.inl rfl) (pe_op op_add (pv 3) (pv 1)))
      (pss_cons (ps_if (PW.pt (pw_or (pt_cmpR op_lt (pv 4) pe_int (nomark _)) (pw_or1 (pt_cmpR op_ge (pv 4) (pe_callB call_len_str (by rfl) B.len boot_len (pa_cons (pe_gs g_ROWS (by rfl)) pa_nil)) (nomark _))))) (pss_one (ps_ret pe_str)) pss_nil)
      (pss_one (ps_ret (pe_op op_add_str (pe_ix ix_str (pv 0) pe_int (fun _ _ => rfl)) (pe_ix ix_str (pe_gs g_ROWS (by rfl)) (pv 4) (fun _ _ => rfl)))))))), ?_⟩
  refine ⟨_, rfl, l, rfl, hl, fun x hx t1 ht1 => ?_, fun q => kx q _ (.refl H)⟩
  subst hx
  have s1 : Same H (upd H t1 (.tup [.int x.c, .int x.r])) := same_new ht1 _
  refine ⟨t1, _, rfl, SqT.of upd_same, rfl, _, _, rfl, _, _, rfl, rfl, ?_⟩
  generalize upd H t1 (.tup [.int x.c, .int x.r]) = H1 at s1 ⊢
  obtain ⟨k1, k2⟩ := k x rfl H1 s1
  refine ⟨_, rfl, _, rfl, _, _, rfl, rfl, _, rfl, _, _, rfl, rfl, _, rfl, or_join (fun r => ⟨_, rfl, _, rfl, small (by show 9 ≤ 1000; decide), _, _, rfl, rfl, _, rfl, r⟩) (fun c => ?_) (fun c => ?_)⟩
  · have e : ("123456789" : Str).length = 9 := by decide +kernel
    rw [e] at c
    simp only [Bool.or_eq_true, decide_eq_true_eq] at c
    have e0 : ("" : Str) = SX.S [] := by decide +kernel
    show Q (.str ("" : Str)) H1
    rw [e0]
    exact k2 (by omega)
  · have e : ("123456789" : Str).length = 9 := by decide +kernel
    rw [e] at c
    simp only [Bool.or_eq_false_iff, decide_eq_false_iff_not] at c
    have hc := x.hc
    refine ⟨_, rfl, _, _, _, rfl, rfl, small (by show 2 ≤ 1000; decide), x.at0, _, rfl, _, _, _, rfl, rfl, small (by show 9 ≤ 1000; decide), at_123 (by omega) (by omega), _, _, rfl, rfl, small (by show 2 ≤ 1000; decide), ?_⟩
    exact k1 ⟨x.c, ((x.r : Int) + n).toNat, x.hc, by omega⟩ rfl (by show (((x.r : Int) + n).toNat : Int) = _; omega)
end
end U

namespace U
open PySem L2 PyProof.Rows
section
variable {P : Program} {w : World} {K : PySem.W.Frag} {mg : Str → Option Value} {base : Heap}
theorem ok_is_number {f : Addr} {fd : FuncData} (F : Fun K "is_number" "is_number" s_is_number f fd) (B : Bt mg) (g_FIGURES : GInt mg "FIGURES" 6) : FnOk P w K mg base CX0 1 f fd ["text"] spIsNum := by
  refine F.ok sc_is_number (fun vs H Q E h => ?_) (fun cdv A outer s H vs Q E hr h => ?_)
  · obtain ⟨l, rfl, _⟩ := h
    rfl
  obtain ⟨l, rfl, hl, k⟩ := h
  refine ⟨_, (pss_cons (ps_set (i := 1) sc_is_number.nd rfl (Or.inl rfl) (pe_bm PySem.F.plainAttrs_str PySem.F.slot_str_removeprefix PySem.F.type_str_removeprefix mt_removeprefix (pv 0) (pa_cons pe_str pa_nil)))
      (pss_cons (ps_if (PW.pt (pw_or (pt_not (pt_val (pe_bm0 PySem.F.plainAttrs_str PySem.F.slot_str_isascii PySem.F.type_str_isascii mt_isascii (pv 1)))) (pw_or (pt_not (pt_val (pe_bm0 PySem.F.plainAttrs_str PySem.F.slot_str_isdigit PySem.F.type_str_isdigit mt_isdigit (pv 1)))) (pw_or1 (pt_cmpR op_gt (pe_callB call_len_str (by rfl) B.len boot_len (pa_cons (pv 1) pa_nil)) (pe_gi g_FIGURES (by rfl)) (nomark _)))))) (pss_one (ps_ret pe_bl)) pss_nil)
      (pss_one (ps_ret (pe_or (pe_cmpR op_eq (pv 0) pe_str (nomark _)) (pe_one (pe_cmpR op_ne (pe_ix ix_str (pv 1) pe_int (fun _ _ => rfl)) pe_str (nomark _)))))))), ?_⟩
  refine ⟨_, rfl, rfl, _, _, rfl, rfl, by rw [S_length]; exact ten_m hl, ?_⟩
  rw [rp_minus]
  have nk := num_ok (figsL l)
  have ed : isNumL l = ((figsL l).all isDig && (!(figsL l).isEmpty && (decide ((figsL l).length ≤ 6) && (decide (l = [48]) || decide ((figsL l).head? ≠ some 48))))) := rfl
  refine ⟨_, rfl, rfl, _, rfl, rfl, trivial, _, rfl, ?_⟩
  cases h1 : Txt.isascii (SX.S (figsL l)) with
  | false =>
    refine iteT (iteT ?_)
    rw [h1, Bool.false_and] at nk
    have e : isNumL l = false := by rw [ed, ← Bool.and_assoc, ← nk, Bool.false_and]
    rw [e] at k
    exact k
  | true =>
    refine iteF ⟨_, rfl, rfl, _, rfl, rfl, trivial, _, rfl, ?_⟩
    cases h2 : Txt.isdigit (SX.S (figsL l)) with
    | false =>
      refine iteT (iteT ?_)
      rw [h1, h2, Bool.and_false] at nk
      have e : isNumL l = false := by rw [ed, ← Bool.and_assoc, ← nk, Bool.false_and]
      rw [e] at k
      exact k
    | true =>
      rw [h1, h2, Bool.and_true] at nk
      have fl : (figsL l).length ≤ l.length := by
        cases l with
        | nil => exact Nat.le_refl _
        | cons c r =>
          by_cases z : c = 45
          · subst z; rw [figsL_neg]; simp
          · rw [figsL_ne r z]; exact Nat.le_refl _
      refine iteF ⟨_, rfl, _, rfl, by rw [S_length]; exact ten_m (by omega), _, _, rfl, rfl, _, rfl, ?_⟩
      rw [S_length]
      have e3 : decide ((6 : Int) < ((figsL l).length : Int)) = !decide ((figsL l).length ≤ 6) := by
        rw [Bool.eq_iff_iff]
        simp
        omega
      rw [e3]
      rw [← Bool.and_assoc, ← nk, Bool.true_and] at ed
      cases h3 : decide ((figsL l).length ≤ 6) with
      | false =>
        refine iteT ?_
        rw [ed, h3, Bool.false_and] at k
        exact k
      | true =>
        rw [h3, Bool.true_and] at ed
        refine iteF ⟨_, rfl, rfl, _, rfl, ?_⟩
        rw [zeroS, dec_s]
        have e4 : decide (SX.S l = SX.S [48]) = decide (l = [48]) := by
          rw [Bool.eq_iff_iff]
          simp only [decide_eq_true_eq]
          exact ⟨SX.S_inj, fun z => by rw [z]⟩
        rw [e4]
        cases h4 : decide (l = [48]) with
        | true =>
          rw [ed, h4, Bool.true_or] at k
          exact iteT k
        | false =>
          rw [ed, h4, Bool.false_or] at k
          refine iteF ?_
          cases hf : figsL l with
          | nil =>
            rw [hf] at nk
            simp at nk
          | cons c r =>
            rw [hf] at k
            refine ⟨_, rfl, _, _, _, rfl, rfl, by rw [S_length]; have := ten_m hl; rw [hf] at fl; exact Nat.le_trans fl this, (show atI (c :: r) 0 = some c from at0), rfl, ?_⟩
            rw [dec_s]
            have e5 : decide ((⟨#[c]⟩ : Str) = SX.S [48]) = decide (c = 48) := by
              rw [Bool.eq_iff_iff]
              simp only [decide_eq_true_eq]
              exact ⟨fun z => by
                have q := SX.S_inj (a := [c]) (b := [48]) z
                simpa using q, fun z => by rw [z]⟩
            rw [e5]
            have e6 : decide ((c :: r).head? ≠ some 48) = !decide (c = 48) := by
              simp
            rw [e6] at k
            exact k
theorem ok_sum_at {f CB : Addr} {fd : FuncData} (F : Fun K "sum_at" "sum_at" s_sum_at f fd) (B : Bt mg) (e_BadFormula : ExcF K mg "BadFormula" CB) (C_is_cell : Cal P w K mg base 1 "is_cell" ["text"] spIsCell) : FnOk P w K mg base (L2N.CX P w) 2 f fd ["words", "at"] (spSumAt K CB) := by
  refine F.okN sc_sum_at (fun vs H Q E h => ?_) (fun cdv A outer s H vs Q E hr h => ?_)
  · obtain ⟨a, W, k, rfl, _⟩ := h
    rfl
  obtain ⟨a, W, k, rfl, hS, ok, hk, q1, q2⟩ := h
  refine ⟨_, (pss_cons (ps_set (i := 2) sc_sum_at.nd rfl (Or.inl rfl) (pe_slice sl_list (pv 0) (po_some (pe_op op_add (pv 1) pe_int)) (po_some (pe_op op_add (pv 1) pe_int))))
      (pss_cons (ps_if (PW.pt (pw_or (pt_cmpR op_lt (pe_callB call_len_seq (by rfl) B.len boot_len (pa_cons (pv 2) pa_nil)) pe_int (nomark _)) (pw_or (pt_not (pt_val (pc_c C_is_cell (hr.mono (by first | exact Nat.le_refl _ | decide | omega)) (by rfl) (pa_cons (pe_ix ix_list (pv 2) pe_int (fun _ _ => rfl)) pa_nil)))) (pw_or1 (pt_not (pt_val (pc_c C_is_cell (hr.mono (by first | exact Nat.le_refl _ | decide | omega)) (by rfl) (pa_cons (pe_ix ix_list (pv 2) pe_int (fun _ _ => rfl)) pa_nil)))))))) (pss_one (L2N.ps_raise rfl (L2N.takes_of rfl rfl rfl rfl) (pmk_x e_BadFormula (by rfl) pe_str))) pss_nil)
      (pss_one (ps_ret (pe_tup (pa_cons (pe_tup (pa_cons pe_str (pa_cons (pe_ix ix_list (pv 2) pe_int (fun _ _ => rfl)) (pa_cons (pe_ix ix_list (pv 2) pe_int (fun _ _ => rfl)) pa_nil)))) (pa_cons (pe_op op_add (pv 1) pe_int) pa_nil))))))), ?_⟩
  refine ⟨_, rfl, _, rfl, _, _, rfl, rfl, _, rfl, _, rfl, _, _, rfl, rfl, _, rfl, a, _, rfl, hS, fun e he => ?_⟩
  rw [cut_two, svs_drop]
  have okd := okW_drop ok (k + 1)
  have s1 : Same H (upd H e (.lst ((svs (W.drop (k + 1))).take 2))) := same_new he _
  have ge : upd H e (.lst ((svs (W.drop (k + 1))).take 2)) e = some (.lst ((svs (W.drop (k + 1))).take 2)) := upd_same
  generalize upd H e (.lst ((svs (W.drop (k + 1))).take 2)) = H1 at s1 ge ⊢
  match hd : W.drop (k + 1), ge, okd, q1, q2 with
  | [], ge, _, _, q2 => exact ⟨_, rfl, e, _, rfl, .inl (SqL.of ge), _, _, rfl, rfl, _, rfl, iteT (iteT (q2 rfl _ s1))⟩
  | [c], ge, _, _, q2 => exact ⟨_, rfl, e, _, rfl, .inl (SqL.of ge), _, _, rfl, rfl, _, rfl, iteT (iteT (q2 rfl _ s1))⟩
  | c :: d :: r, ge, okd, q1, q2 =>
    have ge : H1 e = some (.lst [.str (SX.S c), .str (SX.S d)]) := ge
    have lc : c.length ≤ 10000000 := okd c (by simp)
    have ld : d.length ≤ 10000000 := okd d (by simp)
    refine ⟨_, rfl, e, _, rfl, .inl (SqL.of ge), _, _, rfl, rfl, _, rfl, iteF ?_⟩
    refine ⟨_, rfl, e, _, _, _, rfl, rfl, SqL.of ge, rfl, c, rfl, ten_m lc, _, rfl, ?_⟩
    have es : sumP (c :: d :: r) = if isCelL c = true ∧ isCelL d = true then some (.sum (celOf c) (celOf d), r) else none := rfl
    cases hc : isCelL c with
    | false =>
      rw [if_neg (fun z => by rw [hc] at z; cases z.1)] at es
      exact iteT (iteT (q2 es _ s1))
    | true =>
      refine iteF ⟨_, rfl, e, _, _, _, rfl, rfl, SqL.of ge, rfl, d, rfl, ten_m ld, _, rfl, ?_⟩
      cases hd' : isCelL d with
      | false =>
        rw [if_neg (fun z => by rw [hd'] at z; cases z.2)] at es
        exact iteT (q2 es _ s1)
      | true =>
        rw [if_pos ⟨hc, hd'⟩] at es
        refine iteF ⟨_, rfl, e, _, _, _, rfl, rfl, SqL.of ge, rfl, _, rfl, e, _, _, _, rfl, rfl, SqL.of ge, rfl, small (by show 3 ≤ 1000; decide), fun t1 h1 => ⟨_, rfl, _, _, rfl, rfl, small (by show 2 ≤ 1000; decide), fun t2 h2 => ?_⟩⟩
        have s2 : Same H1 (upd H1 t1 (.tup [.str "sum", .str (SX.S c), .str (SX.S d)])) := same_new h1 _
        have s3 := same_new h2 (.tup [.ref t1, .int ((k : Int) + 3)])
        have lr : W.length = k + 3 + r.length := by
          have := congrArg List.length hd
          rw [List.length_drop] at this
          simp only [List.length_cons] at this
          omega
        have dr : W.drop (k + 3) = r := by
          have e3 : W.drop (k + 1 + 2) = (W.drop (k + 1)).drop 2 := by rw [List.drop_drop]
          rw [hd] at e3
          exact e3
        refine q1 _ _ es t2 (.ref t1) _ ((s1.trans s2).trans s3) ⟨t1, rfl, ?_⟩ (by omega) ?_ (drop_back (j := 0) dr (by omega))
        · refine SqT.of (s3 _ _ ?_)
          rw [upd_same, celOf_of hc, celOf_of hd']
        · rw [upd_same, show (W.length - r.length : Nat) = k + 3 by omega]
          rfl
theorem ok_parts_at {n : Nat} {f CB aP : Addr} {fd : FuncData} (F : Fun K "parts_at" "parts_at" s_parts_at f fd) (B : Bt mg) (g_PARTS : mg "PARTS" = some (.ref aP)) (PF : PartsF K w aP) (C_part_at : CalX P w K mg base (2 * n + 3) "part_at" ["words", "at", "depth"] (spPartAt K CB n)) :
    FnOk P w K mg base (L2N.CX P w) (2 * n + 3 + 1) f fd ["words", "at", "depth"] (spPartsAt K CB n) := by
  refine F.okN sc_parts_at (fun vs H Q E h => ?_) (fun cdv A outer s H vs Q E hr h => ?_)
  · obtain ⟨a, W, k, d, wd, m, rfl, _⟩ := h
    rfl
  obtain ⟨a, W, k, d, wd, m, rfl, hS, ok, hk, hw, ha, hd, q1, q2⟩ := h
  refine ⟨_, (pss_cons (ps_set (i := 3) sc_parts_at.nd rfl (Or.inl rfl) (pe_ix ix_list (pv 0) (pv 1) (fun _ _ => rfl)))
      (pss_cons (ps_set (i := 4) sc_parts_at.nd rfl (Or.inl rfl) (pe_lst pa_nil))
      (pss_cons (ps_set (i := 5) sc_parts_at.nd rfl (Or.inl rfl) (pe_op op_add (pv 1) pe_int))
      (pss_cons (ps_for (passes_of rfl) rfl (pi_range1 (by rfl) B.range (pa_cons (pe_ix ix_kdict (pe_gr g_PARTS (by rfl)) (pv 3) (fun _ _ => rfl)) pa_nil)) (pg_name (i := 6) sc_parts_at.nd rfl (Or.inl rfl)) (pss_cons (ps_asg (pc_x C_part_at (hr.mono (by first | exact Nat.le_refl _ | decide | omega)) (by rfl) (L2N.passes_call (L2N.takes_of rfl rfl rfl rfl) (fun _ _ _ _ h => h)) (pa_cons (pv 0) (pa_cons (pv 5) (pa_cons (pe_op op_add (pv 2) pe_int) pa_nil)))) (pg_tup (by rfl) (pgs_cons (pg_name (i := 7) sc_parts_at.nd rfl (Or.inl rfl)) (pgs_cons (pg_name (i := 5) sc_parts_at.nd rfl (Or.inl rfl)) pgs_nil))))
      (pss_one (ps_expr (pe_bm PySem.F.plainAttrs_list PySem.F.slot_list_append PySem.F.type_list_append mt_append (pv 4) (pa_cons (pv 7) pa_nil))))))
      (pss_one (ps_ret (pe_tup (pa_cons (pe_tup (pa_cons (pv 3) (StX.pa_star (pv 4) pa_nil))) (pa_cons (pv 5) pa_nil))))))))), ?_⟩
  have hm : m ≤ 4 := by
    rcases arity_cases wd with e | e | e
    · rw [e] at ha; cases ha; decide
    · rw [e] at ha; cases ha; decide
    · rw [e] at ha; cases ha
  have kd : KDct K w aP (SX.S wd) (.int m) := by
    obtain ⟨es, en, D⟩ := PF.dict
    rcases arity_cases wd with e | e | e
    · obtain ⟨t, z⟩ := PF.two _ e
      rw [e] at ha
      cases ha
      exact ⟨es, en, _, D.at_, D.lit, z, ⟨t, rfl⟩⟩
    · obtain ⟨t, z⟩ := PF.four _ e
      rw [e] at ha
      cases ha
      exact ⟨es, en, _, D.at_, D.lit, z, ⟨t, rfl⟩⟩
    · rw [e] at ha
      cases ha
  refine ⟨_, rfl, _, rfl, a, _, _, _, rfl, rfl, hS, svs_at hw, small (by decide), fun r hr0 => ?_⟩
  have s1 : Same H (upd H r (.lst [])) := same_new hr0 _
  have r1 : upd H r (.lst []) r = some (.lst []) := upd_same
  generalize upd H r (.lst []) = H1 at s1 r1 ⊢
  refine ⟨_, rfl, _, _, rfl, rfl, _, rfl, aP, SX.S wd, _, rfl, rfl, kd, _, rfl, by omega, by omega, ?_⟩
  -- Keep r r: all but the list of parts
  have sK : ∀ {G G' : Hp}, Keep r r G G' → ∀ c o, H c = some o → G c = some o → G' c = some o := fun {G G'} kp c o e g => kp c o g (ne_of_none e hr0) (ne_of_none e hr0)
  refine for_range (lo := 0) (fun i σ H4 => ∃ (ps : List Part) (xs : List V) (j : Nat) (u v : Option V), σ = [some (.ref a), some (.int k), some (.int d), some (.str (SX.S wd)), some (.ref r), some (.int j), u, v] ∧ Same H H4 ∧ H4 r = some (.lst xs) ∧ PAs K H4 ps xs ∧ ps.length = i ∧ j ≤ W.length ∧
      seqP (pt n) m (W.drop (k + 1)) = (match seqP (pt n) (m - i) (W.drop j) with | none => none | some (qs, z) => some (ps ++ qs, z)))
    ⟨[], [], k + 1, none, none, rfl, s1, r1, trivial, rfl, hk, ?_⟩ ?_ ?_
  · rw [Nat.sub_zero]
    cases seqP (pt n) m (W.drop (k + 1)) with
    | none => rfl
    | some z => rfl
  · rintro i σ H4 hi ⟨ps, xs, j, u, v, rfl, s4, r4, ap, hl, hj, es⟩
    have hi' : i < m := by omega
    obtain ⟨m', hm'⟩ : ∃ m', m - i = m' + 1 := ⟨m - i - 1, by omega⟩
    rw [hm'] at es
    have hS4 : SqL K H4 a (svs W) := s4.seq hS
    refine ⟨_, rfl, _, rfl, _, rfl, _, _, rfl, rfl, a, W, j, d + 1, rfl, hS4, ok, hj, by omega, fun p z ep t x H5 s5 px hz ht ez => ?_, fun en G sG => q2 ?_ _ (s4.trans sG)⟩
    · refine ⟨t, _, rfl, SqT.of ht, rfl, _, _, rfl, _, _, rfl, rfl, ?_⟩
      refine ⟨_, rfl, .inl ⟨rfl, _, SqL.of (s5 _ _ r4)⟩, _, rfl, r, _, _, rfl, rfl, s5 _ _ r4, ?_, ?_⟩
      · rw [ap.len, hl]
        exact small1000 (by omega)
      · have tk : Tk K H5 (upd H5 r (.lst (xs ++ [x]))) := keepTk (s5 _ _ r4) fun c o e n m => by rw [upd_ne n]; exact e
        refine ⟨ps ++ [p], xs ++ [x], W.length - z.length, _, _, rfl, fun c o e => ?_, upd_same, PAs.snoc ((ap.tk (.same s5)).tk tk) (px.tk tk), by simp [hl], by omega, ?_⟩
        · rw [upd_ne (ne_of_none e hr0)]
          exact s5 _ _ (s4 c o e)
        · rw [es, show m - (i + 1) = m' by omega, ← ez]
          rw [seqP_some ep]
          cases seqP (pt n) m' z with
          | none => rfl
          | some y => simp
    · rw [es, seqP_no en]
  · rintro σ H4 ⟨ps, xs, j, u, v, rfl, s4, r4, ap, hl, hj, es⟩
    have e0 : m - ((m : Int) - 0).toNat = 0 := by omega
    have e1 : (m : Int).toNat = m := by omega
    rw [show m - (m : Int).toNat = 0 by omega] at es
    have es : seqP (pt n) m (W.drop (k + 1)) = some (ps, W.drop j) := by rw [es]; simp [seqP]
    obtain ⟨p, hp⟩ := mkP_some ha (by rw [hl]; omega : ps.length = m)
    have hxs : xs.length ≤ 1000 := by rw [ap.len, hl]; omega
    refine ⟨_, rfl, _, rfl, r, xs, rfl, .inr (SqL.of r4), ?_, fun t1 h1 => ⟨_, rfl, small (by show 2 ≤ 1000; decide), fun t2 h2 => ?_⟩⟩
    · show (V.str (SX.S wd) :: (xs ++ [])).length ≤ sizeLine
      rw [List.append_nil, List.length_cons]
      rw [sizeLine_eq]
      omega
    · rw [List.append_nil] at h2 ⊢
      have s5 := same_new h1 (.tup (.str (SX.S wd) :: xs))
      have s6 := same_new h2 (.tup [.ref t1, .int j])
      have lz : (W.drop j).length ≤ W.length := by rw [List.length_drop]; omega
      have ej : W.length - (W.drop j).length = j := by rw [List.length_drop]; omega
      refine q1 _ _ _ es hp t2 (.ref t1) _ ((s4.trans s5).trans s6) (mkP_pa ha (by rw [hl]; omega) hp (SqT.of (s6 _ _ upd_same)) ((ap.tk (.same s5)).tk (.same s6))) lz ?_ ?_
      · rw [upd_same, ej]
      · rw [ej]
theorem ok_part_at {n : Nat} {f CB aP : Addr} {fd : FuncData} (F : Fun K "part_at" "part_at" s_part_at f fd) (B : Bt mg) (e_BadFormula : ExcF K mg "BadFormula" CB) (g_DEEPEST : GInt mg "DEEPEST" 5) (g_PARTS : mg "PARTS" = some (.ref aP)) (PF : PartsF K w aP)
    (C_is_number : Cal P w K mg base 1 "is_number" ["text"] spIsNum) (C_is_cell : Cal P w K mg base 1 "is_cell" ["text"] spIsCell) (C_sum_at : CalX P w K mg base 2 "sum_at" ["words", "at"] (spSumAt K CB))
    (C_parts_at : CalX P w K mg base (2 * n + 2) "parts_at" ["words", "at", "depth"] (spPartsX K CB n)) : FnOk P w K mg base (L2N.CX P w) (2 * n + 2 + 1) f fd ["words", "at", "depth"] (spPartAt K CB n) := by
  refine F.okN sc_part_at (fun vs H Q E h => ?_) (fun cdv A outer s H vs Q E hr h => ?_)
  · obtain ⟨a, W, k, d, rfl, _⟩ := h
    rfl
  obtain ⟨a, W, k, d, rfl, hS, ok, hk, hd, q1, q2⟩ := h
  obtain ⟨es, en, D_PARTS⟩ := PF.dict
  refine ⟨_, (pss_cons (ps_if (pt_cmpR op_eq (pv 1) (pe_callB call_len_seq (by rfl) B.len boot_len (pa_cons (pv 0) pa_nil)) (nomark _)) (pss_one (L2N.ps_raise rfl (L2N.takes_of rfl rfl rfl rfl) (pmk_x e_BadFormula (by rfl) pe_str))) pss_nil)
      (pss_cons (ps_if (pt_cmpR op_gt (pv 2) (pe_gi g_DEEPEST (by rfl)) (nomark _)) (pss_one (L2N.ps_raise rfl (L2N.takes_of rfl rfl rfl rfl) (pmk_x e_BadFormula (by rfl) pe_str))) pss_nil)
      (pss_cons (ps_set (i := 3) sc_part_at.nd rfl (Or.inl rfl) (pe_ix ix_list (pv 0) (pv 1) (fun _ _ => rfl)))
      (pss_cons (ps_if (pt_val (pc_c C_is_number (hr.mono (by first | exact Nat.le_refl _ | decide | omega)) (by rfl) (pa_cons (pv 3) pa_nil))) (pss_one (ps_ret (pe_tup (pa_cons (pe_tup (pa_cons pe_str (pa_cons (pe_callTy call_int_str (by rfl) B.int boot_int (pa_cons (pv 3) pa_nil)) pa_nil))) (pa_cons (pe_op op_add (pv 1) pe_int) pa_nil))))) pss_nil)
      (pss_cons (ps_if (pt_val (pc_c C_is_cell (hr.mono (by first | exact Nat.le_refl _ | decide | omega)) (by rfl) (pa_cons (pv 3) pa_nil))) (pss_one (ps_ret (pe_tup (pa_cons (pe_tup (pa_cons pe_str (pa_cons (pv 3) pa_nil))) (pa_cons (pe_op op_add (pv 1) pe_int) pa_nil))))) pss_nil)
      (pss_cons (ps_if (pt_cmpR op_eq (pv 3) pe_str (nomark _)) (pss_one (ps_ret (pc_x C_sum_at (hr.mono (by first | exact Nat.le_refl _ | decide | omega)) (by rfl) (L2N.passes_call (L2N.takes_of rfl rfl rfl rfl) (fun _ _ _ _ h => h)) (pa_cons (pv 0) (pa_cons (pv 1) pa_nil))))) pss_nil)
      (pss_cons (ps_if (pt_cmpR (op_in_kd D_PARTS) (pv 3) (pe_gr g_PARTS (by rfl)) (by rfl)) (pss_one (ps_ret (pc_x C_parts_at (hr.mono (by first | exact Nat.le_refl _ | decide | omega)) (by rfl) (L2N.passes_call (L2N.takes_of rfl rfl rfl rfl) (fun _ _ _ _ h => h)) (pa_cons (pv 0) (pa_cons (pv 1) (pa_cons (pv 2) pa_nil)))))) pss_nil)
      (pss_one (L2N.ps_raise rfl (L2N.takes_of rfl rfl rfl rfl) (pmk_x e_BadFormula (by rfl) (pe_joined (.cons pe_str (.cons (pe_fmt (pv 3)) .nil))))))))))))), ?_⟩
  refine ⟨_, rfl, _, rfl, a, _, rfl, .inl hS, rfl, _, rfl, ?_⟩
  rw [dec_i, svs_len]
  by_cases e0 : k = W.length
  · rw [decide_eq_true (by rw [e0])]
    refine iteT (q2 ?_ _ (.refl H))
    rw [e0, List.drop_length]
    cases n <;> rfl
  have hk' : k < W.length := by omega
  rw [decide_eq_false (by omega)]
  refine iteF ⟨_, rfl, _, _, rfl, rfl, _, rfl, ?_⟩
  cases n with
  | zero =>
    rw [decide_eq_true (by omega)]
    exact iteT (q2 rfl _ (.refl H))
  | succ n =>
    rw [decide_eq_false (by omega)]
    refine iteF ?_
    obtain ⟨wd, hw, hdr⟩ := drop_at hk'
    have lw : wd.length ≤ 10000000 := ok wd (List.mem_of_getElem? hw)
    refine ⟨_, rfl, _, rfl, a, _, _, _, rfl, rfl, hS, svs_at hw, ?_⟩
    have ept : pt (n + 1) (W.drop k) = if isNumL wd = true then some (.num (valL wd), W.drop (k + 1)) else if isCelL wd = true then some (.cel (celOf wd), W.drop (k + 1)) else if wd = sumL then sumP (W.drop (k + 1)) else match arity wd with | none => none | some m => match seqP (pt n) m (W.drop (k + 1)) with | none => none | some (ps, r') => match mkP wd ps with | none => none | some p => some (p, r') := by rw [hdr]; rfl
    have lz : (W.drop (k + 1)).length ≤ W.length := by rw [List.length_drop]; omega
    have ej : W.length - (W.drop (k + 1)).length = k + 1 := by rw [List.length_drop]; omega
    refine ⟨_, rfl, wd, rfl, lw, _, rfl, ?_⟩
    cases hn : isNumL wd with
    | true =>
      rw [if_pos hn] at ept
      refine iteT ⟨_, rfl, _, _, rfl, isNumL_val hn, by rw [S_length]; have := isNumL_len hn; omega, small (by show 2 ≤ 1000; decide), fun t1 h1 => ⟨_, rfl, _, _, rfl, rfl, small (by show 2 ≤ 1000; decide), fun t2 h2 => ?_⟩⟩
      have s6 := same_new h2 (.tup [.ref t1, .int ((k : Int) + 1)])
      exact q1 _ _ ept t2 (.ref t1) _ ((same_new h1 _).trans s6) ⟨t1, rfl, SqT.of (s6 _ _ upd_same)⟩ lz (by rw [upd_same, ej]; rfl) (by rw [ej])
    | false =>
      rw [if_neg (by rw [hn]; exact Bool.false_ne_true)] at ept
      refine iteF ⟨_, rfl, wd, rfl, ten_m lw, _, rfl, ?_⟩
      cases hc : isCelL wd with
      | true =>
        rw [if_pos hc] at ept
        refine iteT ⟨_, rfl, small (by show 2 ≤ 1000; decide), fun t1 h1 => ⟨_, rfl, _, _, rfl, rfl, small (by show 2 ≤ 1000; decide), fun t2 h2 => ?_⟩⟩
        have s6 := same_new h2 (.tup [.ref t1, .int ((k : Int) + 1)])
        exact q1 _ _ ept t2 (.ref t1) _ ((same_new h1 _).trans s6) ⟨t1, rfl, SqT.of (s6 _ _ (by rw [upd_same, celOf_of hc]))⟩ lz (by rw [upd_same, ej]; rfl) (by rw [ej])
      | false =>
        rw [if_neg (by rw [hc]; exact Bool.false_ne_true)] at ept
        refine iteF ⟨_, rfl, rfl, _, rfl, ?_⟩
        rw [sumS, dec_s]
        by_cases hs : wd = sumL
        · rw [if_pos hs] at ept
          rw [decide_eq_true (by rw [hs])]
          refine iteT ⟨_, rfl, _, rfl, a, W, k, rfl, hS, ok, hk', fun p r e => q1 p r (ept.trans e), fun e => q2 (ept.trans e)⟩
        · rw [if_neg hs] at ept
          rw [decide_eq_false (fun z => hs (SX.S_inj z))]
          refine iteF ⟨_, rfl, ?_⟩
          cases ha : arity wd with
          | none =>
            rw [ha] at ept
            refine ⟨_, _, rfl, rfl, PF.no _ ha, _, rfl, ?_⟩
            refine iteF ?_
            have em : (Str.empty ++ ("no part begins with: " : Str)).length = 21 := by decide +kernel
            refine ⟨_, rfl, small (by decide +kernel), _, rfl, .inl ⟨_, rfl, by rw [S_length]; exact ten_m lw, _, rfl, ?_, q2 ept _ (.refl H)⟩⟩
            have ea : ∀ a b : Str, (a ++ b).length = a.length + b.length := fun a b => by
              show (a.cps ++ b.cps).size = _
              rw [Array.size_append]
              rfl
            rw [ea, em, S_length, sizeLine_eq]
            omega
          | some m =>
            rw [ha] at ept
            have ya : ∃ t i, PySem.W.nsIn K aP (SX.S wd) = some (some (.int i t)) := by
              rcases arity_cases wd with e | e | e
              · obtain ⟨t, z⟩ := PF.two _ e; exact ⟨t, _, z⟩
              · obtain ⟨t, z⟩ := PF.four _ e; exact ⟨t, _, z⟩
              · rw [e] at ha; cases ha
            obtain ⟨ti, ii, yn⟩ := ya
            refine ⟨_, _, rfl, rfl, yn, _, rfl, ?_⟩
            refine iteT ⟨_, rfl, _, rfl, _, rfl, ?_⟩
            refine ⟨a, W, k, d, wd, m, rfl, hS, ok, hk', hw, ha, by omega, fun ps r p e1 e2 => q1 p r ?_, fun e => q2 ?_⟩
            · rw [ept]
              simp only [e1, e2]
            · rw [ept]
              simp only [e]
end
end U

namespace U
open PySem L2 PyProof.Rows
section
variable {P : Program} {w : World} {K : PySem.W.Frag} {mg : Str → Option Value} {base : Heap}
theorem cal_part_at {f fs CB aP : Addr} {fd fds : FuncData} (F : Fun K "part_at" "part_at" s_part_at f fd) (FS : Fun K "parts_at" "parts_at" s_parts_at fs fds) (B : Bt mg) (e_BadFormula : ExcF K mg "BadFormula" CB) (g_DEEPEST : GInt mg "DEEPEST" 5) (g_PARTS : mg "PARTS" = some (.ref aP)) (PF : PartsF K w aP)
    (C_is_number : Cal P w K mg base 1 "is_number" ["text"] spIsNum) (C_is_cell : Cal P w K mg base 1 "is_cell" ["text"] spIsCell) (C_sum_at : CalX P w K mg base 2 "sum_at" ["words", "at"] (spSumAt K CB))
    (m : mg "part_at" = some (.ref f)) (b : Binds K fd ["words", "at", "depth"] []) (ms : mg "parts_at" = some (.ref fs)) (bs : Binds K fds ["words", "at", "depth"] []) : ∀ n : Nat, CalX P w K mg base (2 * n + 3) "part_at" ["words", "at", "depth"] (spPartAt K CB n)
  | 0 => ⟨f, fd, ok_part_at (n := 0) F B e_BadFormula g_DEEPEST g_PARTS PF C_is_number C_is_cell C_sum_at ⟨fs, fds, ⟨fun vs H Q E h => h.elim, fun A outer s H args us vs Q E _ _ _ _ h => h.elim⟩, ms, FS.kp, bs⟩, m, F.kp, b⟩
  | n + 1 => ⟨f, fd, ok_part_at (n := n + 1) F B e_BadFormula g_DEEPEST g_PARTS PF C_is_number C_is_cell C_sum_at
      ⟨fs, fds, ok_parts_at FS B g_PARTS PF (cal_part_at F FS B e_BadFormula g_DEEPEST g_PARTS PF C_is_number C_is_cell C_sum_at m b ms bs n), ms, FS.kp, bs⟩, m, F.kp, b⟩
theorem ok_read {f CB : Addr} {fd : FuncData} (F : Fun K "read" "read" s_read f fd) (B : Bt mg) (e_BadFormula : ExcF K mg "BadFormula" CB) (C_is_number : Cal P w K mg base 1 "is_number" ["text"] spIsNum) (C_part_at : CalX P w K mg base 13 "part_at" ["words", "at", "depth"] (spPartAt K CB 5)) :
    FnOk P w K mg base (L2N.CX P w) 14 f fd ["text"] (spRead K CB) := by
  refine F.okN sc_read (fun vs H Q E h => ?_) (fun cdv A outer s H vs Q E hr h => ?_)
  · obtain ⟨l, rfl, _⟩ := h
    rfl
  obtain ⟨l, rfl, hl, q1, q2⟩ := h
  refine ⟨_, (pss_cons (ps_if (pt_cmpR op_eq (pv 0) pe_str (nomark _)) (pss_one (ps_ret pe_non)) pss_nil)
      (pss_cons (ps_if (pt_val (pc_c C_is_number (hr.mono (by first | exact Nat.le_refl _ | decide | omega)) (by rfl) (pa_cons (pv 0) pa_nil))) (pss_one (ps_ret (pe_tup (pa_cons pe_str (pa_cons (pe_callTy call_int_str (by rfl) B.int boot_int (pa_cons (pv 0) pa_nil)) pa_nil))))) pss_nil)
      (pss_cons (ps_set (i := 1) sc_read.nd rfl (Or.inl rfl) (pe_bm PySem.F.plainAttrs_str PySem.F.slot_str_split PySem.F.type_str_split mt_split (pv 0) (pa_cons pe_str pa_nil)))
      (pss_cons (ps_if (pt_cmpR op_ne (pe_ix ix_list (pv 1) pe_int (fun _ _ => rfl)) pe_str (nomark _)) (pss_one (L2N.ps_raise rfl (L2N.takes_of rfl rfl rfl rfl) (pmk_x e_BadFormula (by rfl) pe_str))) pss_nil)
      (pss_cons (ps_asg (pc_x C_part_at (hr.mono (by first | exact Nat.le_refl _ | decide | omega)) (by rfl) (L2N.passes_call (L2N.takes_of rfl rfl rfl rfl) (fun _ _ _ _ h => h)) (pa_cons (pv 1) (pa_cons pe_int (pa_cons pe_int pa_nil)))) (pg_tup (by rfl) (pgs_cons (pg_name (i := 2) sc_read.nd rfl (Or.inl rfl)) (pgs_cons (pg_name (i := 3) sc_read.nd rfl (Or.inl rfl)) pgs_nil))))
      (pss_cons (ps_if (pt_cmpR op_lt (pv 3) (pe_callB call_len_seq (by rfl) B.len boot_len (pa_cons (pv 1) pa_nil)) (nomark _)) (pss_one (L2N.ps_raise rfl (L2N.takes_of rfl rfl rfl rfl) (pmk_x e_BadFormula (by rfl) (pe_joined (.cons pe_str (.cons (pe_fmt (pe_ix ix_list (pv 1) (pv 3) (fun _ _ => rfl))) .nil)))))) pss_nil)
      (pss_cons (ps_if (pt_cmpR op_eq (pe_ix ix_tup (pv 2) pe_int (fun _ _ => rfl)) pe_str (nomark _)) (pss_one (L2N.ps_raise rfl (L2N.takes_of rfl rfl rfl rfl) (pmk_x e_BadFormula (by rfl) pe_str))) pss_nil)
      (pss_one (ps_ret (pv 2)))))))))), ?_⟩
  refine ⟨_, rfl, rfl, _, rfl, ?_⟩
  have e0 : ("" : Str) = SX.S [] := by decide +kernel
  rw [e0, dec_s]
  by_cases h0 : l = []
  · rw [decide_eq_true (by rw [h0])]
    refine iteT (q1 none ?_ _ _ (.refl H) rfl)
    rw [h0]
    rfl
  rw [decide_eq_false (fun z => h0 (SX.S_inj z))]
  refine iteF ⟨_, rfl, l, rfl, hl, _, rfl, ?_⟩
  have er : rd l = if isNumL l = true then some (some (.num (valL l))) else if (wsL l).head? ≠ some [61] then none else match pt 5 ((wsL l).drop 1) with | some (p, []) => if p.isNum = true then none else some (some p) | _ => none := by
    unfold rd
    rw [if_neg h0]
    try rfl
  cases hn : isNumL l with
  | true =>
    rw [if_pos hn] at er
    refine iteT ⟨_, rfl, _, _, rfl, isNumL_val hn, by rw [S_length]; have := isNumL_len hn; omega, small (by show 2 ≤ 1000; decide), fun t h1 => ?_⟩
    exact q1 _ er _ _ (same_new h1 _) ⟨t, rfl, SqT.of upd_same⟩
  | false =>
    rw [if_neg (by rw [hn]; exact Bool.false_ne_true)] at er
    refine iteF ⟨_, rfl, rfl, _, _, rfl, rfl, by decide +kernel, by rw [S_length, sizeLine_eq]; omega, fun a ha => ?_⟩
    rw [split_ws, ← svs_map]
    have s1 : Same H (upd H a (.lst (svs (wsL l)))) := same_new ha _
    have ga : upd H a (.lst (svs (wsL l))) a = some (.lst (svs (wsL l))) := upd_same
    generalize upd H a (.lst (svs (wsL l))) = H1 at s1 ga ⊢
    have ok := okW_ws hl
    cases hW : wsL l with
    | nil => exact absurd hW (spl_ne l [])
    | cons w0 W =>
      rw [hW] at er ok ga
      have eqS1 : ("=" : Str) = SX.S [61] := by decide +kernel
      refine ⟨_, rfl, a, _, _, _, rfl, rfl, SqL.of ga, (show atI (V.str (SX.S w0) :: svs W) 0 = _ from at0), rfl, _, rfl, ?_⟩
      rw [eqS1, dec_s]
      by_cases h1 : w0 = [61]
      · rw [if_neg (by rw [h1]; simp)] at er
        have er : rd l = match pt 5 W with | some (p, []) => if p.isNum = true then none else some (some p) | _ => none := er
        rw [decide_eq_true (by rw [h1])]
        refine iteF ⟨_, rfl, a, w0 :: W, 1, 1, rfl, SqL.of ga, ok, by simp, by decide, fun p r ep t x H2 s2 px hz ht ez => ?_, fun en G sG => q2 ?_ _ (s1.trans sG)⟩
        · have ep : pt 5 W = some (p, r) := ep
          refine ⟨t, _, rfl, SqT.of ht, rfl, _, _, rfl, _, _, rfl, rfl, ?_⟩
          have ga2 := s2 _ _ ga
          refine ⟨_, rfl, _, rfl, a, _, rfl, .inl (SqL.of ga2), _, _, rfl, rfl, _, rfl, ?_⟩
          rw [svs_len]
          cases r with
          | nil =>
            rw [ep] at er
            have er : rd l = if p.isNum = true then none else some (some p) := er
            rw [decide_eq_false (by simp only [List.length_nil]; omega)]
            obtain ⟨ax, xs, rfl, hT⟩ := px.head
            refine iteF ⟨_, rfl, ax, _, _, _, rfl, rfl, hT, at0, rfl, _, rfl, ?_⟩
            rw [dec_s, p.w_num]
            cases hp : p.isNum with
            | true =>
              rw [if_pos hp] at er
              exact iteT (q2 er _ (s1.trans s2))
            | false =>
              rw [if_neg (by rw [hp]; exact Bool.false_ne_true)] at er
              exact iteF ⟨_, rfl, q1 _ er _ _ (s1.trans s2) px⟩
          | cons z r =>
            rw [ep] at er
            have er : rd l = none := er
            have lz : (z :: r).length ≤ (w0 :: W).length := hz
            rw [decide_eq_true (by simp only [List.length_cons] at lz ⊢; omega)]
            refine iteT ?_
            have hat : (w0 :: W)[(w0 :: W).length - (z :: r).length]? = some z := by
              have e : ((w0 :: W).drop ((w0 :: W).length - (z :: r).length))[0]? = some z := by rw [← ez]; rfl
              rw [List.getElem?_drop] at e
              exact e
            have lz' : z.length ≤ 10000000 := ok z (List.mem_of_getElem? hat)
            refine ⟨_, rfl, small (by decide +kernel), _, rfl, _, rfl, a, _, _, _, rfl, rfl, SqL.of ga2, svs_at hat, .inl ⟨_, rfl, by rw [S_length]; exact ten_m lz', _, rfl, ?_, q2 er _ (s1.trans s2)⟩⟩
            have em : (Str.empty ++ ("needless behind the part: " : Str)).length = 26 := by decide +kernel
            rw [str_cat_len, em, S_length, sizeLine_eq]
            omega
        · have en : pt 5 W = none := en
          rw [er, en]
      · rw [if_pos (by simp; exact h1)] at er
        rw [decide_eq_false (fun z => h1 (SX.S_inj z))]
        exact iteT (q2 er _ s1)
end
end U

namespace U
open PySem L2 PyProof.Rows
section
variable {P : Program} {w : World} {K : PySem.W.Frag} {mg : Str → Option Value} {base : Heap}
def spDown : Sp := fun vs H Q _ => ∃ (x : Cel) (n : Int), vs = [.str x.s, .int n] ∧ -100 ≤ n ∧ n ≤ 100 ∧ (∀ d : Cel, d.c = x.c → (d.r : Int) = x.r + n → Q (.str d.s) H) ∧ ((x.r : Int) + n < 0 ∨ 9 ≤ (x.r : Int) + n → Q (.str (SX.S [])) H)
theorem ok_ldown {f : Addr} {fd : FuncData} (F : Fun K "_law_down" "_law_down" s_l_down f fd) (B : Bt mg) : FnOk P w K mg base CX0 1 f fd ["_law_cell_here", "_law_rows"] spDown := by
  refine F.ok sc_l_down (fun vs H Q E h => ?_) (fun cdv A outer s H vs Q E hr h => ?_)
  · obtain ⟨x, n, rfl, _⟩ := h
    rfl
  obtain ⟨x, n, rfl, n0, n1, k1, k2⟩ := h
  refine ⟨_, (pss_cons (ps_set (i := 2) sc_l_down.nd rfl (Or.inl rfl) (pe_op op_add (pe_callTy call_int_str (by rfl) B.int boot_int (pa_cons (pe_ix ix_str (pv 0) pe_int (fun _ _ => rfl)) pa_nil)) (pv 1)))
      (pss_one (ps_ret (pe_ifExp (pt_chain op_lt op_lt pe_int (pv 2) pe_int) (pe_op op_add_str (pe_ix ix_str (pv 0) pe_int (fun _ _ => rfl)) (pe_callTy call_str_int (by rfl) B.str boot_str (pa_cons (pv 2) pa_nil))) pe_str)))), ?_⟩
  have hx := x.hc
  have hy := x.hr
  refine ⟨_, rfl, _, _, _, rfl, rfl, small (by show 2 ≤ 1000; decide), x.at1, _, _, rfl, int_one x.hr, (by show 1 ≤ 640; decide), _, rfl, _, _, rfl, rfl, ?_⟩
  refine ⟨_, rfl, _, _, rfl, rfl, ?_⟩
  have e0 : ("" : Str) = SX.S [] := by decide +kernel
  have out : ((x.r : Int) + n < 0 ∨ 9 ≤ (x.r : Int) + n) → Q (.str ("" : Str)) H := fun h => by
    rw [e0]
    exact k2 h
  refine ⟨_, rfl, ite2 (fun c1 => ⟨_, _, rfl, rfl, _, rfl, ite2 (fun c2 => ?_) (fun c2 => ?_)⟩) (fun c1 => ⟨_, rfl, iteF ?_⟩)⟩
  · simp only [decide_eq_true_eq] at c1 c2
    have ee : (x.r : Int) + 1 + n = (((x.r : Int) + n).toNat : Int) + 1 := by omega
    have hs := str_one (r := ((x.r : Int) + n).toNat) (by omega)
    refine ⟨_, rfl, _, _, _, rfl, rfl, small (by show 2 ≤ 1000; decide), x.at0, _, rfl, _, rfl, log_small (by omega) (by omega), _, _, rfl, rfl, ?_, ?_⟩
    · show 1 + (Str.ofString (toString ((x.r : Int) + 1 + n))).length ≤ sizeLine
      rw [ee, hs]
      exact small (by show 1 + 1 ≤ 1000; decide)
    · show Q (.str (SX.S [97 + x.c] ++ Str.ofString (toString ((x.r : Int) + 1 + n)))) H
      rw [ee, hs]
      exact k1 ⟨x.c, ((x.r : Int) + n).toNat, hx, by omega⟩ rfl (by show ((((x.r : Int) + n).toNat : Nat) : Int) = _; omega)
  · simp only [decide_eq_true_eq] at c1 c2
    exact out (by omega)
  · simp only [decide_eq_true_eq] at c1
    exact out (by omega)
end
end U

namespace U
open PySem L2 PyProof.Rows
section
variable {P : Program} {w : World} {K : PySem.W.Frag} {mg : Str → Option Value} {base : Heap}
theorem cel_ne (d : Cel) : decide (V.str d.s = V.str "") = false := by
  refine decide_eq_false fun z => ?_
  have h := congrArg (fun v => match v with | V.str x => x.length | _ => 0) z
  have h : d.s.length = ("" : Str).length := h
  rw [d.len] at h
  exact absurd h (by decide +kernel)
def spLowerCell (CF : Addr) : Sp := fun vs H Q E => ∃ (c : Cel) (n : Nat), vs = [.str c.s, .int n] ∧ n ≤ 9 ∧ (∀ d, c.down n = some d → ∀ H', Same H H' → Q (.str d.s) H') ∧ (c.down n = none → ∀ H', Same H H' → E (.ref CF) none H')
theorem ok_lower_cell {f CN CF : Addr} {fd : FuncData} (F : Fun K "lower_cell" "lower_cell" s_lower_cell f fd) (B : Bt mg) (e_OffTable : ExcF K mg "OffTable" CF) (C_shifted : CalX P w K mg base 3 "shifted" ["cell", "rows"] (spShifted CN)) : FnOk P w K mg base (L2N.CX P w) 4 f fd ["cell", "rows"] (spLowerCell CF) := by
  refine F.okN sc_lower_cell (fun vs H Q E h => ?_) (fun cdv A outer s H vs Q E hr h => ?_)
  · obtain ⟨c, n, rfl, _⟩ := h
    rfl
  obtain ⟨c, n, rfl, hn, k1, k2⟩ := h
  refine ⟨_, (pss_cons (ps_set (i := 2) sc_lower_cell.nd rfl (Or.inl rfl) (pc_x C_shifted (hr.mono (by first | exact Nat.le_refl _ | decide | omega)) (by rfl) (L2N.passes_call (L2N.takes_of rfl rfl rfl rfl) (fun _ _ _ _ h => h)) (pa_cons (pv 0) (pa_cons (pv 1) pa_nil))))
      (pss_cons (ps_if (pt_cmpR op_eq (pv 2) pe_str (nomark _)) (pss_one (L2N.ps_raise rfl (L2N.takes_of rfl rfl rfl rfl) (pmk_x e_OffTable (by rfl) (pe_joined (.cons pe_str (.cons (pe_fmt (pv 1)) (.cons pe_str (.cons (pe_fmt (pv 0)) .nil)))))))) pss_nil)
      (pss_one (ps_ret (pv 2))))), ?_⟩
  have hr9 := c.hr
  refine ⟨_, rfl, _, rfl, c.l, (n : Int), rfl, (by show 2 ≤ 10000000; decide), fun c' hc' H1 s1 => ⟨fun d dc dr => ?_, fun off => ?_⟩, fun h => ?_⟩
  · obtain rfl := Cel.l_inj hc'
    refine ⟨_, rfl, rfl, _, rfl, ?_⟩
    rw [cel_ne]
    refine iteF ⟨_, rfl, k1 d ?_ H1 s1⟩
    have h : c.r + n < 9 := by have := d.hr; omega
    unfold Cel.down
    rw [dif_pos h]
    congr 1
    cases d
    simp only at dc dr
    subst dc
    congr 1
    omega
  · obtain rfl := Cel.l_inj hc'
    refine ⟨_, rfl, rfl, _, rfl, ?_⟩
    rw [show decide (V.str (SX.S []) = V.str "") = true by decide +kernel]
    refine iteT ⟨_, rfl, small (by decide), _, rfl, .inr ⟨_, rfl, log_small (by omega) (by omega), ?_⟩⟩
    have l7 := slen_num (n := (n : Int)) (by omega) (by omega)
    have l1 : ("no cell " : Str).length = 8 := by decide +kernel
    have l2 : (" rows below " : Str).length = 12 := by decide +kernel
    have l3 := c.len
    refine ⟨_, rfl, ?_, _, rfl, ?_, _, rfl, .inl ⟨_, rfl, small (by rw [l3]; decide), _, rfl, ?_, k2 ?_ H1 s1⟩⟩
    · rw [slen_app, slen_app, slen_empty, l1, sizeLine_eq]
      omega
    · rw [slen_app, slen_app, slen_app, slen_empty, l1, l2, sizeLine_eq]
      omega
    · rw [slen_app, slen_app, slen_app, slen_app, slen_empty, l1, l2, l3, sizeLine_eq]
      omega
    · unfold Cel.down
      exact dif_neg (by omega)
  · rw [isCelL_cel] at h
    cases h
theorem inW2 (p : Part) : inV (.str p.word) [.str "cell", .str "sum"] = (p.isCel || p.isSum) := by
  have e : ∀ z : Str, inV (.str z) [.str "cell", .str "sum"] = (decide (("cell" : Str) = z) || decide (("sum" : Str) = z)) := fun z => by
    simp [inV, eqV, Bool.beq_eq_decide_eq]
  rw [e, ← Part.w_cell, ← Part.w_sum]
  simp only [eq_comm]
def spLowered (K : PySem.W.Frag) (CF : Addr) (n : Nat) : Sp := fun vs H Q E => ∃ (o : Option Part) (v : V) (m : Nat), vs = [v, .int m] ∧ CA K H o v ∧ m ≤ 9 ∧ (∀ p, o = some p → p.hgt ≤ n) ∧ 0 < n ∧ (∀ o', lowC m o = some o' → ∀ v' H', Same H H' → CA K H' o' v' → Q v' H') ∧ (lowC m o = none → ∀ H', Same H H' → E (.ref CF) none H')
theorem ok_lowered {n k0 : Nat} {f CF : Addr} {fd : FuncData} (F : Fun K "lowered" "lowered" s_lowered f fd) (C_lower_cell : CalX P w K mg base k0 "lower_cell" ["cell", "rows"] (spLowerCell CF)) (C_lowered : CalX P w K mg base k0 "lowered" ["content", "rows"] (spLowered K CF n)) : FnOk P w K mg base (L2N.CX P w) (k0 + 1) f fd ["content", "rows"] (spLowered K CF (n + 1)) := by
  refine F.okN sc_lowered (fun vs H Q E h => ?_) (fun cdv A outer s H vs Q E hr h => ?_)
  · obtain ⟨o, v, m, rfl, _⟩ := h
    rfl
  obtain ⟨o, v, m, rfl, ap, hm, hh, _, k1, k2⟩ := h
  refine ⟨_, (pss_cons (ps_if (PW.pt (pw_or (pt_cmpR op_isN (pv 0) pe_non (nomark _)) (pw_or1 (pt_cmpR op_eq (pe_ix ix_tup (pv 0) pe_int (fun _ _ => rfl)) pe_str (nomark _))))) (pss_one (ps_ret (pv 0))) pss_nil)
      (pss_cons (ps_set (i := 2) sc_lowered.nd rfl (Or.inl rfl) (pe_ix ix_tup (pv 0) pe_int (fun _ _ => rfl)))
      (pss_cons (ps_if (pt_cmpR op_in_seq (pv 2) (pe_tup (pa_cons pe_str (pa_cons pe_str pa_nil))) (nomarkIn _)) (pss_one (ps_setLcX (i := 3) (own := [("cell", 4)])  rfl rfl rfl (L2N.takes_of rfl rfl rfl rfl) sc_lowered.nd rfl rfl (sw_true rfl rfl rfl (by decide +kernel)) (pi_tup (pe_slice sl_tup (pv 0) (po_some pe_int) po_none)) (blkOk_by (N := ["content", "rows", "word", "inner", "cell", "part"]) (sc := defScope s_lowered) (by decide +kernel)) (fun _ _ _ _ _ => pg_name (i := 4) sc_lowered.nd rfl (Or.inl rfl)) (fun _ _ _ _ _ => pts_nil) (fun _ _ _ _ _ _ px => (pc_x C_lower_cell (hr.mono (by first | exact Nat.le_refl _ | decide | omega)) (by rfl) px (pa_cons (pv 4) (pa_cons (pv 1) pa_nil)))))) (pss_one (ps_setLcX (i := 3) (own := [("part", 5)])  rfl rfl rfl (L2N.takes_of rfl rfl rfl rfl) sc_lowered.nd rfl rfl (sw_true rfl rfl rfl (by decide +kernel)) (pi_tup (pe_slice sl_tup (pv 0) (po_some pe_int) po_none)) (blkOk_by (N := ["content", "rows", "word", "inner", "cell", "part"]) (sc := defScope s_lowered) (by decide +kernel)) (fun _ _ _ _ _ => pg_name (i := 5) sc_lowered.nd rfl (Or.inl rfl)) (fun _ _ _ _ _ => pts_nil) (fun _ _ _ _ _ _ px => (pc_x C_lowered (hr.mono (by first | exact Nat.le_refl _ | decide | omega)) (by rfl) px (pa_cons (pv 5) (pa_cons (pv 1) pa_nil)))))))
      (pss_one (ps_ret (pe_tup (pa_cons (pv 2) (StX.pa_star (pv 3) pa_nil)))))))), ?_⟩
  cases o with
  | none =>
    cases (show v = V.non from ap)
    exact ⟨_, rfl, rfl, _, rfl, iteT (iteT ⟨_, rfl, k1 none rfl _ _ (.refl _) rfl⟩)⟩
  | some p =>
    have ap : PA K H p v := ap
    have hp := hh p rfl
    have k1 : ∀ p', p.low m = some p' → ∀ v' H', Same H H' → PA K H' p' v' → Q v' H' := fun p' e v' H' s' a' => k1 (some p') (by show (p.low m).map some = _; rw [e]; rfl) v' H' s' a'
    have k2 : p.low m = none → ∀ H', Same H H' → E (.ref CF) none H' := fun e => k2 (by show (p.low m).map some = _; rw [e]; rfl)
    obtain ⟨a, xs0, rfl, hT⟩ := ap.head
    refine ⟨_, rfl, rfl, _, rfl, iteF ⟨_, rfl, a, _, _, _, rfl, rfl, hT, at0, rfl, _, rfl, ?_⟩⟩
    rw [dec_s, p.w_num]
    rcases p.kinds with ⟨z, rfl⟩ | ⟨c, rfl⟩ | ⟨c, d, rfl⟩ | o
    · exact iteT ⟨_, rfl, k1 _ rfl _ _ (.refl _) ap⟩
    · obtain ⟨a', e, h1⟩ := ap
      cases e
      refine iteF ⟨_, rfl, a, _, _, _, rfl, rfl, h1, at0, _, rfl, small (by show 2 ≤ 1000; decide), fun t ht => ?_⟩
      have s1 : Same H (upd H t (.tup [.str "cell", .str "sum"])) := same_new ht _
      have g1 : SqT K (upd H t (.tup [.str "cell", .str "sum"])) t [.str "cell", .str "sum"] := SqT.of upd_same
      generalize upd H t (.tup [.str "cell", .str "sum"]) = H1 at s1 g1 ⊢
      refine ⟨t, _, rfl, .inr g1, rfl, rfl, true, congrArg V.bl (inW2 (.cel c)), iteT ⟨_, rfl, 1, rfl, a, _, rfl, Tk.same s1 _ _ h1, sl1_ne _ _, fun q hq => ?_⟩⟩
      rw [cut1]
      have s2 := s1.trans (same_new hq (.tup [V.str c.s]))
      have g2 : upd H1 q (.tup [V.str c.s]) q = some (.tup [V.str c.s]) := upd_same
      generalize upd H1 q (.tup [V.str c.s]) = H2 at s2 g2 ⊢
      refine ⟨q, rfl, ⟨_, SqT.of g2⟩, fun D hD => ?_⟩
      refine lc_tup (K := K) (a := q) (xs := [V.str c.s]) (fun i H3 => Same H2 H3 ∧ ∃ ds : List Cel, H3 D = some (.lst (ds.map fun c => V.str c.s)) ∧ ([c].take i).map (Cel.down · m) = ds.map some) ⟨same_new hD _, [], upd_same, rfl⟩ (fun i H3 _ h => SqT.of (h.1 _ _ g2)) ?_ ?_
      · rintro i x H3 hx ⟨s3, ds, g3, e3⟩
        match i, hx with
        | 0, hx =>
          obtain rfl : V.str c.s = x := by simpa using hx
          have ed : ds = [] := by cases ds with
            | nil => rfl
            | cons y r => simp at e3
          subst ed
          refine ⟨wipe_in (by decide), yes_ ⟨_, rfl, _, rfl, c, m, rfl, hm, fun d hd H4 s4 => ⟨[], s4 _ _ g3, by decide, fun c0 o0 z => ?_, [d], upd_same, by simp [hd]⟩, fun hn H4 s4 => k2 (by simp [Part.low, hn]) H4 ((s2.trans s3).trans s4)⟩⟩
          rw [upd_ne (ne_of_none z hD)]
          exact s4 _ _ (s3 _ _ z)
        | i + 1, hx => simp at hx
      · rintro H3 ⟨s3, ds, g3, e3⟩
        match ds, e3 with
        | [d], e3 =>
          have e3 : c.down m = some d := by simpa using e3
          refine ⟨_, rfl, _, rfl, D, _, rfl, .inr (SqL.of g3), small (by show 2 ≤ 1000; decide), fun r hr3 => ?_⟩
          exact k1 (.cel d) (by simp [Part.low, e3]) _ _ ((s2.trans s3).trans (same_new hr3 _)) ⟨r, rfl, SqT.of upd_same⟩
        | [], e3 => simp at e3
        | y :: z :: r, e3 => simp at e3
    · obtain ⟨a', e, h1⟩ := ap
      cases e
      refine iteF ⟨_, rfl, a, _, _, _, rfl, rfl, h1, at0, _, rfl, small (by show 2 ≤ 1000; decide), fun t ht => ?_⟩
      have s1 : Same H (upd H t (.tup [.str "cell", .str "sum"])) := same_new ht _
      have g1 : SqT K (upd H t (.tup [.str "cell", .str "sum"])) t [.str "cell", .str "sum"] := SqT.of upd_same
      generalize upd H t (.tup [.str "cell", .str "sum"]) = H1 at s1 g1 ⊢
      refine ⟨t, _, rfl, .inr g1, rfl, rfl, true, congrArg V.bl (inW2 (.sum c d)), iteT ⟨_, rfl, 1, rfl, a, _, rfl, Tk.same s1 _ _ h1, sl1_ne _ _, fun q hq => ?_⟩⟩
      rw [cut1]
      have s2 := s1.trans (same_new hq (.tup [V.str c.s, V.str d.s]))
      have g2 : upd H1 q (.tup [V.str c.s, V.str d.s]) q = some (.tup [V.str c.s, V.str d.s]) := upd_same
      generalize upd H1 q (.tup [V.str c.s, V.str d.s]) = H2 at s2 g2 ⊢
      refine ⟨q, rfl, ⟨_, SqT.of g2⟩, fun D hD => ?_⟩
      refine lc_tup (K := K) (a := q) (xs := [V.str c.s, V.str d.s]) (fun i H3 => Same H2 H3 ∧ ∃ ds : List Cel, H3 D = some (.lst (ds.map fun c => V.str c.s)) ∧ ([c, d].take i).map (Cel.down · m) = ds.map some) ⟨same_new hD _, [], upd_same, rfl⟩ (fun i H3 _ h => SqT.of (h.1 _ _ g2)) ?_ ?_
      · rintro i x H3 hx ⟨s3, ds, g3, e3⟩
        obtain ⟨e, he, hm2, rfl⟩ : ∃ e : Cel, [c, d][i]? = some e ∧ (e = c ∨ e = d) ∧ x = V.str e.s := by
          match i, hx with
          | 0, hx => exact ⟨c, rfl, .inl rfl, by simpa using hx.symm⟩
          | 1, hx => exact ⟨d, rfl, .inr rfl, by simpa using hx.symm⟩
          | i + 2, hx => simp at hx
        have hlen : ds.length ≤ 2 := by
          have h := congrArg List.length e3
          rw [List.length_map, List.length_map, List.length_take] at h
          simp only [List.length_cons, List.length_nil] at h
          omega
        refine ⟨wipe_in (by decide), yes_ ⟨_, rfl, _, rfl, e, m, rfl, hm, fun d' hd H4 s4 => ⟨_, s4 _ _ g3, ?_, fun c0 o0 z => ?_, ds ++ [d'], ?_, ?_⟩, fun hn H4 s4 => k2 ?_ H4 ((s2.trans s3).trans s4)⟩⟩
        · rw [List.length_map]
          exact small (by omega)
        · rw [upd_ne (ne_of_none z hD)]
          exact s4 _ _ (s3 _ _ z)
        · rw [upd_same, List.map_append]
          rfl
        · rw [List.take_add_one, he, List.map_append, e3, List.map_append]
          show _ ++ [e.down m] = _
          rw [hd]
          rfl
        · unfold Part.low
          rcases hm2 with rfl | rfl
          · rw [hn]
          · rw [hn]
            cases c.down m <;> rfl
      · rintro H3 ⟨s3, ds, g3, e3⟩
        match ds, e3 with
        | [u, v], e3 =>
          have e3 : c.down m = some u ∧ d.down m = some v := by simpa using e3
          refine ⟨_, rfl, _, rfl, D, _, rfl, .inr (SqL.of g3), small (by show 3 ≤ 1000; decide), fun r hr3 => ?_⟩
          exact k1 (.sum u v) (by simp [Part.low, e3.1, e3.2]) _ _ ((s2.trans s3).trans (same_new hr3 _)) ⟨r, rfl, SqT.of upd_same⟩
        | [], e3 => simp at e3
        | [u], e3 => simp at e3
        | y :: z :: r :: l, e3 => simp at e3
    · obtain ⟨n1, n2, n3⟩ := Part.op_not o
      rw [n1]
      refine iteF ⟨_, rfl, a, _, _, _, rfl, rfl, hT, at0, _, rfl, small (by show 2 ≤ 1000; decide), fun t ht => ?_⟩
      have s1 : Same H (upd H t (.tup [.str "cell", .str "sum"])) := same_new ht _
      have g1 : SqT K (upd H t (.tup [.str "cell", .str "sum"])) t [.str "cell", .str "sum"] := SqT.of upd_same
      generalize upd H t (.tup [.str "cell", .str "sum"]) = H1 at s1 g1 ⊢
      obtain ⟨a', xs, e, h1, h2⟩ := ap.node o
      cases e
      refine ⟨t, _, rfl, .inr g1, rfl, rfl, false, congrArg V.bl ((inW2 p).trans (by rw [n2, n3]; rfl)), iteF ⟨_, rfl, 1, rfl, a, _, rfl, Tk.same s1 _ _ h1, sl1_ne _ _, fun q hq => ?_⟩⟩
      rw [cut1]
      have s2 := s1.trans (same_new hq (.tup xs))
      have g2 : upd H1 q (.tup xs) q = some (.tup xs) := upd_same
      generalize upd H1 q (.tup xs) = H2 at s2 g2 ⊢
      have h3 : PAs K H2 p.kids xs := h2.tk (.same s2)
      have xl := h3.len
      have k4 : p.kids.length ≤ 4 := by cases p <;> simp [Part.kids]
      refine ⟨q, rfl, ⟨_, SqT.of g2⟩, fun D hD => ?_⟩
      refine lc_tup (K := K) (a := q) (xs := xs) (fun i H3 => Same H2 H3 ∧ ∃ (qs : List Part) (ys : List V), H3 D = some (.lst ys) ∧ PAs K H3 qs ys ∧ Lows m (p.kids.take i) qs) ⟨same_new hD _, [], [], upd_same, trivial, rfl⟩ (fun i H3 _ h => SqT.of (h.1 _ _ g2)) ?_ ?_
      · rintro i x H3 hx ⟨s3, qs, ys, g3, a3, l3⟩
        obtain ⟨k, hk, ak⟩ := h3.get hx
        have hkm : k ∈ p.kids := List.mem_of_getElem? hk
        have hkh := Part.kid_hgt hkm
        have hyl : ys.length ≤ 4 := by
          have h := congrArg List.length l3
          rw [List.length_map, List.length_map, List.length_take] at h
          have := a3.len
          omega
        refine ⟨wipe_in (by decide), yes_ ⟨_, rfl, _, rfl, some k, x, m, rfl, (show PA K H3 k x from ak.tk (.same s3)), hm, fun q e => by cases e; omega, ?_, fun o' e v' H4 s4 a4 => ?_, fun e H4 s4 => ?_⟩⟩
        · have : 0 < k.hgt := by cases k <;> simp [Part.hgt]
          omega
        · obtain ⟨k', ek, rfl⟩ : ∃ k', k.low m = some k' ∧ o' = some k' := by
            cases ek : k.low m with
            | none => simp [lowC, ek] at e
            | some k' => exact ⟨k', rfl, by simpa [lowC, ek] using e.symm⟩
          have a4 : PA K H4 k' v' := a4
          have g4 := s4 _ _ g3
          refine ⟨ys, g4, small (by omega), fun c0 o0 z => ?_, qs ++ [k'], ys ++ [v'], upd_same, ?_, ?_⟩
          · rw [upd_ne (ne_of_none z hD)]
            exact s4 _ _ (s3 _ _ z)
          · have tk5 : Tk K H4 (upd H4 D (.lst (ys ++ [v']))) := tk_upd g4 nt_lst
            exact PAs.app (a4.tk tk5) ((a3.tk (.same s4)).tk tk5)
          · rw [List.take_add_one, hk]
            exact l3.app ek
        · refine k2 (Part.low_none o hkm ?_) H4 ((s2.trans s3).trans s4)
          cases ek : k.low m with
          | none => rfl
          | some k' => simp [lowC, ek] at e
      · rintro H3 ⟨s3, qs, ys, g3, a3, l3⟩
        rw [xl, List.take_length] at l3
        have hyl : ys.length ≤ 4 := by
          have h := congrArg List.length l3
          rw [List.length_map, List.length_map] at h
          have := a3.len
          omega
        obtain ⟨r, er, ew, ek, or_⟩ := Part.low_of o l3
        refine ⟨_, rfl, _, rfl, D, _, rfl, .inr (SqL.of g3), small (by rw [List.append_nil]; simp only [List.length_cons]; omega), fun r2 hr3 => ?_⟩
        rw [List.append_nil]
        have s5 := same_new hr3 (.tup (.str p.word :: ys))
        have g5 : SqT K (upd H3 r2 (.tup (.str p.word :: ys))) r2 (.str r.word :: ys) := by rw [ew]; exact SqT.of upd_same
        have a5 : PAs K (upd H3 r2 (.tup (.str p.word :: ys))) r.kids ys := by rw [ek]; exact a3.tk (.same s5)
        exact k1 r er _ _ ((s2.trans s3).trans s5) (PA.of_node or_ g5 a5)
theorem cal_lowered {f CF : Addr} {fd : FuncData} (F : Fun K "lowered" "lowered" s_lowered f fd) (C_lower_cell : CalX P w K mg base 4 "lower_cell" ["cell", "rows"] (spLowerCell CF)) (m : mg "lowered" = some (.ref f)) (b : Binds K fd ["content", "rows"] []) : ∀ n : Nat, CalX P w K mg base (n + 4) "lowered" ["content", "rows"] (spLowered K CF n)
  | 0 => ⟨_, _, fnok_no (fun vs H Q E h => by obtain ⟨_, _, _, _, _, _, _, h, _⟩ := h; exact absurd h (Nat.lt_irrefl 0)), m, F.kp, b⟩
  | n + 1 => ⟨_, _, ok_lowered F (C_lower_cell.mono (by omega)) (cal_lowered F C_lower_cell m b n), m, F.kp, b⟩
end
end U

namespace U
open PySem L2 PyProof.Rows
section
variable {P : Program} {w : World} {K : PySem.W.Frag} {mg : Str → Option Value} {base : Heap}
/-- deeds as they are drawn: what is filled may leave the table -/
def Deed.okL : Deed → Prop
  | .set _ o => goodC o 5
  | .swap _ _ => True
  | .fill _ n => 1 ≤ n ∧ n ≤ 9
def spCheck (K : PySem.W.Frag) (CF : Addr) : Sp := fun vs H Q E => ∃ (D : Deed) (v : V), vs = [v] ∧ DA K H D v ∧ D.okL ∧ (D.okB = true → ∀ H', Same H H' → Q .non H') ∧ (D.okB = false → ∀ H', Same H H' → E (.ref CF) none H')
theorem fill_down {c : Cel} {n : Nat} (h : c.r + n < 9) : c.down n = some ⟨c.c, c.r + n, c.hc, h⟩ := by unfold Cel.down; rw [dif_pos h]
theorem is_celL (c : Cel) : isCelL c.l = true := isCelL_cel c
theorem ok_check {f CN CB CF : Addr} {fd : FuncData} (F : Fun K "check" "check" s_check f fd) (B : Bt mg) (e_NoCell : ExcF K mg "NoCell" CN) (e_OffTable : ExcF K mg "OffTable" CF) (C_is_cell : Cal P w K mg base 15 "is_cell" ["text"] spIsCell) (C_read : CalX P w K mg base 15 "read" ["text"] (spRead K CB)) (C_shifted : CalX P w K mg base 15 "shifted" ["cell", "rows"] (spShifted CN)) :
    FnOk P w K mg base (L2N.CX P w) 16 f fd ["deed"] (spCheck K CF) := by
  refine F.okN sc_check (fun vs H Q E h => ?_) (fun cdv A outer s H vs Q E hr h => ?_)
  · obtain ⟨D, v, rfl, _⟩ := h
    rfl
  obtain ⟨D, v, rfl, ⟨a, rfl, hT⟩, ok, kk, kx⟩ := h
  refine ⟨_, (pss_cons (ps_asg (pv 0) (pg_tup (by rfl) (pgs_cons (pg_name (i := 1) sc_check.nd rfl (Or.inl rfl)) (pgs_cons (pg_name (i := 2) sc_check.nd rfl (Or.inl rfl)) (pgs_cons (pg_name (i := 3) sc_check.nd rfl (Or.inl rfl)) pgs_nil)))))
      (pss_cons (ps_if (pt_not (pt_val (pc_c C_is_cell (hr.mono (by first | exact Nat.le_refl _ | decide | omega)) (by rfl) (pa_cons (pv 2) pa_nil)))) (pss_one (L2N.ps_raise rfl (L2N.takes_of rfl rfl rfl rfl) (pmk_x e_NoCell (by rfl) (pe_joined (.cons pe_str (.cons (pe_fmt (pv 2)) .nil)))))) pss_nil)
      (pss_one (ps_if (pt_cmpR op_eq (pv 1) pe_str (nomark _)) (pss_one (ps_expr (pc_x C_read (hr.mono (by first | exact Nat.le_refl _ | decide | omega)) (by rfl) (L2N.passes_call (L2N.takes_of rfl rfl rfl rfl) (fun _ _ _ _ h => h)) (pa_cons (pv 3) pa_nil)))) (pss_one (ps_if (pt_cmpR op_eq (pv 1) pe_str (nomark _)) (pss_one (ps_if (pt_not (pt_val (pc_c C_is_cell (hr.mono (by first | exact Nat.le_refl _ | decide | omega)) (by rfl) (pa_cons (pv 3) pa_nil)))) (pss_one (L2N.ps_raise rfl (L2N.takes_of rfl rfl rfl rfl) (pmk_x e_NoCell (by rfl) (pe_joined (.cons pe_str (.cons (pe_fmt (pv 3)) .nil)))))) pss_nil)) (pss_one (ps_if (PW.pt (pw_or (pt_cmpR op_lt (pv 3) pe_int (nomark _)) (pw_or1 (pt_cmpR op_eq (pc_x C_shifted (hr.mono (by first | exact Nat.le_refl _ | decide | omega)) (by rfl) (L2N.passes_call (L2N.takes_of rfl rfl rfl rfl) (fun _ _ _ _ h => h)) (pa_cons (pv 2) (pa_cons (pv 3) pa_nil))) pe_str (nomark _))))) (pss_one (L2N.ps_raise rfl (L2N.takes_of rfl rfl rfl rfl) (pmk_x e_OffTable (by rfl) (pe_joined (.cons pe_str (.cons (pe_fmt (pv 3)) (.cons pe_str (.cons (pe_fmt (pv 2)) .nil)))))))) pss_nil)))))))), ?_⟩
  cases D with
  | set c o =>
    refine ⟨_, rfl, a, _, rfl, hT, rfl, _, _, rfl, _, _, rfl, _, _, rfl, rfl, ?_⟩
    refine ⟨_, rfl, c.l, rfl, small (show c.l.length ≤ 1000 by show 2 ≤ 1000; decide), _, rfl, ?_⟩
    rw [is_celL]
    refine iteF ⟨_, rfl, rfl, _, rfl, iteT ⟨_, rfl, ctx o, rfl, Nat.le_trans (ctx_le (goodC_mono ok (by decide))) (by decide), fun o' ho v' H' s' _ => kk rfl H' s', fun h => ?_⟩⟩
    rw [rd_ctx ok] at h
    cases h
  | swap c d =>
    refine ⟨_, rfl, a, _, rfl, hT, rfl, _, _, rfl, _, _, rfl, _, _, rfl, rfl, ?_⟩
    refine ⟨_, rfl, c.l, rfl, small (show c.l.length ≤ 1000 by show 2 ≤ 1000; decide), _, rfl, ?_⟩
    rw [is_celL]
    refine iteF ⟨_, rfl, rfl, _, rfl, iteF ⟨_, rfl, rfl, _, rfl, iteT ⟨_, rfl, d.l, rfl, small (show d.l.length ≤ 1000 by show 2 ≤ 1000; decide), _, rfl, ?_⟩⟩⟩
    rw [is_celL]
    exact iteF (kk rfl _ (.refl _))
  | fill c n =>
    refine ⟨_, rfl, a, _, rfl, hT, rfl, _, _, rfl, _, _, rfl, _, _, rfl, rfl, ?_⟩
    refine ⟨_, rfl, c.l, rfl, small (show c.l.length ≤ 1000 by show 2 ≤ 1000; decide), _, rfl, ?_⟩
    rw [is_celL]
    refine iteF ⟨_, rfl, rfl, _, rfl, iteF ⟨_, rfl, rfl, _, rfl, iteF ⟨_, rfl, _, _, rfl, rfl, _, rfl, ?_⟩⟩⟩
    rw [show decide ((n : Int) < 1) = false from decide_eq_false (by have := ok.1; omega)]
    refine iteF ⟨_, rfl, _, rfl, c.l, (n : Int), rfl, (by show 2 ≤ 10000000; decide), fun c' hc' H1 s1 => ⟨fun d dc dr => ?_, fun off => ?_⟩, fun h => ?_⟩
    · obtain rfl := Cel.l_inj hc'
      refine ⟨rfl, _, rfl, ?_⟩
      rw [cel_ne]
      exact iteF (kk (decide_eq_true (by have := d.hr; omega)) _ s1)
    · obtain rfl := Cel.l_inj hc'
      refine ⟨rfl, _, rfl, ?_⟩
      rw [show decide (V.str (SX.S []) = V.str "") = true by decide +kernel]
      have ho1 := ok.1
      have ho2 := ok.2
      have l7 := slen_num (n := (n : Int)) (by omega) (by omega)
      have l1 : ("no " : Str).length = 3 := by decide +kernel
      have l2 : (" cells to fill below " : Str).length = 21 := by decide +kernel
      have l3 := c.len
      refine iteT ⟨_, rfl, small (by decide), _, rfl, .inr ⟨_, rfl, log_small (by omega) (by omega), ?_⟩⟩
      refine ⟨_, rfl, ?_, _, rfl, ?_, _, rfl, .inl ⟨_, rfl, small (by rw [l3]; decide), _, rfl, ?_, kx (decide_eq_false (by omega)) H1 s1⟩⟩
      · rw [slen_app, slen_app, slen_empty, l1, sizeLine_eq]
        omega
      · rw [slen_app, slen_app, slen_app, slen_empty, l1, l2, sizeLine_eq]
        omega
      · rw [slen_app, slen_app, slen_app, slen_app, slen_empty, l1, l2, l3, sizeLine_eq]
        omega
    · rw [is_celL] at h
      cases h
def Deed.us : Deed → List Str
  | .set c _ => [c.s]
  | .swap c d => [c.s, d.s]
  | .fill c n => (List.range (n + 1)).map c.dn
theorem range_snoc {α : Type} (f : Nat → α) (i : Nat) : (List.range (i + 1)).map f = (List.range i).map f ++ [f i] := by rw [List.range_succ, List.map_append]; rfl
end
end U

namespace U
open PySem L2 PyProof.Rows
section
variable {P : Program} {w : World} {K : PySem.W.Frag} {mg : Str → Option Value} {base : Heap}
theorem con_isD {H : Hp} {d : Addr} {cs : List (Str × Part)} (h : Con K H d cs) : IsD H d := let ⟨kvs, rd, _⟩ := h; .inl ⟨kvs, rd⟩
theorem con_get {H : Hp} {d : Addr} {cs : List (Str × Part)} (h : Con K H d cs) (x : Str) : ∃ o, DGet H d (.str x) o ∧ CA K H (lk cs x) (o.getD .non) := by
  obtain ⟨kvs, rd, al⟩ := h
  refine ⟨_, DGet.s rd, ?_⟩
  rcases al.val x with ⟨q1, q2⟩ | ⟨p, v, q1, q2, q3⟩
  · rw [q1, q2]
    exact rfl
  · rw [q1, q2]
    exact q3
theorem fillN_none {c : Cel} {o : Option Part} {i : Nat} (h : lowC (i + 1) o = none) : ∀ {n : Nat}, i < n → fillN c o n = none
  | n + 1, hn => by
    unfold fillN
    by_cases e : i = n
    · subst e
      rw [h]
      cases fillN c o i <;> rfl
    · rw [fillN_none h (n := n) (by omega)]
def spNewer (K : PySem.W.Frag) (CF : Addr) : Sp := fun vs H Q E => ∃ (d : Addr) (cs : List (Str × Part)) (D : Deed) (v : V), vs = [.ref d, v] ∧ Con K H d cs ∧ CsOk cs ∧ DA K H D v ∧ D.okL ∧
  (∀ ns, D.nx cs = some ns → ∀ (r : Addr) (H' : Hp) (tab : List (Key × V)), H r = none → Same H H' → H' r = some (.dK tab) → Al (CA K H') ns tab → Q (.ref r) H') ∧ (D.nx cs = none → ∀ H', Same H H' → E (.ref CF) none H')
theorem ok_newer {f CN CB CF : Addr} {fd : FuncData} (F : Fun K "newer_contents" "newer_contents" s_newer_contents f fd) (B : Bt mg) (C_check : CalX P w K mg base 17 "check" ["deed"] (spCheck K CF)) (C_read : CalX P w K mg base 17 "read" ["text"] (spRead K CB)) (C_shifted : CalX P w K mg base 17 "shifted" ["cell", "rows"] (spShifted CN)) (C_lowered : CalX P w K mg base 17 "lowered" ["content", "rows"] (spLowered K CF 6)) :
    FnOk P w K mg base (L2N.CX P w) 18 f fd ["contents", "deed"] (spNewer K CF) := by
  refine F.okN sc_newer_contents (fun vs H Q E h => ?_) (fun cdv A outer s H vs Q E hr h => ?_)
  · obtain ⟨d, cs, D, v, rfl, _⟩ := h
    rfl
  obtain ⟨dd, cs, D, v, rfl, con, cok, ⟨a, rfl, hT⟩, ok, kk, kx⟩ := h
  refine ⟨_, (pss_cons (ps_expr (pc_x C_check (hr.mono (by first | exact Nat.le_refl _ | decide | omega)) (by rfl) (L2N.passes_call (L2N.takes_of rfl rfl rfl rfl) (fun _ _ _ _ h => h)) (pa_cons (pv 1) pa_nil)))
      (pss_cons (ps_asg (pv 1) (pg_tup (by rfl) (pgs_cons (pg_name (i := 2) sc_newer_contents.nd rfl (Or.inl rfl)) (pgs_cons (pg_name (i := 3) sc_newer_contents.nd rfl (Or.inr rfl)) (pgs_cons (pg_name (i := 4) sc_newer_contents.nd rfl (Or.inl rfl)) pgs_nil)))))
      (pss_cons (ps_if (pt_cmpR op_eq (pv 2) pe_str (nomark _)) (pss_one (ps_ret (pe_disp (pps_cons (pv 3) (pc_x C_read (hr.mono (by first | exact Nat.le_refl _ | decide | omega)) (by rfl) (L2N.passes_call (L2N.takes_of rfl rfl rfl rfl) (fun _ _ _ _ h => h)) (pa_cons (pv 4) pa_nil)) pps_nil) (by rfl) (by rfl) (by intro z; cases z) (by decide)))) pss_nil)
      (pss_cons (ps_if (pt_cmpR op_eq (pv 2) pe_str (nomark _)) (pss_one (ps_ret (pe_disp (pps_cons (pv 3) (pe_dget1 (hu_of hr) (pv 0) (pv 4) ⟨rfl, rfl, rfl, rfl⟩) (pps_cons (pv 4) (pe_dget1 (hu_of hr) (pv 0) (pv 3) ⟨rfl, rfl, rfl, rfl⟩) pps_nil)) (by rfl) (by rfl) (by intro z; cases z) (by decide)))) pss_nil)
      (pss_cons (ps_set (i := 5) sc_newer_contents.nd rfl (Or.inr rfl) (pe_dget1 (hu_of hr) (pv 0) (pv 3) ⟨rfl, rfl, rfl, rfl⟩))
      (pss_one (ps_ret (pe_dcX (own := [("rows", 6)])  rfl rfl rfl (L2N.takes_of rfl rfl rfl rfl) sc_newer_contents.nd (pi_range2 (by rfl) B.range (pa_cons pe_int (pa_cons (pe_op op_add (pv 4) pe_int) pa_nil))) (blkOk_by (N := ["contents", "deed", "word", "cell", "third", "copied", "rows"]) (sc := defScope s_newer_contents) (by decide +kernel)) (fun _ _ _ _ _ => pg_name (i := 6) sc_newer_contents.nd rfl (Or.inl rfl)) (fun _ _ _ _ _ => pts_nil) (fun _ _ _ _ _ => (pc_x C_shifted (hr.mono (by first | exact Nat.le_refl _ | decide | omega)) (by rfl) passX0 (pa_cons (pv 3) (pa_cons (pv 6) pa_nil)))) (fun _ _ _ _ _ _ px => (pc_x C_lowered (hr.mono (by first | exact Nat.le_refl _ | decide | omega)) (by rfl) px (pa_cons (pv 5) (pa_cons (pv 6) pa_nil)))))))))))), ?_⟩
  refine ⟨_, rfl, D, _, rfl, ⟨a, rfl, hT⟩, ok, fun hB H1 s1 => ?_, fun hB H1 s1 => kx (Deed.nx_off hB) H1 s1⟩
  rw [Deed.nx_on hB] at kk kx
  have hT1 := Tk.same s1 _ _ hT
  have con1 := con.same s1
  cases D with
  | set c o =>
    refine ⟨_, rfl, a, _, rfl, hT1, rfl, _, _, rfl, _, _, rfl, _, _, rfl, rfl, ?_⟩
    refine ⟨_, rfl, rfl, _, rfl, iteT fun p hp => ⟨_, rfl, _, rfl, ctx o, rfl, Nat.le_trans (ctx_le (goodC_mono ok (by decide))) (by decide), fun o' ho v' H' s' ca => ?_, fun h => ?_⟩⟩
    · rw [rd_ctx ok] at ho
      cases ho
      refine ⟨s' _ _ upd_same, [(Sum.inr c.s, v')], rfl, by show 1 ≤ 15; decide, ?_⟩
      have g1 := s' _ _ (upd_same (H := H1) (a := p) (o := .dK []))
      refine kk _ rfl p _ _ (s1.free hp) (s1.trans fun c0 o0 e => ?_) upd_same ?_
      · rw [upd_ne (ne_of_none e hp)]
        exact s' _ _ (same_new hp _ _ _ e)
      · exact Al.put (x := c.s) (show Al (CA K _) [] [] from trivial) (ca.tk (tk_upd g1 nt_dK))
    · rw [rd_ctx ok] at h
      cases h
  | swap c d =>
    refine ⟨_, rfl, a, _, rfl, hT1, rfl, _, _, rfl, _, _, rfl, _, _, rfl, rfl, ?_⟩
    refine ⟨_, rfl, rfl, _, rfl, iteF ⟨_, rfl, rfl, _, rfl, iteT fun p hp => ?_⟩⟩
    have con2 := con1.same (same_new hp (.dK []))
    obtain ⟨o1, g1, c1⟩ := con_get con2 d.s
    obtain ⟨o2, g2, c2⟩ := con_get con2 c.s
    refine ⟨_, rfl, _, rfl, dd, rfl, con_isD con2, _, rfl, o1, g1, _, rfl, _, rfl, dd, rfl, con_isD con2, _, rfl, o2, g2, upd_same, [(Sum.inr c.s, o1.getD .non), (Sum.inr d.s, o2.getD .non)], rfl, by show 2 ≤ 15; decide, ?_⟩
    have tk := tk_upd (K := K) (v := .dK (mergeK [] [(Sum.inr c.s, o1.getD .non), (Sum.inr d.s, o2.getD .non)])) (upd_same (H := H1) (a := p) (o := .dK [])) nt_dK
    refine kk _ rfl p _ _ (s1.free hp) (s1.trans fun c0 o0 e => ?_) upd_same ?_
    · rw [upd_ne (ne_of_none e hp)]
      exact same_new hp _ _ _ e
    · exact Al.put (x := d.s) (Al.put (x := c.s) (show Al (CA K _) [] [] from trivial) (c1.tk tk)) (c2.tk tk)
  | fill c n =>
    refine ⟨_, rfl, a, _, rfl, hT1, rfl, _, _, rfl, _, _, rfl, _, _, rfl, rfl, ?_⟩
    have hn : c.r + n < 9 := of_decide_eq_true hB
    have hn1 := ok.1
    obtain ⟨o1, g1, c1⟩ := con_get con1 c.s
    refine ⟨_, rfl, rfl, _, rfl, iteF ⟨_, rfl, rfl, _, rfl, iteF ⟨_, rfl, dd, rfl, con_isD con1, _, rfl, o1, g1, ?_⟩⟩⟩
    generalize o1.getD .non = v1 at c1 ⊢
    refine ⟨_, rfl, _, _, rfl, rfl, 1, (n : Int) + 1, rfl, ⟨by decide, by decide, by omega, by omega⟩, fun D hD => ?_⟩
    rw [show ((n : Int) + 1 - 1).toNat = n by omega]
    refine itw_loop walk_range (fun i H3 => Same H1 H3 ∧ ∃ ns tab, fillN c (lk cs c.s) i = some ns ∧ ns.length ≤ i ∧ H3 D = some (.dK tab) ∧ Al (CA K H3) ns tab) ⟨same_new hD _, [], [], rfl, Nat.le_refl _, upd_same, trivial⟩ (fun _ _ _ _ => trivial) ?_ ?_
    · rintro i x H3 H4 hi ⟨s3, ns, tab, e3, l3, g3, a3⟩ ⟨rfl, hx⟩
      have hx : x = V.int (1 + (i : Int)) := hx
      rw [show (1 : Int) + i = ((i + 1 : Nat) : Int) by omega] at hx
      subst hx
      have hd := fill_down (c := c) (n := i + 1) (by omega)
      refine ⟨wipe_in (by decide), yes_ ⟨_, rfl, _, rfl, c.l, ((i + 1 : Nat) : Int), rfl, (by show 2 ≤ 10000000; decide), fun c' hc' H5 s5 => ⟨fun d dc dr => ?_, fun off => ?_⟩, fun h => ?_⟩⟩
      · obtain rfl := Cel.l_inj hc'
        have gl := good_lk cok c.s
        have e : d.s = c.dn (i + 1) := by
          rw [Cel.dn_some hd]
          congr 1
          cases d
          simp only at dc dr
          subst dc
          congr 1
          omega
        refine ⟨_, rfl, _, rfl, lk cs c.s, v1, i + 1, rfl, c1.tk (.same (s3.trans s5)), by omega, fun p hp => ?_, by decide, fun o' ho v' H6 s6 c6 => ?_, fun hno H6 s6 => kx (fillN_none hno hi) H6 (((s1.trans s3).trans s5).trans s6)⟩
        · rw [hp] at gl
          exact Nat.le_trans gl.2 (by decide)
        · have g6 := s6 _ _ (s5 _ _ g3)
          have l6 := a3.len
          have tk := tk_upd (K := K) (v := .dK (putK tab (Sum.inr d.s) v')) g6 nt_dK
          refine ⟨tab, Sum.inr d.s, rfl, g6, small (by omega), fun c0 o0 z => ?_, put ns (c.dn (i + 1)) o', _, ?_, Nat.le_trans put_len (by omega), upd_same, ?_⟩
          · rw [upd_ne (ne_of_none z hD)]
            exact s6 _ _ (s5 _ _ (s3 _ _ z))
          · unfold fillN
            rw [e3, ho]
          · rw [e]
            rw [e] at tk
            exact Al.put (a3.mono fun _ _ q => CA.tk tk (CA.tk (.same (s5.trans s6)) q)) (c6.tk tk)
      · obtain rfl := Cel.l_inj hc'
        omega
      · rw [is_celL] at h
        cases h
    · rintro H3 ⟨s3, ns, tab, e3, l3, g3, a3⟩
      exact kk ns e3 D H3 tab (s1.free hD) (s1.trans s3) g3 a3
end
end U

namespace U
open PySem L2 PyProof.Rows
section
variable {P : Program} {w : World} {K : PySem.W.Frag} {mg : Str → Option Value} {base : Heap}
def spReplaced (K : PySem.W.Frag) : Sp := fun vs H Q _ => ∃ (d e : Addr) (cs : List (Str × Part)) (ns : List (Str × Option Part)), vs = [.ref d, .ref e] ∧ Con K H d cs ∧ NCon K H e ns ∧ CsOk cs ∧ NsOk ns ∧
  ∀ (r : Addr) (H' : Hp) (tab : List (Key × V)), H r = none → Same H H' → H' r = some (.dK tab) → Al (PA K H') (rep cs ns) tab → Q (.ref r) H'
theorem rd_ne {H : Hp} {d p : Addr} {u : HO} (h : Rd H d u) (n : H p = none) : d ≠ p := h.elim (fun e => ne_of_none e n) fun ⟨_, e⟩ => ne_of_none e n
theorem ok_replaced {f : Addr} {fd : FuncData} (F : Fun K "replaced" "replaced" s_replaced f fd) (B : Bt mg) : FnOk P w K mg base CX0 1 f fd ["contents", "newer"] (spReplaced K) := by
  refine F.ok sc_replaced (fun vs H Q E h => ?_) (fun cdv A outer s H vs Q E hr h => ?_)
  · obtain ⟨d, e, cs, ns, rfl, _⟩ := h
    rfl
  obtain ⟨d, e, cs, ns, rfl, ⟨kvs, hd, al⟩, ⟨kws, he, an⟩, ok, no, kk⟩ := h
  have hu := hu_of hr
  refine ⟨_, (pss_cons (ps_set (i := 2) sc_replaced.nd rfl (Or.inr rfl) (pe_merge (pv 0) (pv 1)))
      (pss_one (ps_ret (pe_lock (pe_dc (own := [("cell", 3)])  rfl sc_replaced.nd (pi_keys (pv 2)) (blkOk_by (N := ["contents", "newer", "merged", "cell"]) (sc := defScope s_replaced) (by decide +kernel)) (fun _ _ _ _ _ => pg_name (i := 3) sc_replaced.nd rfl (Or.inl rfl)) (fun _ _ _ _ _ => (pts_one (pt_cmpR op_notN (pe_dget hu (pv 2) (pv 3) (fun _ _ => rfl)) pe_non (nomark _)))) (fun _ _ _ _ _ => (pv 3)) (fun _ _ _ _ _ => (pe_dget hu (pv 2) (pv 3) (fun _ _ => rfl)))))))), ?_⟩
  refine fun p hp => ?_
  have ndp := rd_ne hd hp
  have nep := rd_ne he hp
  have l1 := al.len
  have l2 := ok.len
  have l3 := an.len
  have l4 := no.len
  have s1 : Same H (upd H p (.dK [])) := same_new hp _
  have h2p : upd (upd H p (.dK [])) p (.dK (mergeK [] kvs)) p = some (.dK (mergeK [] kvs)) := upd_same
  have s2 : Same H (upd (upd H p (.dK [])) p (.dK (mergeK [] kvs))) := fun c0 o0 z => by
    rw [upd_ne (ne_of_none z hp)]
    exact s1 _ _ z
  refine ⟨_, rfl, upd_same, d, kvs, rfl, ndp, Same.rd s1 hd, by omega, _, rfl, h2p, e, kws, rfl, nep, Same.rd s2 he, by omega, ?_⟩
  generalize upd (upd H p (.dK [])) p (.dK (mergeK [] kvs)) = H2 at s2 h2p ⊢
  have s3 : Same H (upd H2 p (.dK (mergeK (mergeK [] kvs) kws))) := fun c0 o0 z => by
    rw [upd_ne (ne_of_none z hp)]
    exact s2 _ _ z
  have g3 : upd H2 p (.dK (mergeK (mergeK [] kvs) kws)) p = some (.dK (mergeK (mergeK [] kvs) kws)) := upd_same
  generalize upd H2 p (.dK (mergeK (mergeK [] kvs) kws)) = H3 at s3 g3 ⊢
  have am : Al (CA K H3) (mrg cs ns) (mergeK (mergeK [] kvs) kws) :=
    Al.merge (Al.merge (show Al (CA K H3) [] [] from trivial) (Al.up (al.mono fun _ _ q => PA.tk (Tk.same s3) q))) (an.mono fun _ _ q => CA.tk (Tk.same s3) q)
  have lm := mrg_len ok no
  have nm := mrg_nodup cs ns
  generalize mergeK (mergeK [] kvs) kws = tab at g3 am
  generalize hmm : mrg cs ns = ms at am lm nm
  refine ⟨p, _, g3, trivial, fun od => ⟨_, rfl, p, od, rfl, .inl ⟨tab, upd_same, fun D hD => ?_⟩⟩⟩
  have am1 : Al (CA K (upd H3 p (.frz od (.dK tab)))) ms tab := am.mono fun _ _ q => CA.tk (tk_upd g3 nt_dK) q
  have hd1 : upd H3 p (.frz od (.dK tab)) p = some (.frz od (.dK tab)) := upd_same
  have hl := am.len
  refine itw_loop walk_keys (fun i H4 => Same (upd H3 p (.frz od (.dK tab))) H4 ∧ ∃ tb : List (Key × V), H4 D = some (.dK tb) ∧ Al (PA K H4) (comp (ms.take i)) tb) ⟨same_new hD _, [], upd_same, trivial⟩ (fun i H4 _ h => h.1 _ _ hd1) ?_ ?_
  · rintro i x H4 H5 hi ⟨s4, tb, d4, t4⟩ ⟨rfl, kk', vv, hk, rfl⟩
    obtain ⟨t, o, hc, rfl, ca⟩ := am1.get hk
    have hp2 := lk_of_mem nm (List.mem_of_getElem? hc)
    obtain ⟨v, hv, pv⟩ := am1.some hp2
    refine ⟨wipe_in (by decide), _, rfl, _, rfl, p, v, rfl, hv ▸ DGet.s (.inr ⟨od, s4 _ _ hd1⟩), ?_⟩
    have pv4 := CA.tk (Tk.same s4) pv
    cases o with
    | none =>
      cases (show v = V.non from pv4)
      refine ⟨rfl, _, rfl, iteF ⟨s4, tb, d4, ?_⟩⟩
      rw [take_next hc, comp_app, comp_cons_none]
      show Al _ (comp (ms.take i) ++ []) _
      rw [List.append_nil]
      exact t4
    | some q =>
      obtain ⟨a, xs0, rfl, hT⟩ := PA.head (show PA K _ q v from pv4)
      refine ⟨rfl, _, rfl, iteT ⟨_, rfl, _, rfl, _, rfl, p, _, rfl, hv ▸ DGet.s (.inr ⟨od, s4 _ _ hd1⟩), tb, Sum.inr t, rfl, d4, ?_, fun c o e => ?_, _, upd_same, ?_⟩⟩
      · have h1 := t4.len
        have h2 : (comp (ms.take i)).length ≤ (ms.take i).length := List.length_filterMap_le _ _
        rw [List.length_take] at h2
        exact small (by omega)
      · rw [upd_ne (ne_of_none e hD)]
        exact s4 _ _ e
      · have tk5 : Tk K H5 (upd H5 D (.dK (putK tb (Sum.inr t) (.ref a)))) := tk_upd d4 nt_dK
        have e : comp (ms.take (i + 1)) = put (comp (ms.take i)) t q := by
          rw [put_new fun m => take_new hc nm (comp_ks m), take_next hc, comp_app, comp_cons_some]
          rfl
        rw [e]
        exact Al.put (t4.mono fun _ _ q => PA.tk tk5 q) (PA.tk tk5 pv4)
  · rintro H4 ⟨s4, tb, d4, t4⟩
    rw [hl, List.take_length] at t4
    obtain ⟨n1, n2⟩ := lock_free hD
    have e4 := s4 _ _ hd1
    refine ⟨e4, kk D _ tb (s3.free n2) (s3.trans (unlock_same g3 s4)) (by rw [upd_ne n1]; exact d4) ?_⟩
    unfold rep
    rw [hmm]
    exact t4.mono fun _ _ q => PA.tk (tk_upd e4 nt_frz) q
theorem nx_ok {cs : List (Str × Part)} (cok : CsOk cs) {D : Deed} (h : D.okL) {ns : List (Str × Option Part)} (e : D.nx cs = some ns) : NsOk ns := by
  obtain ⟨hb, hn⟩ := Deed.nx_some e
  refine nw_ok cok ?_ hn
  cases D with
  | set c o => exact h
  | swap c d => trivial
  | fill c n => exact ⟨h.1, of_decide_eq_true hb⟩
def spChanges (K : PySem.W.Frag) (CF : Addr) : Sp := fun vs H Q E => ∃ (d : Addr) (cs : List (Str × Part)) (D : Deed) (v : V), vs = [.ref d, v] ∧ Con K H d cs ∧ CsOk cs ∧ DA K H D v ∧ D.okL ∧
  (∀ ns, D.nx cs = some ns → ∀ L : List Str, L.Perm (ks ns) → L.Pairwise leS → ∀ (r : Addr) (H' : Hp) (xs : List V), H r = none → Same H H' → H' r = some (.lst xs) → RAs K H' (rows cs ns L) xs → Q (.ref r) H') ∧ (D.nx cs = none → ∀ H', Same H H' → E (.ref CF) none H')
theorem rows_app (cs : List (Str × Part)) (ns : List (Str × Option Part)) (a b : List Str) : rows cs ns (a ++ b) = rows cs ns a ++ rows cs ns b := by
  unfold rows
  rw [List.filter_append, List.map_append]
theorem rows_len {cs : List (Str × Part)} {ns : List (Str × Option Part)} {l : List Str} : (rows cs ns l).length ≤ l.length := by
  unfold rows
  rw [List.length_map]
  exact List.length_filter_le _ _
theorem ok_changes {f CF : Addr} {fd : FuncData} (F : Fun K "changes" "changes" s_changes f fd) (B : Bt mg) (C_newer_contents : CalX P w K mg base 18 "newer_contents" ["contents", "deed"] (spNewer K CF)) : FnOk P w K mg base (L2N.CX P w) 19 f fd ["contents", "deed"] (spChanges K CF) := by
  refine F.okN sc_changes (fun vs H Q E h => ?_) (fun cdv A outer s H vs Q E hr h => ?_)
  · obtain ⟨d, cs, D, v, rfl, _⟩ := h
    rfl
  obtain ⟨dd, cs, D, v, rfl, con, cok, da, ok, kk, kx⟩ := h
  have hu := hu_of hr
  refine ⟨_, (pss_cons (ps_set (i := 2) sc_changes.nd rfl (Or.inr rfl) (pc_x C_newer_contents (hr.mono (by first | exact Nat.le_refl _ | decide | omega)) (by rfl) (L2N.passes_call (L2N.takes_of rfl rfl rfl rfl) (fun _ _ _ _ h => h)) (pa_cons (pv 0) (pa_cons (pv 1) pa_nil))))
      (pss_one (ps_ret (pe_lc (own := [("cell", 3)])  rfl sc_changes.nd (pi_list (pe_callB (call_sortedD rfl) (by rfl) B.sorted boot_sorted (pa_cons (pv 2) pa_nil))) (blkOk_by (N := ["contents", "deed", "newer", "cell"]) (sc := defScope s_changes) (by decide +kernel)) (fun _ _ _ _ _ => pg_name (i := 3) sc_changes.nd rfl (Or.inl rfl)) (fun _ _ _ _ _ => (pts_one (pt_cmpR (op_neD_K (K := K) hr.units rfl) (pe_dget1 (hu_of hr) (pv 0) (pv 3) ⟨rfl, rfl, rfl, rfl⟩) (pe_dget hu (pv 2) (pv 3) (fun _ _ => rfl)) (nomark _)))) (fun _ _ _ _ _ => (pe_tup (pa_cons (pv 3) (pa_cons (pe_dget1 (hu_of hr) (pv 0) (pv 3) ⟨rfl, rfl, rfl, rfl⟩) (pa_cons (pe_dget hu (pv 2) (pv 3) (fun _ _ => rfl)) pa_nil))))))))), ?_⟩
  refine ⟨_, rfl, _, rfl, dd, cs, D, v, rfl, con, cok, da, ok, fun ns hns e H1 tab he s1 g1 an => ?_, fun h H1 s1 => kx h H1 s1⟩
  have no := nx_ok cok ok hns
  have con1 := con.same s1
  refine ⟨_, rfl, e, tab, ks ns, rfl, .inl g1, an.keys, ?_, fun ys p hy hso hp => ?_⟩
  · have := no.len
    unfold ks
    rw [List.length_map]
    omega
  have s2 : Same H1 (upd H1 p (.lst (ys.map V.str))) := same_new hp _
  have g2 : upd H1 p (.lst (ys.map V.str)) p = some (.lst (ys.map V.str)) := upd_same
  generalize upd H1 p (.lst (ys.map V.str)) = H2 at s2 g2 ⊢
  have yl : ys.length ≤ 54 := by
    have h1 := hy.length_eq
    have h2 := no.len
    unfold ks at h1
    rw [List.length_map] at h1
    omega
  have con2 := con1.same s2
  have an2 : Al (CA K H2) ns tab := an.mono fun _ _ q => CA.tk (Tk.same s2) q
  refine ⟨p, rfl, ⟨_, SqL.of g2⟩, fun D2 hD => ?_⟩
  refine lc_list (K := K) (a := p) (xs := ys.map V.str) (fun i H3 => Same H2 H3 ∧ ∃ xs : List V, H3 D2 = some (.lst xs) ∧ RAs K H3 (rows cs ns (ys.take i)) xs) ⟨same_new hD _, [], upd_same, trivial⟩ (fun i H3 _ h => SqL.of (h.1 _ _ g2)) ?_ ?_
  · rintro i x H3 hx ⟨s3, xs, g3, r3⟩
    obtain ⟨t, ht, rfl⟩ : ∃ t, ys[i]? = some t ∧ x = V.str t := by
      rw [List.getElem?_map] at hx
      cases q : ys[i]? with
      | none => rw [q] at hx; simp at hx
      | some t => rw [q] at hx; exact ⟨t, rfl, by simpa using hx.symm⟩
    have con3 := con2.same s3
    obtain ⟨o, hg, c1⟩ := con_get con3 t
    have htm : t ∈ ks ns := hy.mem_iff.mp (List.mem_of_getElem? ht)
    obtain ⟨n1, hn1⟩ := lk_some htm
    obtain ⟨u, hu1, c2⟩ := (an2.mono fun _ _ q => CA.tk (Tk.same s3) q : Al (CA K H3) ns tab).some hn1
    have g13 := s3 _ _ (s2 _ _ g1)
    have ga := good_lk cok t
    have gb := no.gd _ (lk_mem hn1)
    have env : nv ns t = n1 := by unfold nv; rw [hn1]; rfl
    refine ⟨wipe_in (by decide), _, rfl, dd, rfl, con_isD con3, _, rfl, o, hg, _, rfl, _, rfl, e, u, rfl, hu1 ▸ DGet.s (.inl g13), _, _, c1.dp, c2.dp, oD_shaped (goodC_mono ga (by decide)), oD_shaped (goodC_mono gb (by decide)), ?_⟩
    rw [eqv_oD]
    refine ⟨_, rfl, ?_⟩
    by_cases hq : lk cs t = n1
    · rw [decide_eq_true hq]
      refine iteF ⟨s3, xs, g3, ?_⟩
      rw [List.take_add_one, ht, rows_app]
      have : rows cs ns [t] = [] := by
        unfold rows
        rw [List.filter_cons, env, decide_eq_true hq]
        rfl
      show RAs K H3 (rows cs ns (ys.take i) ++ rows cs ns [t]) xs
      rw [this, List.append_nil]
      exact r3
    · rw [decide_eq_false hq]
      refine iteT ⟨_, rfl, _, rfl, dd, rfl, con_isD con3, _, rfl, o, hg, _, rfl, _, rfl, e, u, rfl, hu1 ▸ DGet.s (.inl g13), small (by show 3 ≤ 1000; decide), fun q hq2 => ?_⟩
      have s4 := same_new hq2 (.tup [V.str t, o.getD .non, u])
      have g4 : SqT K (upd H3 q (.tup [V.str t, o.getD .non, u])) q [V.str t, o.getD .non, u] := SqT.of upd_same
      generalize upd H3 q (.tup [V.str t, o.getD .non, u]) = H4 at s4 g4 ⊢
      have gx := s4 _ _ g3
      have lx := r3.len
      have ll := rows_len (cs := cs) (ns := ns) (l := ys.take i)
      rw [List.length_take] at ll
      refine ⟨xs, gx, small (by omega), fun c0 o0 z => ?_, xs ++ [.ref q], upd_same, ?_⟩
      · rw [upd_ne (ne_of_none z hD)]
        exact s4 _ _ (s3 _ _ z)
      · have tk5 : Tk K H4 (upd H4 D2 (.lst (xs ++ [.ref q]))) := tk_upd gx nt_lst
        rw [List.take_add_one, ht, rows_app]
        have : rows cs ns [t] = [(t, lk cs t, n1)] := by
          unfold rows
          rw [List.filter_cons, env, decide_eq_false hq]
          show [(t, lk cs t, nv ns t)] = _
          rw [env]
        show RAs K _ (rows cs ns (ys.take i) ++ rows cs ns [t]) _
        rw [this]
        exact RAs.snoc ((r3.tk (.same s4)).tk tk5) ⟨q, _, _, rfl, tk5 _ _ g4, (c1.tk (.same s4)).tk tk5, (c2.tk (.same s4)).tk tk5⟩
  · rintro H3 ⟨s3, xs, g3, r3⟩
    rw [List.length_map, List.take_length] at r3
    exact kk ns hns ys hy (sortedS_pw hso) D2 H3 xs (s1.free (s2.free hD)) ((s1.trans s2).trans s3) g3 r3
end
end U

namespace U
open PySem L2 PyProof.Rows
section
variable {P : Program} {w : World} {K : PySem.W.Frag} {mg : Str → Option Value} {base : Heap}
theorem cel_down {c : Cel} {n : Nat} {Q : VK} {H : Hp} (k : Q (.str (c.dn n)) H) : (∀ d : Cel, d.c = c.c → (d.r : Int) = c.r + (n : Int) → Q (.str d.s) H) ∧ ((c.r : Int) + (n : Int) < 0 ∨ 9 ≤ (c.r : Int) + (n : Int) → Q (.str (SX.S [])) H) := by
  constructor
  · intro d dc dr
    have h : c.r + n < 9 := by have := d.hr; omega
    have e : d.s = c.dn n := by
      rw [Cel.dn_some (fill_down h)]
      congr 1
      cases d
      simp only at dc dr
      subst dc
      congr 1
      omega
    rw [e]
    exact k
  · intro h
    have e : c.down n = none := by unfold Cel.down; exact dif_neg (by omega)
    have e2 : c.dn n = SX.S [] := by
      unfold Cel.dn
      rw [e]
      decide +kernel
    rw [← e2]
    exact k
def spDn : Sp := fun vs H Q _ => ∃ (c : Cel) (n : Nat), vs = [.str c.s, .int n] ∧ n ≤ 9 ∧ Q (.str (c.dn n)) H
theorem dn_down {vs : List V} {H : Hp} {Q : VK} {E : XK} (h : spDn vs H Q E) : spDown vs H Q E := by
  obtain ⟨c, n, e, hn, k⟩ := h
  exact ⟨c, n, e, by omega, by omega, cel_down k⟩
def spUsesL (K : PySem.W.Frag) : Sp := fun vs H Q _ => ∃ (D : Deed) (v : V), vs = [v] ∧ DA K H D v ∧ D.okL ∧ ∀ (r : Addr) (H' : Hp), H r = none → Same H H' → H' r = some (.lst (D.us.map V.str)) → Q (.ref r) H'
theorem ok_luses {f : Addr} {fd : FuncData} (F : Fun K "_law_uses" "_law_uses" s_l_uses f fd) (B : Bt mg) (C_l_down : Cal P w K mg base 1 "_law_down" ["_law_cell_here", "_law_rows"] spDn) : FnOk P w K mg base CX0 2 f fd ["_law_deed_here"] (spUsesL K) := by
  refine F.ok sc_l_uses (fun vs H Q E h => ?_) (fun cdv A outer s H vs Q E hr h => ?_)
  · obtain ⟨D, v, rfl, _⟩ := h
    rfl
  obtain ⟨D, v, rfl, ⟨a, rfl, hT⟩, ok, kk⟩ := h
  refine ⟨_, (pss_cons (ps_if (pt_cmpR op_eq (pe_ix ix_tup (pv 0) pe_int (fun _ _ => rfl)) pe_str (nomark _)) (pss_one (ps_ret (pe_lst (pa_cons (pe_ix ix_tup (pv 0) pe_int (fun _ _ => rfl)) pa_nil)))) pss_nil)
      (pss_cons (ps_if (pt_cmpR op_eq (pe_ix ix_tup (pv 0) pe_int (fun _ _ => rfl)) pe_str (nomark _)) (pss_one (ps_ret (pe_lst (pa_cons (pe_ix ix_tup (pv 0) pe_int (fun _ _ => rfl)) (pa_cons (pe_ix ix_tup (pv 0) pe_int (fun _ _ => rfl)) pa_nil))))) pss_nil)
      (pss_one (ps_ret (pe_lc (own := [("_law_k", 1)])  rfl sc_l_uses.nd (pi_range1 (by rfl) B.range (pa_cons (pe_op op_add (pe_ix ix_tup (pv 0) pe_int (fun _ _ => rfl)) pe_int) pa_nil)) (blkOk_by (N := ["_law_deed_here", "_law_k"]) (sc := defScope s_l_uses) (by decide +kernel)) (fun _ _ _ _ _ => pg_name (i := 1) sc_l_uses.nd rfl (Or.inl rfl)) (fun _ _ _ _ _ => pts_nil) (fun _ _ _ _ _ => (pc_c C_l_down (hr.mono (by first | exact Nat.le_refl _ | decide | omega)) (by rfl) (pa_cons (pe_ix (ix_tupK (K := K) rfl) (pv 0) pe_int (fun _ _ => rfl)) (pa_cons (pv 1) pa_nil))))))))), ?_⟩
  cases D with
  | set c o =>
    exact ⟨_, rfl, a, _, _, _, rfl, rfl, hT, at0, rfl, _, rfl, iteT ⟨_, rfl, a, _, _, _, rfl, rfl, hT, rfl, small (by show 1 ≤ 1000; decide), fun r hr => kk r _ hr (same_new hr _) upd_same⟩⟩
  | swap c d =>
    exact ⟨_, rfl, a, _, _, _, rfl, rfl, hT, at0, rfl, _, rfl, iteF ⟨_, rfl, a, _, _, _, rfl, rfl, hT, at0, rfl, _, rfl, iteT ⟨_, rfl, a, _, _, _, rfl, rfl, hT, rfl, _, rfl, a, _, _, _, rfl, rfl, hT, rfl, small (by show 2 ≤ 1000; decide), fun r hr => kk r _ hr (same_new hr _) upd_same⟩⟩⟩
  | fill c n =>
    have hn := ok.2
    have hn1 := ok.1
    refine ⟨_, rfl, a, _, _, _, rfl, rfl, hT, at0, rfl, _, rfl, iteF ⟨_, rfl, a, _, _, _, rfl, rfl, hT, at0, rfl, _, rfl, iteF ⟨_, rfl, a, _, _, _, rfl, rfl, hT, rfl, _, _, rfl, rfl, (n : Int) + 1, rfl, (by omega), (by omega), fun D hD => ?_⟩⟩⟩
    rw [show ((n : Int) + 1).toNat = n + 1 by omega]
    refine lc_range (lo := 0) (fun i H3 => Same H H3 ∧ H3 D = some (.lst (((List.range i).map c.dn).map V.str))) ⟨same_new hD _, upd_same⟩ ?_ ?_
    · rintro i H3 hi ⟨s3, g3⟩
      rw [show (0 : Int) + (i : Int) = (i : Int) by omega]
      refine ⟨wipe_in (by decide), yes_ ⟨_, rfl, a, _, _, _, rfl, rfl, Tk.same s3 _ _ hT, rfl, _, rfl, c, i, rfl, by omega, ?_⟩⟩
      refine ⟨_, g3, ?_, fun c0 o0 z => ?_, ?_⟩
      · rw [List.length_map, List.length_map, List.length_range]
        exact small (by omega)
      · rw [upd_ne (ne_of_none z hD)]
        exact s3 _ _ z
      · rw [upd_same, range_snoc, List.map_append]
        rfl
    · rintro H3 ⟨s3, g3⟩
      exact kk D H3 hD s3 g3
end
end U

namespace U
open PySem L2 PyProof.Rows
section
variable {P : Program} {w : World} {K : PySem.W.Frag} {mg : Str → Option Value} {base : Heap}
theorem hu65 {A : Around} {k : Nat} (hr : Room k A) : A.units + 65 < cLine := by have := hr.un; omega
def MvA (K : PySem.W.Frag) (H : Hp) : Option (Option Part) → V → Prop
  | none, v => v = .str "off"
  | some o, v => CA K H o v
theorem MvA.tk {K : PySem.W.Frag} {H H' : Hp} (t : Tk K H H') : ∀ {r : Option (Option Part)} {v : V}, MvA K H r v → MvA K H' r v
  | none, _, h => h
  | some _, _, h => CA.tk t h
def mvD : Option (Option Part) → PyData
  | none => .str "off"
  | some o => oD o
theorem MvA.dp {K : PySem.W.Frag} {H : Hp} : ∀ {r : Option (Option Part)} {v : V}, MvA K H r v → Dp K H v (mvD r)
  | none, v, h => by cases (show v = V.str "off" from h); exact .str _
  | some o, v, h => CA.dp h
theorem mvD_off (r : Option (Option Part)) : PyData.eqv (mvD r) (.str "off") = r.isNone := by
  cases r with
  | none => simp [mvD, evS]
  | some o =>
    cases o with
    | none => simp [mvD, oD, PyData.eqv]
    | some p =>
      obtain ⟨ds, e⟩ := p.data_w
      show PyData.eqv p.data (.str "off") = _
      rw [e]
      simp [PyData.eqv]
theorem mvD_can (r : Option (Option Part)) : (mvD r).canLay0 = true := by
  cases r with
  | none => show PyData.canLay0 (.str "off") = true; rw [can_str]; decide +kernel
  | some o => exact oD_can o
theorem mvD_depth {r : Option (Option Part)} {n : Nat} (h : ∀ o, r = some o → goodC o n) : PyData.depth (mvD r) ≤ n := by
  cases r with
  | none => simp [mvD, PyData.depth]
  | some o => exact oD_depth (h o rfl)
def MAs (K : PySem.W.Frag) (H : Hp) (m : Nat) : List Part → List V → Prop
  | [], [] => True
  | p :: ps, v :: vs => MvA K H (lowC m (some p)) v ∧ MAs K H m ps vs
  | _, _ => False
theorem MAs.tk {K : PySem.W.Frag} {H H' : Hp} {m : Nat} (t : Tk K H H') : ∀ {rs : List Part} {vs : List V}, MAs K H m rs vs → MAs K H' m rs vs
  | [], [], _ => trivial
  | _ :: _, _ :: _, h => ⟨h.1.tk t, MAs.tk t h.2⟩
theorem MAs.snoc {K : PySem.W.Frag} {H : Hp} {m : Nat} {r : Part} {v : V} : ∀ {rs : List Part} {vs : List V}, MAs K H m rs vs → MvA K H (lowC m (some r)) v → MAs K H m (rs ++ [r]) (vs ++ [v])
  | [], [], _, h => ⟨h, trivial⟩
  | _ :: _, _ :: _, q, h => ⟨q.1, MAs.snoc q.2 h⟩
theorem MAs.len {K : PySem.W.Frag} {H : Hp} {m : Nat} : ∀ {rs : List Part} {vs : List V}, MAs K H m rs vs → vs.length = rs.length
  | [], [], _ => rfl
  | _ :: _, _ :: _, h => by simp [MAs.len h.2]
theorem MAs.dp {K : PySem.W.Frag} {H : Hp} {m : Nat} : ∀ {rs : List Part} {vs : List V}, MAs K H m rs vs → DpAll K H vs (rs.map fun p => mvD (lowC m (some p)))
  | [], [], _ => .nil
  | _ :: _, _ :: _, h => .cons h.1.dp (MAs.dp h.2)
theorem MAs.all {K : PySem.W.Frag} {H : Hp} {m : Nat} : ∀ {rs : List Part} {vs : List V}, MAs K H m rs vs → (∀ p ∈ rs, p.low m ≠ none) → ∃ qs, Lows m rs qs ∧ PAs K H qs vs
  | [], [], _, _ => ⟨[], rfl, trivial⟩
  | p :: rs, v :: vs, h, n => by
    obtain ⟨qs, l, a⟩ := MAs.all h.2 fun p hp => n p (List.mem_cons_of_mem _ hp)
    cases e : p.low m with
    | none => exact absurd e (n p List.mem_cons_self)
    | some q =>
      have h1 : MvA K H ((p.low m).map some) v := h.1
      rw [e] at h1
      exact ⟨q :: qs, by unfold Lows at l ⊢; rw [List.map_cons, List.map_cons, e, l], h1, a⟩
theorem any_off {m : Nat} (rs : List Part) : ((rs.map fun p => mvD (lowC m (some p))).any fun z => PyData.eqv z (.str "off")) = rs.any fun p => (p.low m).isNone := by
  rw [List.any_map]
  congr 1
  funext p
  show PyData.eqv (mvD (lowC m (some p))) (.str "off") = _
  rw [mvD_off]
  show ((p.low m).map some).isNone = _
  cases p.low m <;> rfl
theorem mvs_can {m : Nat} : ∀ rs : List Part, PyData.canLayAll0 (rs.map fun p => mvD (lowC m (some p))) = true
  | [] => can_nil
  | p :: rs => by
    rw [List.map_cons, canC, mvD_can, mvs_can rs]
    rfl
theorem mvs_depth {m n : Nat} : ∀ {rs : List Part}, (∀ p ∈ rs, p.good ∧ p.hgt ≤ n) → PyData.depthAll (rs.map fun p => mvD (lowC m (some p))) ≤ n
  | [], _ => by simp [PyData.depthAll]
  | p :: rs, h => by
    have a := h p List.mem_cons_self
    have c := mvs_depth (m := m) (rs := rs) fun x hx => h x (List.mem_cons_of_mem _ hx)
    have b : PyData.depth (mvD (lowC m (some p))) ≤ n := mvD_depth fun o e => good_low (o := some p) a e
    simp only [List.map_cons, PyData.depthAll]
    omega
theorem mvs_shaped {m n : Nat} {rs : List Part} (h : ∀ p ∈ rs, p.good ∧ p.hgt ≤ n) (hn : n ≤ 60) : SeqAt.shaped (.list (rs.map fun p => mvD (lowC m (some p)))) = true := by
  unfold SeqAt.shaped
  rw [can_lst, mvs_can, Bool.true_and, decide_eq_true_eq]
  have := mvs_depth (m := m) h
  simp only [PyData.depth]
  omega
theorem dn_none {c : Cel} {m : Nat} (h : c.down m = none) : c.dn m = "" := by unfold Cel.dn; rw [h]
theorem cel_nz (d : Cel) : ¬ ("" : Str) = d.s := fun e => by
  have := cel_ne d
  rw [← e] at this
  exact absurd (this.symm.trans (by decide +kernel : decide (V.str "" = V.str "") = true)) (by decide)
def spMoved (K : PySem.W.Frag) (n : Nat) : Sp := fun vs H Q _ => ∃ (o : Option Part) (v : V) (m : Nat), vs = [v, .int m] ∧ CA K H o v ∧ m ≤ 9 ∧ goodC o n ∧ 0 < n ∧ ∀ v' H', Same H H' → MvA K H' (lowC m o) v' → Q v' H'
theorem ok_lmoved {n : Nat} (hn60 : n ≤ 50) {f : Addr} {fd : FuncData} (F : Fun K "_law_moved" "_law_moved" s_l_moved f fd) (B : Bt mg) (C_l_down : Cal P w K mg base (n + 1) "_law_down" ["_law_cell_here", "_law_rows"] spDn) (C_l_moved : Cal P w K mg base (n + 1) "_law_moved" ["_law_content_here", "_law_rows"] (spMoved K n)) : FnOk P w K mg base CX0 (n + 1 + 1) f fd ["_law_content_here", "_law_rows"] (spMoved K (n + 1)) := by
  refine F.ok sc_l_moved (fun vs H Q E h => ?_) (fun cdv A outer s H vs Q E hr h => ?_)
  · obtain ⟨o, v, m, rfl, _⟩ := h
    rfl
  obtain ⟨o, v, m, rfl, ap, hm, gd, _, k1⟩ := h
  refine ⟨_, (pss_cons (ps_if (PW.pt (pw_or (pt_cmpR op_isN (pv 0) pe_non (nomark _)) (pw_or1 (pt_cmpR op_eq (pe_ix ix_tup (pv 0) pe_int (fun _ _ => rfl)) pe_str (nomark _))))) (pss_one (ps_ret (pv 0))) pss_nil)
      (pss_cons (ps_if (pt_cmpR op_in_seq (pe_ix ix_tup (pv 0) pe_int (fun _ _ => rfl)) (pe_tup (pa_cons pe_str (pa_cons pe_str pa_nil))) (nomarkIn _)) (pss_cons (ps_setLc (i := 2) (own := [("_law_cell_here", 4)])  rfl sc_l_moved.nd rfl rfl (sw_true rfl rfl rfl (by decide +kernel)) (pi_tup (pe_slice sl_tup (pv 0) (po_some pe_int) po_none)) (blkOk_by (N := ["_law_content_here", "_law_rows", "_law_cells", "_law_parts", "_law_cell_here", "_law_part_here"]) (sc := defScope s_l_moved) (by decide +kernel)) (fun _ _ _ _ _ => pg_name (i := 4) sc_l_moved.nd rfl (Or.inl rfl)) (fun _ _ _ _ _ => pts_nil) (fun _ _ _ _ _ => (pc_c C_l_down (hr.mono (by first | exact Nat.le_refl _ | decide | omega)) (by rfl) (pa_cons (pv 4) (pa_cons (pv 1) pa_nil)))))
      (pss_one (ps_ret (pe_ifExp (pt_cmpR op_in_seq pe_str (pv 2) (nomarkIn _)) pe_str (pe_op op_catT (pe_tup (pa_cons (pe_ix ix_tup (pv 0) pe_int (fun _ _ => rfl)) pa_nil)) (pe_tupleOf (by rfl) B.tuple (pv 2))))))) pss_nil)
      (pss_cons (ps_setLc (i := 3) (own := [("_law_part_here", 5)])  rfl sc_l_moved.nd rfl rfl (sw_true rfl rfl rfl (by decide +kernel)) (pi_tup (pe_slice sl_tup (pv 0) (po_some pe_int) po_none)) (blkOk_by (N := ["_law_content_here", "_law_rows", "_law_cells", "_law_parts", "_law_cell_here", "_law_part_here"]) (sc := defScope s_l_moved) (by decide +kernel)) (fun _ _ _ _ _ => pg_name (i := 5) sc_l_moved.nd rfl (Or.inl rfl)) (fun _ _ _ _ _ => pts_nil) (fun _ _ _ _ _ => (pc_c C_l_moved (hr.mono (by first | exact Nat.le_refl _ | decide | omega)) (by rfl) (pa_cons (pv 5) (pa_cons (pv 1) pa_nil)))))
      (pss_one (ps_ret (pe_ifExp (pt_cmpR (op_inD (hu65 hr)) pe_str (pv 3) (by rfl)) pe_str (pe_op op_catT (pe_tup (pa_cons (pe_ix ix_tup (pv 0) pe_int (fun _ _ => rfl)) pa_nil)) (pe_tupleOf (by rfl) B.tuple (pv 3))))))))), ?_⟩
  cases o with
  | none =>
    cases (show v = V.non from ap)
    exact ⟨_, rfl, rfl, _, rfl, iteT (iteT ⟨_, rfl, k1 _ _ (.refl _) rfl⟩)⟩
  | some p =>
    have ap : PA K H p v := ap
    obtain ⟨a, xs0, rfl, hT⟩ := ap.head
    have kk : ∀ r, p.low m = r → ∀ v' H', Same H H' → MvA K H' (r.map some) v' → Q v' H' := fun r e v' H' s' h => k1 v' H' s' (by show MvA K H' ((p.low m).map some) v'; rw [e]; exact h)
    refine ⟨_, rfl, rfl, _, rfl, iteF ⟨_, rfl, a, _, _, _, rfl, rfl, hT, at0, rfl, _, rfl, ?_⟩⟩
    rw [dec_s, p.w_num]
    rcases p.kinds with ⟨z, rfl⟩ | ⟨c, rfl⟩ | ⟨c, d, rfl⟩ | o
    · exact iteT ⟨_, rfl, kk _ rfl _ _ (.refl _) ap⟩
    · obtain ⟨a', e, h1⟩ := ap
      cases e
      refine iteF ⟨_, rfl, a, _, _, _, rfl, rfl, h1, at0, small (by show 2 ≤ 1000; decide), fun t ht => ?_⟩
      have s1 : Same H (upd H t (.tup [.str "cell", .str "sum"])) := same_new ht _
      have g1 : SqT K (upd H t (.tup [.str "cell", .str "sum"])) t [.str "cell", .str "sum"] := SqT.of upd_same
      generalize upd H t (.tup [.str "cell", .str "sum"]) = H1 at s1 g1 ⊢
      refine ⟨t, _, rfl, .inr g1, rfl, rfl, true, congrArg V.bl (inW2 (.cel c)), iteT ⟨_, rfl, 1, rfl, a, _, rfl, Tk.same s1 _ _ h1, sl1_ne _ _, fun q hq => ?_⟩⟩
      rw [cut1]
      have s2 := s1.trans (same_new hq (.tup [V.str c.s]))
      have g2 : upd H1 q (.tup [V.str c.s]) q = some (.tup [V.str c.s]) := upd_same
      generalize upd H1 q (.tup [V.str c.s]) = H2 at s2 g2 ⊢
      refine ⟨q, rfl, ⟨_, SqT.of g2⟩, fun D hD => ?_⟩
      refine lc_tup (K := K) (a := q) (xs := [V.str c.s]) (fun i H3 => Same H2 H3 ∧ H3 D = some (.lst ((([c].take i).map (Cel.dn · m)).map V.str))) ⟨same_new hD _, upd_same⟩ (fun i H3 _ h => SqT.of (h.1 _ _ g2)) ?_ ?_
      · rintro i x H3 hx ⟨s3, g3⟩
        match i, hx with
        | 0, hx =>
          obtain rfl : V.str c.s = x := by simpa using hx
          refine ⟨wipe_in (by decide), yes_ ⟨_, rfl, _, rfl, c, m, rfl, hm, _, g3, small (by show 1 ≤ 1000; decide), fun c0 o0 z => ?_, upd_same⟩⟩
          rw [upd_ne (ne_of_none z hD)]
          exact s3 _ _ z
        | i + 1, hx => simp at hx
      · rintro H3 ⟨s3, g3⟩
        have g3 : H3 D = some (.lst ([c.dn m].map V.str)) := g3
        have s23 := s2.trans s3
        refine ⟨_, rfl, D, _, rfl, .inl (SqL.of g3), rfl, flat_strs _, decide (("" : Str) ∈ [c.dn m]), congrArg V.bl (inS "" [c.dn m]), ?_⟩
        cases e : c.down m with
        | none =>
          rw [dn_none e]
          refine iteT (kk none (by simp [Part.low, e]) _ _ s23 rfl)
        | some d =>
          rw [Cel.dn_some e] at g3 ⊢
          rw [show decide (("" : Str) ∈ [d.s]) = false from decide_eq_false (by simp only [List.mem_singleton]; exact cel_nz d)]
          refine iteF ⟨_, rfl, a, _, _, _, rfl, rfl, Tk.same s23 _ _ h1, at0, small (by show 1 ≤ 1000; decide), fun u hu => ⟨_, rfl, .inl ⟨D, _, rfl, SqL.of (same_new hu _ _ _ g3), fun y hy => ⟨u, y, _, _, rfl, rfl, SqT.of (same_new hy _ _ _ upd_same), SqT.of upd_same, by simp, small (by show 2 ≤ 1000; decide), fun z => (by simp at z), fun _ r hr => ?_⟩⟩⟩⟩
          exact kk (some (.cel d)) (by simp [Part.low, e]) _ _ (s23.trans ((same_new hu _).trans ((same_new hy _).trans (same_new hr _)))) ⟨r, rfl, SqT.of upd_same⟩
    · obtain ⟨a', e, h1⟩ := ap
      cases e
      refine iteF ⟨_, rfl, a, _, _, _, rfl, rfl, h1, at0, small (by show 2 ≤ 1000; decide), fun t ht => ?_⟩
      have s1 : Same H (upd H t (.tup [.str "cell", .str "sum"])) := same_new ht _
      have g1 : SqT K (upd H t (.tup [.str "cell", .str "sum"])) t [.str "cell", .str "sum"] := SqT.of upd_same
      generalize upd H t (.tup [.str "cell", .str "sum"]) = H1 at s1 g1 ⊢
      refine ⟨t, _, rfl, .inr g1, rfl, rfl, true, congrArg V.bl (inW2 (.sum c d)), iteT ⟨_, rfl, 1, rfl, a, _, rfl, Tk.same s1 _ _ h1, sl1_ne _ _, fun q hq => ?_⟩⟩
      rw [cut1]
      have s2 := s1.trans (same_new hq (.tup [V.str c.s, V.str d.s]))
      have g2 : upd H1 q (.tup [V.str c.s, V.str d.s]) q = some (.tup [V.str c.s, V.str d.s]) := upd_same
      generalize upd H1 q (.tup [V.str c.s, V.str d.s]) = H2 at s2 g2 ⊢
      refine ⟨q, rfl, ⟨_, SqT.of g2⟩, fun D hD => ?_⟩
      refine lc_tup (K := K) (a := q) (xs := [V.str c.s, V.str d.s]) (fun i H3 => Same H2 H3 ∧ H3 D = some (.lst ((([c, d].take i).map (Cel.dn · m)).map V.str))) ⟨same_new hD _, upd_same⟩ (fun i H3 _ h => SqT.of (h.1 _ _ g2)) ?_ ?_
      · rintro i x H3 hx ⟨s3, g3⟩
        match i, hx with
        | 0, hx =>
          obtain rfl : V.str c.s = x := by simpa using hx
          refine ⟨wipe_in (by decide), yes_ ⟨_, rfl, _, rfl, c, m, rfl, hm, _, g3, small (by show 1 ≤ 1000; decide), fun c0 o0 z => ?_, upd_same⟩⟩
          rw [upd_ne (ne_of_none z hD)]
          exact s3 _ _ z
        | 1, hx =>
          obtain rfl : V.str d.s = x := by simpa using hx
          refine ⟨wipe_in (by decide), yes_ ⟨_, rfl, _, rfl, d, m, rfl, hm, _, g3, small (by show 2 ≤ 1000; decide), fun c0 o0 z => ?_, upd_same⟩⟩
          rw [upd_ne (ne_of_none z hD)]
          exact s3 _ _ z
        | i + 2, hx => simp at hx
      · rintro H3 ⟨s3, g3⟩
        have g3 : H3 D = some (.lst ([c.dn m, d.dn m].map V.str)) := g3
        have s23 := s2.trans s3
        refine ⟨_, rfl, D, _, rfl, .inl (SqL.of g3), rfl, flat_strs _, decide (("" : Str) ∈ [c.dn m, d.dn m]), congrArg V.bl (inS "" [c.dn m, d.dn m]), ?_⟩
        cases e : c.down m with
        | none =>
          rw [decide_eq_true (by rw [dn_none e]; simp)]
          exact iteT (kk none (by simp [Part.low, e]) _ _ s23 rfl)
        | some x =>
          cases e2 : d.down m with
          | none =>
            rw [decide_eq_true (by rw [dn_none e2]; simp)]
            exact iteT (kk none (by simp [Part.low, e, e2]) _ _ s23 rfl)
          | some y =>
            rw [Cel.dn_some e, Cel.dn_some e2] at g3
            rw [Cel.dn_some e, Cel.dn_some e2, show decide (("" : Str) ∈ [x.s, y.s]) = false from decide_eq_false (by
              simp only [List.mem_cons, List.not_mem_nil, or_false]
              rintro (z | z)
              · exact cel_nz x z
              · exact cel_nz y z)]
            refine iteF ⟨_, rfl, a, _, _, _, rfl, rfl, Tk.same s23 _ _ h1, at0, small (by show 1 ≤ 1000; decide), fun u hu => ⟨_, rfl, .inl ⟨D, _, rfl, SqL.of (same_new hu _ _ _ g3), fun y0 hy => ⟨u, y0, _, _, rfl, rfl, SqT.of (same_new hy _ _ _ upd_same), SqT.of upd_same, by simp, small (by show 3 ≤ 1000; decide), fun z => (by simp at z), fun _ r hr => ?_⟩⟩⟩⟩
            exact kk (some (.sum x y)) (by simp [Part.low, e, e2]) _ _ (s23.trans ((same_new hu _).trans ((same_new hy _).trans (same_new hr _)))) ⟨r, rfl, SqT.of upd_same⟩
    · obtain ⟨n1, n2, n3⟩ := Part.op_not o
      rw [n1]
      refine iteF ⟨_, rfl, a, _, _, _, rfl, rfl, hT, at0, small (by show 2 ≤ 1000; decide), fun t ht => ?_⟩
      have s1 : Same H (upd H t (.tup [.str "cell", .str "sum"])) := same_new ht _
      have g1 : SqT K (upd H t (.tup [.str "cell", .str "sum"])) t [.str "cell", .str "sum"] := SqT.of upd_same
      generalize upd H t (.tup [.str "cell", .str "sum"]) = H1 at s1 g1 ⊢
      obtain ⟨a', xs, e, h1, h2⟩ := ap.node o
      cases e
      refine ⟨t, _, rfl, .inr g1, rfl, rfl, false, congrArg V.bl ((inW2 p).trans (by rw [n2, n3]; rfl)), iteF ⟨_, rfl, 1, rfl, a, _, rfl, Tk.same s1 _ _ h1, sl1_ne _ _, fun q hq => ?_⟩⟩
      rw [cut1]
      have s2 := s1.trans (same_new hq (.tup xs))
      have g2 : upd H1 q (.tup xs) q = some (.tup xs) := upd_same
      generalize upd H1 q (.tup xs) = H2 at s2 g2 ⊢
      have h3 : PAs K H2 p.kids xs := h2.tk (.same s2)
      have xl := h3.len
      have k4 : p.kids.length ≤ 4 := by cases p <;> simp [Part.kids]
      have kp : p.kids ≠ [] := by cases p <;> first | exact absurd o Bool.false_ne_true | simp [Part.kids]
      refine ⟨q, rfl, ⟨_, SqT.of g2⟩, fun D hD => ?_⟩
      refine lc_tup (K := K) (a := q) (xs := xs) (fun i H3 => Same H2 H3 ∧ ∃ ys : List V, H3 D = some (.lst ys) ∧ MAs K H3 m (p.kids.take i) ys) ⟨same_new hD _, [], upd_same, trivial⟩ (fun i H3 _ h => SqT.of (h.1 _ _ g2)) ?_ ?_
      · rintro i x H3 hx ⟨s3, ys, g3, a3⟩
        obtain ⟨k, hk, ak⟩ := h3.get hx
        have hkm : k ∈ p.kids := List.mem_of_getElem? hk
        have hkh := Part.kid_hgt hkm
        have h5 := gd.2
        have hyl : ys.length ≤ 4 := by
          have := a3.len
          rw [List.length_take] at this
          omega
        refine ⟨wipe_in (by decide), yes_ ⟨_, rfl, _, rfl, some k, x, m, rfl, (show PA K H3 k x from ak.tk (.same s3)), hm, ⟨Part.kid_good gd.1 hkm, by omega⟩, ?_, fun v' H4 s4 a4 => ?_⟩⟩
        · have := k.hgt_pos
          omega
        · have g4 := s4 _ _ g3
          refine ⟨ys, g4, small (by omega), fun c0 o0 z => ?_, ys ++ [v'], upd_same, ?_⟩
          · rw [upd_ne (ne_of_none z hD)]
            exact s4 _ _ (s3 _ _ z)
          · have tk5 : Tk K H4 (upd H4 D (.lst (ys ++ [v']))) := tk_upd g4 nt_lst
            rw [List.take_add_one, hk]
            exact MAs.snoc ((a3.tk (.same s4)).tk tk5) (a4.tk tk5)
      · rintro H3 ⟨s3, ys, g3, a3⟩
        rw [xl, List.take_length] at a3
        have s23 := s2.trans s3
        have yl := a3.len
        have good : ∀ k ∈ p.kids, k.good ∧ k.hgt ≤ n := fun k hk => ⟨Part.kid_good gd.1 hk, by have := Part.kid_hgt hk; have := gd.2; omega⟩
        refine ⟨_, rfl, .str "off", _, .str _, .lst (SqL.of g3) a3.dp, (by decide +kernel), mvs_shaped good (by omega), ?_⟩
        rw [any_off]
        cases e : p.kids.any fun p => (p.low m).isNone with
        | true =>
          obtain ⟨k, hk, hn⟩ := List.any_eq_true.mp e
          refine ⟨_, rfl, iteT (kk none (Part.low_none o hk (Option.isNone_iff_eq_none.mp hn)) _ _ s23 rfl)⟩
        | false =>
          obtain ⟨qs, l, aq⟩ := a3.all fun k hk hz => by
            have := List.any_eq_false.mp e k hk
            rw [hz] at this
            exact this rfl
          obtain ⟨r, er, ew, ek, or_⟩ := Part.low_of o l
          have yn : ys ≠ [] := fun z => by
            rw [z] at yl
            exact kp (List.length_eq_zero_iff.mp yl.symm)
          refine ⟨_, rfl, iteF ⟨_, rfl, a, _, _, _, rfl, rfl, Tk.same s23 _ _ h1, at0, small (by show 1 ≤ 1000; decide), fun u hu => ⟨_, rfl, .inl ⟨D, _, rfl, SqL.of (same_new hu _ _ _ g3), fun y0 hy => ⟨u, y0, _, _, rfl, rfl, SqT.of (same_new hy _ _ _ upd_same), SqT.of upd_same, by simp, small (by simp only [List.length_cons, List.length_nil]; omega), fun z => absurd z yn, fun _ r2 hr2 => ?_⟩⟩⟩⟩⟩
          have s5 := (same_new hu (.tup [V.str p.word])).trans ((same_new hy (.tup ys)).trans (same_new hr2 (.tup ([V.str p.word] ++ ys))))
          refine kk (some r) er _ _ (s23.trans s5) (PA.of_node (xs := ys) or_ ?_ ?_)
          · rw [ew]
            exact SqT.of upd_same
          · rw [ek]
            exact aq.tk (.same s5)
theorem cal_lmoved {f : Addr} {fd : FuncData} (F : Fun K "_law_moved" "_law_moved" s_l_moved f fd) (B : Bt mg) (C_l_down : Cal P w K mg base 1 "_law_down" ["_law_cell_here", "_law_rows"] spDn) (m : mg "_law_moved" = some (.ref f)) (b : Binds K fd ["_law_content_here", "_law_rows"] []) : ∀ n : Nat, n ≤ 50 → Cal P w K mg base (n + 1) "_law_moved" ["_law_content_here", "_law_rows"] (spMoved K n)
  | 0, _ => ⟨_, _, fnok_no (fun vs H Q E h => by obtain ⟨_, _, _, _, _, _, _, h, _⟩ := h; exact absurd h (Nat.lt_irrefl 0)), m, F.kp, b⟩
  | n + 1, hn => ⟨_, _, ok_lmoved (by omega) F B (C_l_down.mono (by omega)) (cal_lmoved F B C_l_down m b n (by omega)), m, F.kp, b⟩
end
end U

namespace U
open PySem L2 PyProof.Rows
section
variable {P : Program} {w : World} {K : PySem.W.Frag} {mg : Str → Option Value} {base : Heap}
def spDeedL (K : PySem.W.Frag) : Sp := fun vs H Q _ => ∃ (b l : Addr), vs = [.ref b] ∧ Box H b l ∧
  ∀ (D : Deed) (dv cv : V) (r : Addr) (H' : Hp), D.okL → goodC D.co 3 → Box H' b l → Keep b l H H' → SqT K H' r [dv, cv] → DA K H' D dv → CA K H' D.co cv → Q (.ref r) H'
theorem ok_ldeed {f : Addr} {fd : FuncData} (F : Fun K "_law_deed" "_law_deed" s_l_deed f fd) (C_l_take : Cal P w K mg base 10 "_law_take" ["_law_box", "_law_many_here"] spTake) (C_l_cell : Cal P w K mg base 10 "_law_cell" ["_law_box"] spCell)
    (C_l_content : Cal P w K mg base 10 "_law_content" ["_law_box", "_law_deep"] (spContent K 5)) (C_l_text : Cal P w K mg base 10 "_law_text" ["_law_content_here"] (spText K)) : FnOk P w K mg base CX0 11 f fd ["_law_box"] (spDeedL K) := by
  refine F.ok sc_l_deed (fun vs H Q E h => ?_) (fun cdv A outer s H vs Q E hr h => ?_)
  · obtain ⟨b, l, rfl, _⟩ := h
    rfl
  obtain ⟨b, l, rfl, BX, kk⟩ := h
  refine ⟨_, (pss_cons (ps_set (i := 1) sc_l_deed.nd rfl (Or.inl rfl) (pc_c C_l_take (hr.mono (by first | exact Nat.le_refl _ | decide | omega)) (by rfl) (pa_cons (pv 0) (pa_cons pe_int pa_nil))))
      (pss_cons (ps_set (i := 2) sc_l_deed.nd rfl (Or.inl rfl) (pc_c C_l_cell (hr.mono (by first | exact Nat.le_refl _ | decide | omega)) (by rfl) (pa_cons (pv 0) pa_nil)))
      (pss_cons (ps_if (pt_cmpR op_lt (pv 1) pe_int (nomark _)) (pss_cons (ps_set (i := 3) sc_l_deed.nd rfl (Or.inl rfl) (pc_c C_l_content (hr.mono (by first | exact Nat.le_refl _ | decide | omega)) (by rfl) (pa_cons (pv 0) (pa_cons pe_int pa_nil))))
      (pss_one (ps_ret (pe_tup (pa_cons (pe_tup (pa_cons pe_str (pa_cons (pv 2) (pa_cons (pc_c C_l_text (hr.mono (by first | exact Nat.le_refl _ | decide | omega)) (by rfl) (pa_cons (pv 3) pa_nil)) pa_nil)))) (pa_cons (pv 3) pa_nil)))))) pss_nil)
      (pss_cons (ps_if (pt_cmpR op_eq (pv 1) pe_int (nomark _)) (pss_one (ps_ret (pe_tup (pa_cons (pe_tup (pa_cons pe_str (pa_cons (pv 2) (pa_cons (pc_c C_l_cell (hr.mono (by first | exact Nat.le_refl _ | decide | omega)) (by rfl) (pa_cons (pv 0) pa_nil)) pa_nil)))) (pa_cons pe_non pa_nil))))) pss_nil)
      (pss_one (ps_ret (pe_tup (pa_cons (pe_tup (pa_cons pe_str (pa_cons (pv 2) (pa_cons (pe_op op_add pe_int (pc_c C_l_take (hr.mono (by first | exact Nat.le_refl _ | decide | omega)) (by rfl) (pa_cons (pv 0) (pa_cons (pe_ix ix_list (pe_lst (pa_cons pe_int (pa_cons pe_int pa_nil))) (pc_c C_l_take (hr.mono (by first | exact Nat.le_refl _ | decide | omega)) (by rfl) (pa_cons (pv 0) (pa_cons pe_int pa_nil))) (fun _ _ => rfl)) pa_nil)))) pa_nil)))) (pa_cons pe_non pa_nil))))))))), ?_⟩
  refine ⟨_, rfl, b, l, 6, rfl, BX, by decide, by decide, fun r1 H1 a1 b1 B1 K1 => ?_⟩
  refine ⟨_, rfl, b, l, rfl, B1, fun c H2 B2 K2 => ?_⟩
  have k2 := K1.trans K2
  refine ⟨_, rfl, _, _, rfl, rfl, _, rfl, ite2 (fun c1 => ?_) (fun c1 => ?_)⟩
  · refine ⟨_, rfl, b, l, 2, rfl, B2, by decide, by decide, fun o cv H3 go ca B3 K3 => ?_⟩
    have k3 := k2.trans K3
    refine ⟨_, rfl, _, rfl, o, cv, rfl, ca, goodC_mono go (by decide), fun H4 s4 => ⟨small (by show 3 ≤ 1000; decide), fun t ht => ?_⟩⟩
    have s5 := s4.trans (same_new ht (.tup [.str "set", .str c.s, .str (SX.S (ctx o))]))
    have g5 : SqT K (upd H4 t (.tup [.str "set", .str c.s, .str (SX.S (ctx o))])) t [.str "set", .str c.s, .str (SX.S (ctx o))] := SqT.of upd_same
    generalize upd H4 t (.tup [.str "set", .str c.s, .str (SX.S (ctx o))]) = H5 at s5 g5 ⊢
    refine ⟨_, rfl, small (by show 2 ≤ 1000; decide), fun r hr2 => ?_⟩
    have s6 := same_new hr2 (.tup [V.ref t, cv])
    exact kk (.set c o) (.ref t) cv r _ (goodC_mono go (by decide)) go (B3.keep (s5.trans s6)) (k3.trans (.of (s5.trans s6))) (SqT.of upd_same) ⟨t, rfl, Tk.same s6 _ _ g5⟩ (ca.tk (.same (s5.trans s6)))
  · refine ⟨_, rfl, rfl, _, rfl, ite2 (fun c2 => ?_) (fun c2 => ?_)⟩
    · refine ⟨_, rfl, _, rfl, b, l, rfl, B2, fun d H3 B3 K3 => ⟨small (by show 3 ≤ 1000; decide), fun t ht => ?_⟩⟩
      have k3 := k2.trans K3
      have s5 := same_new ht (.tup [.str "swap", .str c.s, .str d.s])
      have g5 : SqT K (upd H3 t (.tup [.str "swap", .str c.s, .str d.s])) t [.str "swap", .str c.s, .str d.s] := SqT.of upd_same
      generalize upd H3 t (.tup [.str "swap", .str c.s, .str d.s]) = H5 at s5 g5 ⊢
      refine ⟨small (by show 2 ≤ 1000; decide), fun r hr2 => ?_⟩
      have s6 := same_new hr2 (.tup [V.ref t, V.non])
      exact kk (.swap c d) (.ref t) .non r _ trivial trivial (B3.keep (s5.trans s6)) (k3.trans (.of (s5.trans s6))) (SqT.of upd_same) ⟨t, rfl, Tk.same s6 _ _ g5⟩ rfl
    · refine ⟨_, rfl, _, rfl, small (by show 2 ≤ 1000; decide), fun q hq => ?_⟩
      have s3 := same_new hq (.lst [.int 3, .int 9])
      have g3 : upd H2 q (.lst [.int 3, .int 9]) q = some (.lst [.int 3, .int 9]) := upd_same
      have B3 := B2.keep s3
      have nq := B2.new hq
      generalize upd H2 q (.lst [.int 3, .int 9]) = H3 at s3 g3 B3 ⊢
      refine ⟨_, rfl, b, l, 2, rfl, B3, by decide, by decide, fun r2 H4 a2 b2 B4 K4 => ?_⟩
      have g4 := K4 _ _ g3 nq.1 nq.2
      have k4 := (k2.trans (.of s3)).trans K4
      obtain ⟨m, hm, m3, at3⟩ : ∃ m : Int, (m = 3 ∨ m = 9) ∧ 0 < m ∧ atI [V.int 3, V.int 9] r2 = some (.int m) := by
        have : r2 = 0 ∨ r2 = 1 := by omega
        rcases this with rfl | rfl
        · exact ⟨3, .inl rfl, by decide, rfl⟩
        · exact ⟨9, .inr rfl, by decide, rfl⟩
      refine ⟨q, _, _, _, rfl, rfl, SqL.of g4, at3, b, l, m, rfl, B4, m3, ?_, fun r3 H5 a3 b3 B5 K5 => ?_⟩
      · rcases hm with rfl | rfl <;> decide
      have k5 := k4.trans K5
      refine ⟨_, _, rfl, rfl, small (by show 3 ≤ 1000; decide), fun t ht => ?_⟩
      obtain ⟨n, hn⟩ : ∃ n : Nat, (1 : Int) + r3 = (n : Int) := ⟨(1 + r3).toNat, by omega⟩
      have hn1 : 1 ≤ n ∧ n ≤ 9 := by rcases hm with rfl | rfl <;> omega
      have s6 : Same H5 (upd H5 t (.tup [.str "fill", .str c.s, .int (1 + r3)])) := same_new ht _
      have g6 : SqT K (upd H5 t (.tup [.str "fill", .str c.s, .int (1 + r3)])) t [.str "fill", .str c.s, .int (n : Int)] := by
        rw [hn]
        exact SqT.of upd_same
      refine ⟨small (by show 2 ≤ 1000; decide), fun r hr2 => ?_⟩
      have s7 := same_new hr2 (.tup [V.ref t, V.non])
      exact kk (.fill c n) (.ref t) .non r _ hn1 trivial (B5.keep (s6.trans s7)) (k5.trans (.of (s6.trans s7))) (SqT.of upd_same) ⟨t, rfl, Tk.same s7 _ _ g6⟩ rfl
def spWith (K : PySem.W.Frag) : Sp := fun vs H Q _ => ∃ (d r : Addr) (cs : List (Str × Part)) (rs : List Row) (xs : List V), vs = [.ref d, .ref r] ∧ Con K H d cs ∧ CsOk cs ∧ H r = some (.lst xs) ∧ RAs K H rs xs ∧ RsOk rs ∧
  ∀ (q : Addr) (H' : Hp) (tab : List (Key × V)), H q = none → Same H H' → H' q = some (.dK tab) → Al (PA K H') (withL cs rs) tab → Q (.ref q) H'
theorem withL_snoc (cs : List (Str × Part)) (a : List Row) (r : Row) : withL cs (a ++ [r]) = stepW (withL cs a) r := by
  unfold withL
  rw [List.foldl_append]
  rfl
theorem stepW_ok {cs : List (Str × Part)} {r : Row} (ok : CsOk cs) (h : isC r.1 ∧ goodC r.2.1 5 ∧ goodC r.2.2 5) : CsOk (stepW cs r) := by
  have od : CsOk (drop cs r.1) := ⟨drop_nodup ok.nd, fun x hx => ok.ce x (by rw [ks_drop] at hx; exact (List.mem_filter.mp hx).1), fun e he => ok.gd e (mem_drop he)⟩
  unfold stepW
  cases e : r.2.2 with
  | none => exact od
  | some p =>
    have g := h.2.2
    rw [e] at g
    exact ⟨put_nodup od.nd, fun x hx => by
      rw [ks_put, mem_addU] at hx
      rcases hx with hx | rfl
      · exact od.ce x hx
      · exact h.1, fun e he => (mem_put he).elim (fun z => z ▸ g) fun z => od.gd e z⟩
theorem withL_ok : ∀ {rs : List Row} {cs : List (Str × Part)}, CsOk cs → RsOk rs → CsOk (withL cs rs)
  | [], _, ok, _ => ok
  | r :: rs, cs, ok, h => withL_ok (rs := rs) (stepW_ok ok (h r List.mem_cons_self)) fun x hx => h x (List.mem_cons_of_mem _ hx)
theorem ok_lwith {f : Addr} {fd : FuncData} (F : Fun K "_law_with" "_law_with" s_l_with f fd) (B : Bt mg) : FnOk P w K mg base CX0 1 f fd ["_law_contents", "_law_rows"] (spWith K) := by
  refine F.ok sc_l_with (fun vs H Q E h => ?_) (fun cdv A outer s H vs Q E hr h => ?_)
  · obtain ⟨d, r, cs, rs, xs, rfl, _⟩ := h
    rfl
  obtain ⟨d, r, cs, rs, xs, rfl, ⟨kvs, hd, al⟩, ok, hx, ra, ro, kk⟩ := h
  have hu := hu_of hr
  refine ⟨_, (pss_cons (ps_set (i := 2) sc_l_with.nd rfl (Or.inl rfl) (pe_callTy call_dictD (by rfl) B.dict boot_dict (pa_cons (pv 0) pa_nil)))
      (pss_cons (ps_for PassesOwn.never rfl (pi_list (pv 1)) (pg_tup (by rfl) (pgs_cons (pg_name (i := 3) sc_l_with.nd rfl (Or.inl rfl)) (pgs_cons (pg_name (i := 4) sc_l_with.nd rfl (Or.inl rfl)) (pgs_cons (pg_name (i := 5) sc_l_with.nd rfl (Or.inl rfl)) pgs_nil)))) (pss_cons (ps_expr (pe_dpop2 (pv 2) (pv 3) pe_non ⟨rfl, rfl, rfl, rfl⟩))
      (pss_one (ps_if (pt_cmpR op_notN (pv 5) pe_non (nomark _)) (pss_one (ps_dput hu (pv 2) (pv 3) (pv 5) rfl)) pss_nil))))
      (pss_one (ps_ret (pv 2))))), ?_⟩
  refine ⟨_, rfl, d, kvs, rfl, hd, fun q hq => ?_⟩
  have s1 : Same H (upd H q (.dK kvs)) := same_new hq _
  have g1 : upd H q (.dK kvs) q = some (.dK kvs) := upd_same
  have nrq : r ≠ q := ne_of_none hx hq
  generalize upd H q (.dK kvs) = H1 at s1 g1 ⊢
  refine ⟨_, rfl, r, rfl, ⟨_, SqL.of (s1 _ _ hx)⟩, ?_⟩
  have al1 : Al (PA K H1) cs kvs := al.mono fun _ _ z => PA.tk (Tk.same s1) z
  refine for_list (K := K) (a := r) (xs := xs) (fun i σ H3 => ∃ (u3 u4 u5 : Option V) (tab : List (Key × V)), σ = [some (.ref d), some (.ref r), some (.ref q), u3, u4, u5] ∧ Same H H3 ∧ H3 q = some (.dK tab) ∧ Al (PA K H3) (withL cs (rs.take i)) tab)
    ⟨none, none, none, kvs, rfl, s1, g1, al1⟩ (fun i σ H3 _ h => let ⟨_, _, _, _, _, h, _⟩ := h; SqL.of (h _ _ hx)) ?_ ?_
  · rintro i x σ H3 hi ⟨u3, u4, u5, tab, rfl, s3, g3, a3⟩
    obtain ⟨rw_, hrw, ⟨a, e1, e2, rfl, hT, c1, c2⟩⟩ := ra.get hi
    have hm := List.mem_of_getElem? hrw
    have ok3 := withL_ok ok (fun x hx => ro x (List.mem_of_mem_take hx) : RsOk (rs.take i))
    have l3 := a3.len
    have l4 := ok3.len
    refine ⟨a, _, rfl, Tk.same s3 _ _ hT, rfl, _, _, rfl, _, _, rfl, _, _, rfl, rfl, ?_⟩
    refine ⟨_, rfl, q, rfl, .inl ⟨tab, .inl g3⟩, _, rfl, tab, Sum.inr rw_.1, g3, rfl, fun vv hvv => ?_, fun hvv => ?_⟩
    · have tk4 := tk_upd (K := K) (v := .dK (dropK tab (Sum.inr rw_.1))) g3 nt_dK
      have s4 : Same H (upd H3 q (.dK (dropK tab (Sum.inr rw_.1)))) := fun c0 o0 z => by
        rw [upd_ne (ne_of_none z hq)]
        exact s3 _ _ z
      have g4 : upd H3 q (.dK (dropK tab (Sum.inr rw_.1))) q = some (.dK (dropK tab (Sum.inr rw_.1))) := upd_same
      have a4 : Al (PA K (upd H3 q (.dK (dropK tab (Sum.inr rw_.1))))) (drop (withL cs (rs.take i)) rw_.1) (dropK tab (Sum.inr rw_.1)) := Al.drop (a3.mono fun _ _ z => PA.tk tk4 z)
      have c4 := (c2.tk (Tk.same s3)).tk tk4
      generalize upd H3 q (.dK (dropK tab (Sum.inr rw_.1))) = H4 at s4 g4 a4 c4 ⊢
      generalize dropK tab (Sum.inr rw_.1) = tb at g4 a4
      rcases hnv : rw_.2.2 with _ | p
      · rw [hnv] at c4
        cases (show e2 = V.non from c4)
        refine ⟨_, rfl, rfl, _, rfl, iteF ⟨_, _, _, tb, rfl, s4, g4, ?_⟩⟩
        rw [List.take_add_one, hrw]
        show Al _ (withL cs (rs.take i ++ [rw_])) _
        rw [withL_snoc]
        unfold stepW
        rw [hnv]
        exact a4
      · rw [hnv] at c4
        obtain ⟨pa, px, rfl, pT⟩ := PA.head (show PA K _ p e2 from c4)
        have pc : PA K H4 p (.ref pa) := c4
        refine ⟨_, rfl, rfl, _, rfl, iteT ⟨_, rfl, _, rfl, _, rfl, q, _, rfl, DPut.s g4 ?_, ?_⟩⟩
        · have z1 := (a4).len
          have z2 := drop_len (cs := withL cs (rs.take i)) (x := rw_.1)
          rw [sizeLine_eq]
          omega
        · have tk := tk_upd (K := K) (v := .dK (putK tb (Sum.inr rw_.1) (.ref pa))) g4 nt_dK
          refine ⟨_, _, _, _, rfl, fun c0 o0 z => ?_, upd_same, ?_⟩
          · rw [upd_ne (ne_of_none z hq)]
            exact s4 _ _ z
          · rw [List.take_add_one, hrw]
            show Al _ (withL cs (rs.take i ++ [rw_])) _
            rw [withL_snoc]
            unfold stepW
            rw [hnv]
            exact Al.put ((a4).mono fun _ _ z => PA.tk tk z) (PA.tk tk pc)
    · have c4 := c2.tk (Tk.same s3)
      have ln : lk (withL cs (rs.take i)) rw_.1 = none := by
        rcases a3.val rw_.1 with ⟨z, _⟩ | ⟨p, v, z, z2, z3⟩
        · exact z
        · rw [hvv] at z2
          cases z2
      have a4 : Al (PA K H3) (drop (withL cs (rs.take i)) rw_.1) tab := by
        rw [drop_none ln]
        exact a3
      rcases hnv : rw_.2.2 with _ | p
      · rw [hnv] at c4
        cases (show e2 = V.non from c4)
        refine ⟨_, rfl, rfl, _, rfl, iteF ⟨_, _, _, tab, rfl, s3, g3, ?_⟩⟩
        rw [List.take_add_one, hrw]
        show Al _ (withL cs (rs.take i ++ [rw_])) _
        rw [withL_snoc]
        unfold stepW
        rw [hnv]
        exact a4
      · rw [hnv] at c4
        obtain ⟨pa, px, rfl, pT⟩ := PA.head (show PA K _ p e2 from c4)
        have pc : PA K H3 p (.ref pa) := c4
        refine ⟨_, rfl, rfl, _, rfl, iteT ⟨_, rfl, _, rfl, _, rfl, q, _, rfl, DPut.s g3 ?_, ?_⟩⟩
        · have z1 := (a4).len
          have z2 := drop_len (cs := withL cs (rs.take i)) (x := rw_.1)
          rw [sizeLine_eq]
          omega
        · have tk := tk_upd (K := K) (v := .dK (putK tab (Sum.inr rw_.1) (.ref pa))) g3 nt_dK
          refine ⟨_, _, _, _, rfl, fun c0 o0 z => ?_, upd_same, ?_⟩
          · rw [upd_ne (ne_of_none z hq)]
            exact s3 _ _ z
          · rw [List.take_add_one, hrw]
            show Al _ (withL cs (rs.take i ++ [rw_])) _
            rw [withL_snoc]
            unfold stepW
            rw [hnv]
            exact Al.put ((a4).mono fun _ _ z => PA.tk tk z) (PA.tk tk pc)
  · rintro σ H3 ⟨u3, u4, u5, tab, rfl, s3, g3, a3⟩
    have e := ra.len
    rw [e, List.take_length] at a3
    exact ⟨_, rfl, kk q H3 tab hq s3 g3 a3⟩
end
end U

namespace U
open PySem L2 PyProof.Rows
section
variable {P : Program} {w : World} {K : PySem.W.Frag} {mg : Str → Option Value} {base : Heap}
theorem valV_put_self {kvs : List (Key × V)} {k : Key} {v : V} : valV (putK kvs k v) k = some v := by rw [valV_put, if_pos rfl]
theorem mvD_shaped {r : Option (Option Part)} (h : ∀ o, r = some o → goodC o 50) : SeqAt.shaped (mvD r) = true := by
  unfold SeqAt.shaped
  rw [mvD_can, Bool.true_and, decide_eq_true_eq]
  exact Nat.le_trans (mvD_depth h) (by decide)
theorem off_shaped : SeqAt.shaped (.str "off") = true := by decide +kernel
def spChangesL (K : PySem.W.Frag) : Sp := fun vs H Q _ => ∃ (d : Addr) (cs : List (Str × Part)) (D : Deed) (dv cv : V), vs = [.ref d, dv, cv] ∧ Con K H d cs ∧ CsOk cs ∧ DA K H D dv ∧ CA K H D.co cv ∧ D.okL ∧
  (∀ ns, D.nx cs = some ns → ∀ L : List Str, L.Perm (ks ns) → L.Pairwise leS → ∀ (r : Addr) (H' : Hp) (xs : List V), H r = none → Same H H' → H' r = some (.lst xs) → RAs K H' (rows cs ns L) xs → Q (.ref r) H') ∧ (D.nx cs = none → ∀ H', Same H H' → Q (.str "off") H')
theorem ok_lchanges {f : Addr} {fd : FuncData} (F : Fun K "_law_changes" "_law_changes" s_l_changes f fd) (B : Bt mg) (C_l_uses : Cal P w K mg base 10 "_law_uses" ["_law_deed_here"] (spUsesL K)) (C_l_down : Cal P w K mg base 10 "_law_down" ["_law_cell_here", "_law_rows"] spDn) (C_l_moved : Cal P w K mg base 10 "_law_moved" ["_law_content_here", "_law_rows"] (spMoved K 6)) :
    FnOk P w K mg base CX0 11 f fd ["_law_contents", "_law_deed_here", "_law_content_here"] (spChangesL K) := by
  refine F.ok sc_l_changes (fun vs H Q E h => ?_) (fun cdv A outer s H vs Q E hr h => ?_)
  · obtain ⟨d, cs, D, dv, cv, rfl, _⟩ := h
    rfl
  obtain ⟨dd, cs, D, dv, cv, rfl, con, cok, ⟨a, rfl, hT⟩, cc, ok, kk, kx⟩ := h
  have hu := hu_of hr
  refine ⟨_, (pss_cons (ps_set (i := 3) sc_l_changes.nd rfl (Or.inr rfl) (pe_disp (pps_cons (pe_ix ix_tup (pv 1) pe_int (fun _ _ => rfl)) (pv 2) pps_nil) (by rfl) (by rfl) (by intro z; cases z) (by decide)))
      (pss_cons (ps_if (pt_cmpR op_eq (pe_ix ix_tup (pv 1) pe_int (fun _ _ => rfl)) pe_str (nomark _)) (pss_one (ps_set (i := 3) sc_l_changes.nd rfl (Or.inr rfl) (pe_disp (pps_cons (pe_ix ix_tup (pv 1) pe_int (fun _ _ => rfl)) (pe_dget1 (hu_of hr) (pv 0) (pe_ix ix_tup (pv 1) pe_int (fun _ _ => rfl)) ⟨rfl, rfl, rfl, rfl⟩) (pps_cons (pe_ix ix_tup (pv 1) pe_int (fun _ _ => rfl)) (pe_dget1 (hu_of hr) (pv 0) (pe_ix ix_tup (pv 1) pe_int (fun _ _ => rfl)) ⟨rfl, rfl, rfl, rfl⟩) pps_nil)) (by rfl) (by rfl) (by intro z; cases z) (by decide)))) pss_nil)
      (pss_cons (ps_if (pt_cmpR op_eq (pe_ix ix_tup (pv 1) pe_int (fun _ _ => rfl)) pe_str (nomark _)) (pss_cons (ps_if (pt_cmpR op_in_seq pe_str (pc_c C_l_uses (hr.mono (by first | exact Nat.le_refl _ | decide | omega)) (by rfl) (pa_cons (pv 1) pa_nil)) (by rfl)) (pss_one (ps_ret pe_str)) pss_nil)
      (pss_cons (ps_set (i := 3) sc_l_changes.nd rfl (Or.inr rfl) pe_dnewK)
      (pss_one (ps_for PassesOwn.never rfl (pi_range2 (by rfl) B.range (pa_cons pe_int (pa_cons (pe_op op_add (pe_ix ix_tup (pv 1) pe_int (fun _ _ => rfl)) pe_int) pa_nil))) (pg_name (i := 4) sc_l_changes.nd rfl (Or.inl rfl)) (pss_cons (ps_dput hu (pv 3) (pc_c C_l_down (hr.mono (by first | exact Nat.le_refl _ | decide | omega)) (by rfl) (pa_cons (pe_ix ix_tup (pv 1) pe_int (fun _ _ => rfl)) (pa_cons (pv 4) pa_nil))) (pc_c C_l_moved (hr.mono (by first | exact Nat.le_refl _ | decide | omega)) (by rfl) (pa_cons (pe_dget1 (hu_of hr) (pv 0) (pe_ix ix_tup (pv 1) pe_int (fun _ _ => rfl)) ⟨rfl, rfl, rfl, rfl⟩) (pa_cons (pv 4) pa_nil))) rfl)
      (pss_one (ps_if (pt_cmpR (op_eqD hr.units) (pe_dget hu (pv 3) (pc_c C_l_down (hr.mono (by first | exact Nat.le_refl _ | decide | omega)) (by rfl) (pa_cons (pe_ix ix_tup (pv 1) pe_int (fun _ _ => rfl)) (pa_cons (pv 4) pa_nil))) (fun _ _ => rfl)) pe_str (nomark _)) (pss_one (ps_ret pe_str)) pss_nil))))))) pss_nil)
      (pss_one (ps_ret (pe_lc (own := [("_law_cell_here", 5)])  rfl sc_l_changes.nd (pi_list (pe_callB (call_sortedD rfl) (by rfl) B.sorted boot_sorted (pa_cons (pv 3) pa_nil))) (blkOk_by (N := ["_law_contents", "_law_deed_here", "_law_content_here", "_law_new", "_law_k", "_law_cell_here"]) (sc := defScope s_l_changes) (by decide +kernel)) (fun _ _ _ _ _ => pg_name (i := 5) sc_l_changes.nd rfl (Or.inl rfl)) (fun _ _ _ _ _ => (pts_one (pt_cmpR (op_neD_K (K := K) hr.units rfl) (pe_dget1 (hu_of hr) (pv 0) (pv 5) ⟨rfl, rfl, rfl, rfl⟩) (pe_dget hu (pv 3) (pv 5) (fun _ _ => rfl)) (nomark _)))) (fun _ _ _ _ _ => (pe_tup (pa_cons (pv 5) (pa_cons (pe_dget1 (hu_of hr) (pv 0) (pv 5) ⟨rfl, rfl, rfl, rfl⟩) (pa_cons (pe_dget hu (pv 3) (pv 5) (fun _ _ => rfl)) pa_nil))))))))))), ?_⟩
  refine fun p0 hp0 => ?_
  have s0 : Same H (upd H p0 (.dK [])) := same_new hp0 _
  have g0 : upd H p0 (.dK []) p0 = some (.dK []) := upd_same
  generalize upd H p0 (.dK []) = H0 at s0 g0 ⊢
  have hT0 := Tk.same s0 _ _ hT
  cases D with
  | set c o =>
    have hns : (Deed.set c o).nx cs = some (put [] c.s o) := rfl
    refine ⟨_, rfl, a, _, _, _, rfl, rfl, hT0, rfl, _, rfl, g0, [(Sum.inr c.s, cv)], rfl, by show 1 ≤ 15; decide, ?_⟩
    have tk1 := tk_upd (K := K) (v := .dK (mergeK [] [(Sum.inr c.s, cv)])) g0 nt_dK
    have s1 : Same H (upd H0 p0 (.dK (mergeK [] [(Sum.inr c.s, cv)]))) := fun c0 o0 z => by
      rw [upd_ne (ne_of_none z hp0)]
      exact s0 _ _ z
    have g1 : upd H0 p0 (.dK (mergeK [] [(Sum.inr c.s, cv)])) p0 = some (.dK (mergeK [] [(Sum.inr c.s, cv)])) := upd_same
    have an : Al (CA K (upd H0 p0 (.dK (mergeK [] [(Sum.inr c.s, cv)])))) (put [] c.s o) (mergeK [] [(Sum.inr c.s, cv)]) := Al.put (x := c.s) (show Al (CA K _) [] [] from trivial) ((cc.tk (.same s0)).tk tk1)
    have he := hp0
    generalize upd H0 p0 (.dK (mergeK [] [(Sum.inr c.s, cv)])) = H1 at s1 g1 an ⊢
    generalize mergeK [] [(Sum.inr c.s, cv)] = tab at g1 an
    generalize put [] c.s o = ns at hns an
    generalize p0 = e at he g1 ⊢
    have hT1 := Tk.same s1 _ _ hT
    refine ⟨_, rfl, a, _, _, _, rfl, rfl, hT1, at0, rfl, _, rfl, iteF ⟨_, rfl, a, _, _, _, rfl, rfl, hT1, at0, rfl, _, rfl, iteF ?_⟩⟩
    have no := nx_ok cok ok hns
    have con1 := con.same s1
    refine ⟨_, rfl, e, tab, ks ns, rfl, .inl g1, an.keys, ?_, fun ys p hy hso hp => ?_⟩
    · have := no.len
      unfold ks
      rw [List.length_map]
      omega
    have s2 : Same H1 (upd H1 p (.lst (ys.map V.str))) := same_new hp _
    have g2 : upd H1 p (.lst (ys.map V.str)) p = some (.lst (ys.map V.str)) := upd_same
    generalize upd H1 p (.lst (ys.map V.str)) = H2 at s2 g2 ⊢
    have yl : ys.length ≤ 54 := by
      have h1 := hy.length_eq
      have h2 := no.len
      unfold ks at h1
      rw [List.length_map] at h1
      omega
    have con2 := con1.same s2
    have an2 : Al (CA K H2) ns tab := an.mono fun _ _ q => CA.tk (Tk.same s2) q
    refine ⟨p, rfl, ⟨_, SqL.of g2⟩, fun D2 hD => ?_⟩
    refine lc_list (K := K) (a := p) (xs := ys.map V.str) (fun i H3 => Same H2 H3 ∧ ∃ xs : List V, H3 D2 = some (.lst xs) ∧ RAs K H3 (rows cs ns (ys.take i)) xs) ⟨same_new hD _, [], upd_same, trivial⟩ (fun i H3 _ h => SqL.of (h.1 _ _ g2)) ?_ ?_
    · rintro i x H3 hx ⟨s3, xs, g3, r3⟩
      obtain ⟨t, ht, rfl⟩ : ∃ t, ys[i]? = some t ∧ x = V.str t := by
        rw [List.getElem?_map] at hx
        cases q : ys[i]? with
        | none => rw [q] at hx; simp at hx
        | some t => rw [q] at hx; exact ⟨t, rfl, by simpa using hx.symm⟩
      have con3 := con2.same s3
      obtain ⟨o, hg, c1⟩ := con_get con3 t
      have htm : t ∈ ks ns := hy.mem_iff.mp (List.mem_of_getElem? ht)
      obtain ⟨n1, hn1⟩ := lk_some htm
      obtain ⟨u, hu1, c2⟩ := (an2.mono fun _ _ q => CA.tk (Tk.same s3) q : Al (CA K H3) ns tab).some hn1
      have g13 := s3 _ _ (s2 _ _ g1)
      have ga := good_lk cok t
      have gb := no.gd _ (lk_mem hn1)
      have env : nv ns t = n1 := by unfold nv; rw [hn1]; rfl
      refine ⟨wipe_in (by decide), _, rfl, dd, rfl, con_isD con3, _, rfl, o, hg, _, rfl, _, rfl, e, u, rfl, hu1 ▸ DGet.s (.inl g13), _, _, c1.dp, c2.dp, oD_shaped (goodC_mono ga (by decide)), oD_shaped (goodC_mono gb (by decide)), ?_⟩
      rw [eqv_oD]
      refine ⟨_, rfl, ?_⟩
      by_cases hq : lk cs t = n1
      · rw [decide_eq_true hq]
        refine iteF ⟨s3, xs, g3, ?_⟩
        rw [List.take_add_one, ht, rows_app]
        have : rows cs ns [t] = [] := by
          unfold rows
          rw [List.filter_cons, env, decide_eq_true hq]
          rfl
        show RAs K H3 (rows cs ns (ys.take i) ++ rows cs ns [t]) xs
        rw [this, List.append_nil]
        exact r3
      · rw [decide_eq_false hq]
        refine iteT ⟨_, rfl, _, rfl, dd, rfl, con_isD con3, _, rfl, o, hg, _, rfl, _, rfl, e, u, rfl, hu1 ▸ DGet.s (.inl g13), small (by show 3 ≤ 1000; decide), fun q hq2 => ?_⟩
        have s4 := same_new hq2 (.tup [V.str t, o.getD .non, u])
        have g4 : SqT K (upd H3 q (.tup [V.str t, o.getD .non, u])) q [V.str t, o.getD .non, u] := SqT.of upd_same
        generalize upd H3 q (.tup [V.str t, o.getD .non, u]) = H4 at s4 g4 ⊢
        have gx := s4 _ _ g3
        have lx := r3.len
        have ll := rows_len (cs := cs) (ns := ns) (l := ys.take i)
        rw [List.length_take] at ll
        refine ⟨xs, gx, small (by omega), fun c0 o0 z => ?_, xs ++ [.ref q], upd_same, ?_⟩
        · rw [upd_ne (ne_of_none z hD)]
          exact s4 _ _ (s3 _ _ z)
        · have tk5 : Tk K H4 (upd H4 D2 (.lst (xs ++ [.ref q]))) := tk_upd gx nt_lst
          rw [List.take_add_one, ht, rows_app]
          have : rows cs ns [t] = [(t, lk cs t, n1)] := by
            unfold rows
            rw [List.filter_cons, env, decide_eq_false hq]
            show [(t, lk cs t, nv ns t)] = _
            rw [env]
          show RAs K _ (rows cs ns (ys.take i) ++ rows cs ns [t]) _
          rw [this]
          exact RAs.snoc ((r3.tk (.same s4)).tk tk5) ⟨q, _, _, rfl, tk5 _ _ g4, (c1.tk (.same s4)).tk tk5, (c2.tk (.same s4)).tk tk5⟩
    · rintro H3 ⟨s3, xs, g3, r3⟩
      rw [List.length_map, List.take_length] at r3
      exact kk ns hns ys hy (sortedS_pw hso) D2 H3 xs (s1.free (s2.free hD)) ((s1.trans s2).trans s3) g3 r3
  | swap c d =>
    refine ⟨_, rfl, a, _, _, _, rfl, rfl, hT0, rfl, _, rfl, g0, [(Sum.inr c.s, cv)], rfl, by show 1 ≤ 15; decide, ?_⟩
    have s01 : Same H (upd H0 p0 (.dK (mergeK [] [(Sum.inr c.s, cv)]))) := fun c0 o0 z => by
      rw [upd_ne (ne_of_none z hp0)]
      exact s0 _ _ z
    generalize upd H0 p0 (.dK (mergeK [] [(Sum.inr c.s, cv)])) = H01 at s01 ⊢
    have hT01 := Tk.same s01 _ _ hT
    refine ⟨_, rfl, a, _, _, _, rfl, rfl, hT01, at0, rfl, _, rfl, iteT fun e he0 => ?_⟩
    have s02 : Same H (upd H01 e (.dK [])) := s01.trans (same_new he0 _)
    have g02 : upd H01 e (.dK []) e = some (.dK []) := upd_same
    have he := s01.free he0
    generalize upd H01 e (.dK []) = H02 at s02 g02 ⊢
    have hT02 := Tk.same s02 _ _ hT
    have con2 := con.same s02
    obtain ⟨o1, q1, c1⟩ := con_get con2 d.s
    obtain ⟨o2, q2, c2⟩ := con_get con2 c.s
    refine ⟨_, rfl, a, _, _, _, rfl, rfl, hT02, rfl, _, rfl, dd, rfl, con_isD con2, _, rfl, a, _, _, _, rfl, rfl, hT02, rfl, o1, q1, _, rfl, a, _, _, _, rfl, rfl, hT02, rfl, _, rfl, dd, rfl, con_isD con2, _, rfl, a, _, _, _, rfl, rfl, hT02, rfl, o2, q2, g02, [(Sum.inr c.s, o1.getD .non), (Sum.inr d.s, o2.getD .non)], rfl, by show 2 ≤ 15; decide, ?_⟩
    have tk1 := tk_upd (K := K) (v := .dK (mergeK [] [(Sum.inr c.s, o1.getD .non), (Sum.inr d.s, o2.getD .non)])) g02 nt_dK
    have hns : (Deed.swap c d).nx cs = some (put (put [] c.s (lk cs d.s)) d.s (lk cs c.s)) := rfl
    have an : Al (CA K (upd H02 e (.dK (mergeK [] [(Sum.inr c.s, o1.getD .non), (Sum.inr d.s, o2.getD .non)])))) (put (put [] c.s (lk cs d.s)) d.s (lk cs c.s)) (mergeK [] [(Sum.inr c.s, o1.getD .non), (Sum.inr d.s, o2.getD .non)]) :=
      Al.put (x := d.s) (Al.put (x := c.s) (show Al (CA K _) [] [] from trivial) (c1.tk tk1)) (c2.tk tk1)
    have s1 : Same H (upd H02 e (.dK (mergeK [] [(Sum.inr c.s, o1.getD .non), (Sum.inr d.s, o2.getD .non)]))) := fun c0 o0 z => by
      rw [upd_ne (ne_of_none z he)]
      exact s02 _ _ z
    have g1 : upd H02 e (.dK (mergeK [] [(Sum.inr c.s, o1.getD .non), (Sum.inr d.s, o2.getD .non)])) e = some (.dK (mergeK [] [(Sum.inr c.s, o1.getD .non), (Sum.inr d.s, o2.getD .non)])) := upd_same
    generalize upd H02 e (.dK (mergeK [] [(Sum.inr c.s, o1.getD .non), (Sum.inr d.s, o2.getD .non)])) = H1 at s1 g1 an ⊢
    generalize mergeK [] [(Sum.inr c.s, o1.getD .non), (Sum.inr d.s, o2.getD .non)] = tab at g1 an
    generalize put (put [] c.s (lk cs d.s)) d.s (lk cs c.s) = ns at hns an
    have hT1 := Tk.same s1 _ _ hT
    refine ⟨_, rfl, a, _, _, _, rfl, rfl, hT1, at0, rfl, _, rfl, iteF ?_⟩
    have no := nx_ok cok ok hns
    have con1 := con.same s1
    refine ⟨_, rfl, e, tab, ks ns, rfl, .inl g1, an.keys, ?_, fun ys p hy hso hp => ?_⟩
    · have := no.len
      unfold ks
      rw [List.length_map]
      omega
    have s2 : Same H1 (upd H1 p (.lst (ys.map V.str))) := same_new hp _
    have g2 : upd H1 p (.lst (ys.map V.str)) p = some (.lst (ys.map V.str)) := upd_same
    generalize upd H1 p (.lst (ys.map V.str)) = H2 at s2 g2 ⊢
    have yl : ys.length ≤ 54 := by
      have h1 := hy.length_eq
      have h2 := no.len
      unfold ks at h1
      rw [List.length_map] at h1
      omega
    have con2 := con1.same s2
    have an2 : Al (CA K H2) ns tab := an.mono fun _ _ q => CA.tk (Tk.same s2) q
    refine ⟨p, rfl, ⟨_, SqL.of g2⟩, fun D2 hD => ?_⟩
    refine lc_list (K := K) (a := p) (xs := ys.map V.str) (fun i H3 => Same H2 H3 ∧ ∃ xs : List V, H3 D2 = some (.lst xs) ∧ RAs K H3 (rows cs ns (ys.take i)) xs) ⟨same_new hD _, [], upd_same, trivial⟩ (fun i H3 _ h => SqL.of (h.1 _ _ g2)) ?_ ?_
    · rintro i x H3 hx ⟨s3, xs, g3, r3⟩
      obtain ⟨t, ht, rfl⟩ : ∃ t, ys[i]? = some t ∧ x = V.str t := by
        rw [List.getElem?_map] at hx
        cases q : ys[i]? with
        | none => rw [q] at hx; simp at hx
        | some t => rw [q] at hx; exact ⟨t, rfl, by simpa using hx.symm⟩
      have con3 := con2.same s3
      obtain ⟨o, hg, c1⟩ := con_get con3 t
      have htm : t ∈ ks ns := hy.mem_iff.mp (List.mem_of_getElem? ht)
      obtain ⟨n1, hn1⟩ := lk_some htm
      obtain ⟨u, hu1, c2⟩ := (an2.mono fun _ _ q => CA.tk (Tk.same s3) q : Al (CA K H3) ns tab).some hn1
      have g13 := s3 _ _ (s2 _ _ g1)
      have ga := good_lk cok t
      have gb := no.gd _ (lk_mem hn1)
      have env : nv ns t = n1 := by unfold nv; rw [hn1]; rfl
      refine ⟨wipe_in (by decide), _, rfl, dd, rfl, con_isD con3, _, rfl, o, hg, _, rfl, _, rfl, e, u, rfl, hu1 ▸ DGet.s (.inl g13), _, _, c1.dp, c2.dp, oD_shaped (goodC_mono ga (by decide)), oD_shaped (goodC_mono gb (by decide)), ?_⟩
      rw [eqv_oD]
      refine ⟨_, rfl, ?_⟩
      by_cases hq : lk cs t = n1
      · rw [decide_eq_true hq]
        refine iteF ⟨s3, xs, g3, ?_⟩
        rw [List.take_add_one, ht, rows_app]
        have : rows cs ns [t] = [] := by
          unfold rows
          rw [List.filter_cons, env, decide_eq_true hq]
          rfl
        show RAs K H3 (rows cs ns (ys.take i) ++ rows cs ns [t]) xs
        rw [this, List.append_nil]
        exact r3
      · rw [decide_eq_false hq]
        refine iteT ⟨_, rfl, _, rfl, dd, rfl, con_isD con3, _, rfl, o, hg, _, rfl, _, rfl, e, u, rfl, hu1 ▸ DGet.s (.inl g13), small (by show 3 ≤ 1000; decide), fun q hq2 => ?_⟩
        have s4 := same_new hq2 (.tup [V.str t, o.getD .non, u])
        have g4 : SqT K (upd H3 q (.tup [V.str t, o.getD .non, u])) q [V.str t, o.getD .non, u] := SqT.of upd_same
        generalize upd H3 q (.tup [V.str t, o.getD .non, u]) = H4 at s4 g4 ⊢
        have gx := s4 _ _ g3
        have lx := r3.len
        have ll := rows_len (cs := cs) (ns := ns) (l := ys.take i)
        rw [List.length_take] at ll
        refine ⟨xs, gx, small (by omega), fun c0 o0 z => ?_, xs ++ [.ref q], upd_same, ?_⟩
        · rw [upd_ne (ne_of_none z hD)]
          exact s4 _ _ (s3 _ _ z)
        · have tk5 : Tk K H4 (upd H4 D2 (.lst (xs ++ [.ref q]))) := tk_upd gx nt_lst
          rw [List.take_add_one, ht, rows_app]
          have : rows cs ns [t] = [(t, lk cs t, n1)] := by
            unfold rows
            rw [List.filter_cons, env, decide_eq_false hq]
            show [(t, lk cs t, nv ns t)] = _
            rw [env]
          show RAs K _ (rows cs ns (ys.take i) ++ rows cs ns [t]) _
          rw [this]
          exact RAs.snoc ((r3.tk (.same s4)).tk tk5) ⟨q, _, _, rfl, tk5 _ _ g4, (c1.tk (.same s4)).tk tk5, (c2.tk (.same s4)).tk tk5⟩
    · rintro H3 ⟨s3, xs, g3, r3⟩
      rw [List.length_map, List.take_length] at r3
      exact kk ns hns ys hy (sortedS_pw hso) D2 H3 xs (s1.free (s2.free hD)) ((s1.trans s2).trans s3) g3 r3
  | fill c n =>
    have hn2 := ok.2
    have hn1 := ok.1
    refine ⟨_, rfl, a, _, _, _, rfl, rfl, hT0, rfl, _, rfl, g0, [(Sum.inr c.s, cv)], rfl, by show 1 ≤ 15; decide, ?_⟩
    have s01 : Same H (upd H0 p0 (.dK (mergeK [] [(Sum.inr c.s, cv)]))) := fun c0 o0 z => by
      rw [upd_ne (ne_of_none z hp0)]
      exact s0 _ _ z
    generalize upd H0 p0 (.dK (mergeK [] [(Sum.inr c.s, cv)])) = H01 at s01 ⊢
    have hT01 := Tk.same s01 _ _ hT
    refine ⟨_, rfl, a, _, _, _, rfl, rfl, hT01, at0, rfl, _, rfl, iteF ⟨_, rfl, a, _, _, _, rfl, rfl, hT01, at0, rfl, _, rfl, iteT ?_⟩⟩
    refine ⟨_, rfl, .fill c n, _, rfl, ⟨a, rfl, hT01⟩, ok, fun r H2 hr2 s2 g2 => ?_⟩
    refine ⟨r, _, rfl, .inl (SqL.of g2), rfl, flat_strs _, decide (("" : Str) ∈ (Deed.fill c n).us), congrArg V.bl (inS "" _), ?_⟩
    have s02 := s01.trans s2
    by_cases hn : c.r + n < 9
    case neg =>
      rw [show decide (("" : Str) ∈ (Deed.fill c n).us) = true from decide_eq_true (us_off hn)]
      exact iteT (kx (Deed.nx_off (D := .fill c n) (decide_eq_false hn)) _ s02)
    rw [show decide (("" : Str) ∈ (Deed.fill c n).us) = false from decide_eq_false (us_on hn)]
    have hB : (Deed.fill c n).okB = true := decide_eq_true hn
    rw [Deed.nx_on hB] at kx
    refine iteF fun e he0 => ?_
    have he := s02.free he0
    have s03 : Same H (upd H2 e (.dK [])) := s02.trans (same_new he0 _)
    have g03 : upd H2 e (.dK []) e = some (.dK []) := upd_same
    generalize upd H2 e (.dK []) = H03 at s03 g03 ⊢
    have hT03 := Tk.same s03 _ _ hT
    refine ⟨_, rfl, a, _, _, _, rfl, rfl, hT03, rfl, _, _, rfl, rfl, 1, (n : Int) + 1, rfl, ⟨by decide, by decide, by omega, by omega⟩, ?_⟩
    rw [show ((n : Int) + 1 - 1).toNat = n by omega]
    refine for_range (lo := 1) (fun i σ H3 => ∃ (u4 : Option V) (ns : List (Str × Option Part)) (tab : List (Key × V)), σ = [some (.ref dd), some (.ref a), some cv, some (.ref e), u4, none] ∧ Same H H3 ∧ fillN c (lk cs c.s) i = some ns ∧ ns.length ≤ i ∧ H3 e = some (.dK tab) ∧ Al (CA K H3) ns tab)
      ⟨none, [], [], rfl, s03, rfl, Nat.le_refl _, g03, trivial⟩ ?_ ?_
    · rintro i σ H3 hi ⟨u4, ns, tab, rfl, s3, e3, l3, g3, a3⟩
      have x1 : (1 : Int) + (i : Int) = ((i + 1 : Nat) : Int) := by omega
      rw [x1]
      have hT3 := Tk.same s3 _ _ hT
      have con3 := con.same s3
      obtain ⟨o1, q1, c1⟩ := con_get con3 c.s
      have gl := good_lk cok c.s
      refine ⟨_, rfl, dd, rfl, con_isD con3, _, rfl, a, _, _, _, rfl, rfl, hT3, rfl, o1, q1, _, rfl, lk cs c.s, o1.getD .non, i + 1, rfl, c1, by omega, goodC_mono gl (by decide), by decide, fun v' H4 s4 mv => ?_⟩
      have s34 := s3.trans s4
      have hT4 := Tk.same s34 _ _ hT
      have g4 := s4 _ _ g3
      have l4 := a3.len
      refine ⟨_, rfl, _, rfl, a, _, _, _, rfl, rfl, hT4, rfl, _, rfl, c, i + 1, rfl, by omega, e, _, rfl, DPut.s g4 (small (by omega)), ?_⟩
      have tk5 := tk_upd (K := K) (v := .dK (putK tab (Sum.inr (c.dn (i + 1))) v')) g4 nt_dK
      have s5 : Same H (upd H4 e (.dK (putK tab (Sum.inr (c.dn (i + 1))) v'))) := fun c0 o0 z => by
        rw [upd_ne (ne_of_none z he)]
        exact s34 _ _ z
      have g5 : upd H4 e (.dK (putK tab (Sum.inr (c.dn (i + 1))) v')) e = some (.dK (putK tab (Sum.inr (c.dn (i + 1))) v')) := upd_same
      have a5 : Al (CA K (upd H4 e (.dK (putK tab (Sum.inr (c.dn (i + 1))) v')))) ns tab := a3.mono fun _ _ z => (z.tk (.same s4)).tk tk5
      have mv5 := mv.tk tk5
      generalize upd H4 e (.dK (putK tab (Sum.inr (c.dn (i + 1))) v')) = H5 at s5 g5 a5 mv5 ⊢
      have hT5 := Tk.same s5 _ _ hT
      refine ⟨_, rfl, _, rfl, a, _, _, _, rfl, rfl, hT5, rfl, _, rfl, c, i + 1, rfl, by omega, e, v', rfl, valV_put_self ▸ DGet.s (.inl g5), mvD (lowC (i + 1) (lk cs c.s)), .str "off", mv5.dp, .str _, mvD_shaped (fun o h => goodC_mono (good_low gl h) (by decide)), off_shaped, ?_⟩
      rw [mvD_off]
      refine ⟨_, rfl, ?_⟩
      cases hlw : lowC (i + 1) (lk cs c.s) with
      | none => exact iteT (kx (fillN_none hlw hi) H5 s5)
      | some o' =>
        rw [hlw] at mv5
        refine iteF ⟨_, put ns (c.dn (i + 1)) o', _, rfl, s5, ?_, Nat.le_trans put_len (by omega), g5, Al.put a5 mv5⟩
        unfold fillN
        rw [e3, hlw]
    · rintro σ H1 ⟨u4, ns, tab, rfl, s1, hns, l3, g1, an⟩
      have hns : (Deed.fill c n).nx cs = some ns := by rw [Deed.nx_on hB]; exact hns
      have no := nx_ok cok ok hns
      have con1 := con.same s1
      refine ⟨_, rfl, e, tab, ks ns, rfl, .inl g1, an.keys, ?_, fun ys p hy hso hp => ?_⟩
      · have := no.len
        unfold ks
        rw [List.length_map]
        omega
      have s2 : Same H1 (upd H1 p (.lst (ys.map V.str))) := same_new hp _
      have g2 : upd H1 p (.lst (ys.map V.str)) p = some (.lst (ys.map V.str)) := upd_same
      generalize upd H1 p (.lst (ys.map V.str)) = H2 at s2 g2 ⊢
      have yl : ys.length ≤ 54 := by
        have h1 := hy.length_eq
        have h2 := no.len
        unfold ks at h1
        rw [List.length_map] at h1
        omega
      have con2 := con1.same s2
      have an2 : Al (CA K H2) ns tab := an.mono fun _ _ q => CA.tk (Tk.same s2) q
      refine ⟨p, rfl, ⟨_, SqL.of g2⟩, fun D2 hD => ?_⟩
      refine lc_list (K := K) (a := p) (xs := ys.map V.str) (fun i H3 => Same H2 H3 ∧ ∃ xs : List V, H3 D2 = some (.lst xs) ∧ RAs K H3 (rows cs ns (ys.take i)) xs) ⟨same_new hD _, [], upd_same, trivial⟩ (fun i H3 _ h => SqL.of (h.1 _ _ g2)) ?_ ?_
      · rintro i x H3 hx ⟨s3, xs, g3, r3⟩
        obtain ⟨t, ht, rfl⟩ : ∃ t, ys[i]? = some t ∧ x = V.str t := by
          rw [List.getElem?_map] at hx
          cases q : ys[i]? with
          | none => rw [q] at hx; simp at hx
          | some t => rw [q] at hx; exact ⟨t, rfl, by simpa using hx.symm⟩
        have con3 := con2.same s3
        obtain ⟨o, hg, c1⟩ := con_get con3 t
        have htm : t ∈ ks ns := hy.mem_iff.mp (List.mem_of_getElem? ht)
        obtain ⟨n1, hn1⟩ := lk_some htm
        obtain ⟨u, hu1, c2⟩ := (an2.mono fun _ _ q => CA.tk (Tk.same s3) q : Al (CA K H3) ns tab).some hn1
        have g13 := s3 _ _ (s2 _ _ g1)
        have ga := good_lk cok t
        have gb := no.gd _ (lk_mem hn1)
        have env : nv ns t = n1 := by unfold nv; rw [hn1]; rfl
        refine ⟨wipe_in (by decide), _, rfl, dd, rfl, con_isD con3, _, rfl, o, hg, _, rfl, _, rfl, e, u, rfl, hu1 ▸ DGet.s (.inl g13), _, _, c1.dp, c2.dp, oD_shaped (goodC_mono ga (by decide)), oD_shaped (goodC_mono gb (by decide)), ?_⟩
        rw [eqv_oD]
        refine ⟨_, rfl, ?_⟩
        by_cases hq : lk cs t = n1
        · rw [decide_eq_true hq]
          refine iteF ⟨s3, xs, g3, ?_⟩
          rw [List.take_add_one, ht, rows_app]
          have : rows cs ns [t] = [] := by
            unfold rows
            rw [List.filter_cons, env, decide_eq_true hq]
            rfl
          show RAs K H3 (rows cs ns (ys.take i) ++ rows cs ns [t]) xs
          rw [this, List.append_nil]
          exact r3
        · rw [decide_eq_false hq]
          refine iteT ⟨_, rfl, _, rfl, dd, rfl, con_isD con3, _, rfl, o, hg, _, rfl, _, rfl, e, u, rfl, hu1 ▸ DGet.s (.inl g13), small (by show 3 ≤ 1000; decide), fun q hq2 => ?_⟩
          have s4 := same_new hq2 (.tup [V.str t, o.getD .non, u])
          have g4 : SqT K (upd H3 q (.tup [V.str t, o.getD .non, u])) q [V.str t, o.getD .non, u] := SqT.of upd_same
          generalize upd H3 q (.tup [V.str t, o.getD .non, u]) = H4 at s4 g4 ⊢
          have gx := s4 _ _ g3
          have lx := r3.len
          have ll := rows_len (cs := cs) (ns := ns) (l := ys.take i)
          rw [List.length_take] at ll
          refine ⟨xs, gx, small (by omega), fun c0 o0 z => ?_, xs ++ [.ref q], upd_same, ?_⟩
          · rw [upd_ne (ne_of_none z hD)]
            exact s4 _ _ (s3 _ _ z)
          · have tk5 : Tk K H4 (upd H4 D2 (.lst (xs ++ [.ref q]))) := tk_upd gx nt_lst
            rw [List.take_add_one, ht, rows_app]
            have : rows cs ns [t] = [(t, lk cs t, n1)] := by
              unfold rows
              rw [List.filter_cons, env, decide_eq_false hq]
              show [(t, lk cs t, nv ns t)] = _
              rw [env]
            show RAs K _ (rows cs ns (ys.take i) ++ rows cs ns [t]) _
            rw [this]
            exact RAs.snoc ((r3.tk (.same s4)).tk tk5) ⟨q, _, _, rfl, tk5 _ _ g4, (c1.tk (.same s4)).tk tk5, (c2.tk (.same s4)).tk tk5⟩
      · rintro H3 ⟨s3, xs, g3, r3⟩
        rw [List.length_map, List.take_length] at r3
        exact kk ns hns ys hy (sortedS_pw hso) D2 H3 xs (s1.free (s2.free hD)) ((s1.trans s2).trans s3) g3 r3
end
end U

namespace U
open PySem L2 PyProof.Rows
section
variable {P : Program} {w : World} {K : PySem.W.Frag} {mg : Str → Option Value} {base : Heap}
def rN (rs : List Row) : List (Str × Option Part) := rs.foldl (fun acc r => put acc r.1 r.2.2) []
theorem rN_snoc (a : List Row) (r : Row) : rN (a ++ [r]) = put (rN a) r.1 r.2.2 := by
  unfold rN
  rw [List.foldl_append]
  rfl
theorem rN_len : ∀ a : List Row, (rN a).length ≤ a.length := fun a => by
  unfold rN
  have : ∀ (rs : List Row) (acc : List (Str × Option Part)), (rs.foldl (fun acc r => put acc r.1 r.2.2) acc).length ≤ acc.length + rs.length := by
    intro rs
    induction rs with
    | nil => intro acc; simp
    | cons r rs ih =>
      intro acc
      have h1 := ih (put acc r.1 r.2.2)
      have h2 := put_len (cs := acc) (x := r.1) (a := r.2.2)
      simp only [List.foldl_cons, List.length_cons]
      omega
  have h := this a []
  simpa using h
theorem rN_ok : ∀ {rs : List Row}, RsOk rs → NsOk (rN rs) := by
  have : ∀ (rs : List Row) (acc : List (Str × Option Part)), NsOk acc → RsOk rs → NsOk (rs.foldl (fun acc r => put acc r.1 r.2.2) acc) := by
    intro rs
    induction rs with
    | nil => intro acc h _; exact h
    | cons r rs ih =>
      intro acc h hr
      have h1 := hr r List.mem_cons_self
      exact ih _ (h.put h1.1 h1.2.2) fun x hx => hr x (List.mem_cons_of_mem _ hx)
  exact fun {rs} h => this rs [] .nil h
def Deed.dat : Deed → PyData
  | .set c o => .tuple [.str "set", .str c.s, .str (SX.S (ctx o))]
  | .swap c d => .tuple [.str "swap", .str c.s, .str d.s]
  | .fill c n => .tuple [.str "fill", .str c.s, .int n]
theorem DA.dp {H : Hp} {D : Deed} {v : V} (h : DA K H D v) : Dp K H v D.dat := by
  obtain ⟨a, rfl, h⟩ := h
  cases D with
  | set c o => exact .tup h (.cons (.str _) (.cons (.str _) (.cons (.str _) .nil)))
  | swap c d => exact .tup h (.cons (.str _) (.cons (.str _) (.cons (.str _) .nil)))
  | fill c n => exact .tup h (.cons (.str _) (.cons (.str _) (.cons (.int _) .nil)))
theorem Deed.dat_ok (D : Deed) (i j : Int) : PyData.depth (.tuple [.int i, .int j, D.dat]) < 3 ∧ szOk (.tuple [.int i, .int j, D.dat]) = true := by
  cases D <;> constructor <;> simp [Deed.dat, PyData.depth, PyData.depthAll, szOk, szAll]
/-- contents that tell the same -/
def SameC (cs lc : List (Str × Part)) : Prop := ∀ x, lk cs x = lk lc x
theorem nx_same {cs lc : List (Str × Part)} (h : SameC cs lc) (D : Deed) : D.nx cs = D.nx lc := by
  unfold Deed.nx Deed.nw
  cases D with
  | set c o => rfl
  | swap c d => simp only [h c.s, h d.s]
  | fill c n => simp only [h c.s]
theorem rows_same {cs lc : List (Str × Part)} (h : SameC cs lc) (ns : List (Str × Option Part)) (L : List Str) : rows cs ns L = rows lc ns L := by
  unfold rows
  simp only [h _]
theorem rN_eq (rs : List Row) : rN rs = mergeA [] (rs.map fun r => (r.1, r.2.2)) := by
  unfold rN mergeA
  rw [List.foldl_map]
theorem same_next {cs lc : List (Str × Part)} {ns : List (Str × Option Part)} (h : SameC cs lc) (nc : (ks cs).Nodup) (n : (ks ns).Nodup) {L : List Str} (hL : L.Perm (ks ns)) : SameC (rep cs (rN (rows lc ns L))) (withL lc (rows lc ns L)) := by
  intro x
  have nL : L.Nodup := hL.nodup_iff.mpr n
  have nr : ((rows lc ns L).map (·.1)).Nodup := by
    rw [rows_names]
    exact nL.sublist List.filter_sublist
  generalize rows lc ns L = rs at nr
  have nk : (ks (rs.map fun r => (r.1, r.2.2))).Nodup := by
    unfold ks
    rw [List.map_map]
    exact nr
  have nrN : (ks (rN rs)).Nodup := by rw [rN_eq]; exact mergeA_nodup List.nodup_nil
  rw [lk_rep nc nrN, rN_eq, lk_mergeA nk, lk_nil]
  by_cases m : x ∈ rs.map (·.1)
  · obtain ⟨r, hr, e⟩ := List.mem_map.mp m
    have e : r.1 = x := e
    subst e
    rw [lk_withL_in nr hr, lk_of_mem nk (List.mem_map.mpr ⟨r, hr, rfl⟩)]
    rfl
  · rw [lk_withL_out m]
    have hn : lk (rs.map fun r => (r.1, r.2.2)) x = none := lk_none.mpr (by unfold ks; rw [List.map_map]; exact m)
    rw [hn]
    exact h x
def G3 (ns : List (Str × Option Part)) : Prop := ∀ e ∈ ns, goodC e.2 3
theorem G3.put {ns : List (Str × Option Part)} {x : Str} {o : Option Part} (h : G3 ns) (g : goodC o 3) : G3 (put ns x o) := fun e he => (mem_put he).elim (fun z => z ▸ g) fun z => h e z
theorem fillN_g3 {c : Cel} {o : Option Part} (g : goodC o 3) : ∀ {n : Nat} {ns : List (Str × Option Part)}, fillN c o n = some ns → G3 ns
  | 0, ns, h => by cases h; exact fun _ z => by cases z
  | n + 1, ns, h => by
    unfold fillN at h
    cases e : fillN c o n with
    | none => simp [e] at h
    | some l =>
      cases e2 : lowC (n + 1) o with
      | none => simp [e, e2] at h
      | some o' =>
        simp [e, e2] at h
        subst h
        exact (fillN_g3 g e).put (good_low g e2)
theorem lk_g3 {lc : List (Str × Part)} (ok : CsOk lc) (h : ∀ e ∈ lc, e.2.hgt ≤ 3) (x : Str) : goodC (lk lc x) 3 := by
  cases e : lk lc x with
  | none => trivial
  | some p => exact ⟨(ok.gd _ (lk_mem e)).1, h _ (lk_mem e)⟩
theorem nx_g3 {lc : List (Str × Part)} (ok : CsOk lc) (h : ∀ e ∈ lc, e.2.hgt ≤ 3) {D : Deed} (g : goodC D.co 3) {ns : List (Str × Option Part)} (e : D.nx lc = some ns) : G3 ns := by
  have e := (Deed.nx_some e).2
  cases D with
  | set c o => cases e; exact fun z hz => by simp at hz; subst hz; exact g
  | swap c d =>
    cases e
    refine G3.put (fun z hz => ?_) (lk_g3 ok h _)
    simp at hz
    subst hz
    exact lk_g3 ok h _
  | fill c n => exact fillN_g3 (lk_g3 ok h _) e
theorem withL_h3 : ∀ {rs : List Row} {lc : List (Str × Part)}, (∀ e ∈ lc, e.2.hgt ≤ 3) → (∀ r ∈ rs, goodC r.2.2 3) → ∀ e ∈ withL lc rs, e.2.hgt ≤ 3
  | [], _, h, _ => h
  | r :: rs, lc, h, hr => by
    refine withL_h3 (rs := rs) (lc := stepW lc r) (fun e he => ?_) fun x hx => hr x (List.mem_cons_of_mem _ hx)
    have g := hr r List.mem_cons_self
    unfold stepW at he
    cases z : r.2.2 with
    | none => rw [z] at he; exact h e (mem_drop he)
    | some p =>
      rw [z] at he g
      rcases mem_put he with rfl | he
      · exact g.2
      · exact h e (mem_drop he)
theorem rows_g3 {lc : List (Str × Part)} {ns : List (Str × Option Part)} (g : G3 ns) (L : List Str) : ∀ r ∈ rows lc ns L, goodC r.2.2 3 := fun r hr => by
  obtain ⟨x, hx, rfl⟩ := List.mem_map.mp hr
  show goodC (nv ns x) 3
  unfold nv
  cases e : lk ns x with
  | none => trivial
  | some o => exact g _ (lk_mem e)
end
end U

namespace U
open PySem L2 PyProof.Rows
/-! the one lemma of the G parts that N5 needs, for laws without values -/
theorem strs_at {l : List Str} {i : Nat} {x : V} (h : (l.map V.str)[i]? = some x) : ∃ t, l[i]? = some t ∧ x = V.str t := by
  rw [List.getElem?_map] at h
  cases e : l[i]? with
  | none => rw [e] at h; cases h
  | some t => rw [e] at h; exact ⟨t, rfl, (Option.some.inj h).symm⟩
end U

namespace U
open PySem L2 PyProof.Rows
section
variable {P : Program} {w : World} {K : PySem.W.Frag} {mg : Str → Option Value} {base : Heap}
/-! ### points and trees as they lie, rows with them -/
structure Pt where
  og : Nat
  hd : Nat
  D : Option Deed
  cs : List (Str × Part)
  rs : List Row
def Pt.ogV (p : Pt) : V := match p.D with
  | none => .non
  | some _ => .int (p.og : Int)
def Pt.hdV (p : Pt) : V := match p.D with
  | none => .non
  | some _ => .int (p.hd : Int)
theorem Pt.ogV_of {p : Pt} {D : Deed} (h : p.D = some D) : p.ogV = .int (p.og : Int) := by unfold Pt.ogV; rw [h]
theorem Pt.hdV_of {p : Pt} {D : Deed} (h : p.D = some D) : p.hdV = .int (p.hd : Int) := by unfold Pt.hdV; rw [h]
def DaO (K : PySem.W.Frag) (H : Hp) : Option Deed → V → Prop
  | none, v => v = .non
  | some D, v => DA K H D v
theorem DaO.tk {K : PySem.W.Frag} {H H' : Hp} (t : Tk K H H') : ∀ {o : Option Deed} {v : V}, DaO K H o v → DaO K H' o v
  | none, _, h => h
  | some _, _, h => DA.tk t h
theorem DaO.dao {K : PySem.W.Frag} {H : Hp} {o : Option Deed} {D : Deed} {v : V} (h : DaO K H o v) (e : o = some D) : DA K H D v := by subst e; exact h
def fp (ov hv dv rv cv : V) : List (Str × V) := putF "contents" cv (putF "rows" rv (putF "deed" dv (putF "hand" hv (putF "origin" ov []))))
theorem fp_contents {ov hv dv rv cv : V} : (fp ov hv dv rv cv).lookup ("contents" : Str) = some cv := by
  unfold fp
  rw [lookup_putF, if_pos rfl]
theorem fp_rows {ov hv dv rv cv : V} : (fp ov hv dv rv cv).lookup ("rows" : Str) = some rv := by
  unfold fp
  rw [lookup_putF, if_neg (by decide +kernel), lookup_putF, if_pos rfl]
theorem fp_deed {ov hv dv rv cv : V} : (fp ov hv dv rv cv).lookup ("deed" : Str) = some dv := by
  unfold fp
  rw [lookup_putF, if_neg (by decide +kernel), lookup_putF, if_neg (by decide +kernel), lookup_putF, if_pos rfl]
theorem fp_hand {ov hv dv rv cv : V} : (fp ov hv dv rv cv).lookup ("hand" : Str) = some hv := by
  unfold fp
  rw [lookup_putF, if_neg (by decide +kernel), lookup_putF, if_neg (by decide +kernel), lookup_putF, if_neg (by decide +kernel), lookup_putF, if_pos rfl]
theorem fp_origin {ov hv dv rv cv : V} : (fp ov hv dv rv cv).lookup ("origin" : Str) = some ov := by
  unfold fp
  rw [lookup_putF, if_neg (by decide +kernel), lookup_putF, if_neg (by decide +kernel), lookup_putF, if_neg (by decide +kernel), lookup_putF, if_neg (by decide +kernel), lookup_putF, if_pos rfl]
def ft (sv pv : V) : List (Str × V) := putF "points" pv (putF "stands" sv [])
theorem ft_points {sv pv : V} : (ft sv pv).lookup ("points" : Str) = some pv := by
  unfold ft
  rw [lookup_putF, if_pos rfl]
theorem ft_stands {sv pv : V} : (ft sv pv).lookup ("stands" : Str) = some sv := by
  unfold ft
  rw [lookup_putF, if_neg (by decide +kernel), lookup_putF, if_pos rfl]
theorem ft_no {sv pv : V} {m : Str} (h1 : ¬ m = "points") (h2 : ¬ m = "stands") : (ft sv pv).lookup m = none := by
  unfold ft
  rw [lookup_putF, if_neg h1, lookup_putF, if_neg h2]
  rfl
/-! ### what may change: lists and tables at told addresses -/
abbrev nI (l : List Nat) : List V := l.map fun s : Nat => V.int (s : Int)
def MutL (M : List Addr) (H : Hp) : Prop := ∀ m ∈ M, (∃ xs, H m = some (.lst xs)) ∨ ∃ ps, H m = some (.tbl ps)
/-- all but what stands at N is as it was -/
def KM (N : List Addr) (H H' : Hp) : Prop := ∀ c o, H c = some o → c ∉ N → H' c = some o
def Off (N M : List Addr) (H : Hp) : Prop := ∀ n ∈ N, n ∈ M ∨ H n = none
theorem KM.refl (N : List Addr) (H : Hp) : KM N H H := fun _ _ h _ => h
theorem KM.trans {N : List Addr} {H H1 H2 : Hp} (a : KM N H H1) (b : KM N H1 H2) : KM N H H2 := fun c o h n => b c o (a c o h n) n
theorem KM.mono {N N' : List Addr} {H H' : Hp} (a : KM N H H') (h : ∀ n ∈ N, n ∈ N') : KM N' H H' := fun c o e n => a c o e fun z => n (h c z)
theorem KM.of {N : List Addr} {H H' : Hp} (s : Same H H') : KM N H H' := fun c o h _ => s c o h
theorem KM.same {H H' : Hp} (k : KM [] H H') : Same H H' := fun c o h => k c o h (by simp)
theorem KM.put {N : List Addr} {H : Hp} {a : Addr} {o : HO} (h : a ∈ N) : KM N H (upd H a o) := fun c u e n => by
  rw [upd_ne (fun z => n (by rw [z]; exact h))]
  exact e
theorem Keep.km {a b : Addr} {H H' : Hp} (k : Keep a b H H') : KM [a, b] H H' := fun c o h n => k c o h (fun z => n (by simp [z])) fun z => n (by simp [z])
theorem KM.keep {a b : Addr} {H H' : Hp} (k : KM [a, b] H H') : Keep a b H H' := fun c o h n m => k c o h fun z => by
  simp at z
  exact z.elim n m
theorem KM.at {N : List Addr} {H H' : Hp} (k : KM N H H') {c : Addr} {o : HO} (h : H c = some o) (n : c ∉ N) : H' c = some o := k c o h n
theorem KM.free {N : List Addr} {H H' : Hp} (k : KM N H H') {c : Addr} (n : c ∉ N) (h : H' c = none) : H c = none := by
  cases e : H c with
  | none => rfl
  | some o =>
    rw [k c o e n] at h
    cases h
/-- what is new may change -/
theorem KM.new {N : List Addr} {H H' : Hp} {r : Addr} {o : HO} (k : KM N H H') (h : H r = none) : KM N H (upd H' r o) := fun c u e n => by
  rw [upd_ne (ne_of_none e h)]
  exact k c u e n
theorem KM.cut {N N' : List Addr} {H H' : Hp} (k : KM N' H H') (h : ∀ n ∈ N', n ∈ N ∨ H n = none) : KM N H H' := fun c o e n => k c o e fun z => by
  rcases h c z with q | q
  · exact n q
  · rw [q] at e
    cases e
theorem MutL.nil (H : Hp) : MutL [] H := fun _ h => (by cases h)
theorem MutL.cons {M : List Addr} {H : Hp} {a : Addr} {xs : List V} (m : MutL M H) (h : H a = some (.lst xs)) : MutL (a :: M) H := fun c hc => by
  rcases List.mem_cons.mp hc with rfl | hc
  · exact .inl ⟨_, h⟩
  · exact m c hc
theorem MutL.consT {M : List Addr} {H : Hp} {a : Addr} {ps : _} (m : MutL M H) (h : H a = some (.tbl ps)) : MutL (a :: M) H := fun c hc => by
  rcases List.mem_cons.mp hc with rfl | hc
  · exact .inr ⟨_, h⟩
  · exact m c hc
theorem MutL.sub {M N : List Addr} {H : Hp} (m : MutL M H) (h : ∀ n ∈ N, n ∈ M) : MutL N H := fun c hc => m c (h c hc)
theorem MutL.km {M N : List Addr} {H H' : Hp} (m : MutL M H) (k : KM N H H') (n : MutL N H') : MutL M H' := fun c hc => by
  by_cases z : c ∈ N
  · exact n c z
  · rcases m c hc with ⟨xs, h⟩ | ⟨ps, h⟩
    · exact .inl ⟨xs, k _ _ h z⟩
    · exact .inr ⟨ps, k _ _ h z⟩
theorem MutL.same {M : List Addr} {H H' : Hp} (m : MutL M H) (s : Same H H') : MutL M H' := m.km (KM.of (N := []) s) (.nil _)
theorem MutL.none {M : List Addr} {H : Hp} (m : MutL M H) {c : Addr} (h : H c = none) : c ∉ M := fun z => by
  rcases m c z with ⟨xs, e⟩ | ⟨ps, e⟩ <;> (rw [h] at e; cases e)
theorem MutL.obj {M : List Addr} {H : Hp} (m : MutL M H) {c : Addr} {o : HO} (h : H c = some o) (n1 : ∀ xs, o ≠ .lst xs) (n2 : ∀ ps, o ≠ .tbl ps) : c ∉ M := fun z => by
  rcases m c z with ⟨xs, e⟩ | ⟨ps, e⟩ <;> (rw [h] at e; cases e)
  · exact n1 _ rfl
  · exact n2 _ rfl
theorem Off.sub {N M : List Addr} {H : Hp} (h : ∀ n ∈ N, n ∈ M) : Off N M H := fun n hn => .inl (h n hn)
theorem Off.nil {M : List Addr} {H : Hp} : Off [] M H := fun _ h => (by cases h)
theorem KM.obj {M N : List Addr} {H H' : Hp} (k : KM N H H') (mu : MutL M H) (off : Off N M H) {c : Addr} {o : HO} (h : H c = some o) (n1 : ∀ xs, o ≠ .lst xs) (n2 : ∀ ps, o ≠ .tbl ps) : H' c = some o := k c o h fun z => by
  rcases off c z with q | q
  · exact mu.obj h n1 n2 q
  · rw [q] at h
    cases h
theorem KM.off {M N : List Addr} {H H' : Hp} (k : KM N H H') (off : Off N M H) {c : Addr} {o : HO} (h : H c = some o) (n : c ∉ M) : H' c = some o := k c o h fun z => by
  rcases off c z with q | q
  · exact n q
  · rw [q] at h
    cases h
theorem KM.tk {M N : List Addr} {H H' : Hp} (k : KM N H H') (mu : MutL M H) (off : Off N M H) : Tk K H H' := fun a xs h => by
  rcases h with (h | ⟨o, h⟩) | h
  · exact .inl (.inl (k.obj mu off h (fun _ z => by cases z) fun _ z => by cases z))
  · exact .inl (.inr ⟨o, k.obj mu off h (fun _ z => by cases z) fun _ z => by cases z⟩)
  · exact .inr h
/-- a point -/
def PtA (K : PySem.W.Frag) (CP : Addr) (M : List Addr) (H : Hp) (p : Pt) (v : V) : Prop := ∃ (a dx : Addr) (dv : V) (rl ld : Addr) (xs : List V) (kvs : List (Key × V)), v = .ref a ∧ H a = some (.ins CP dx (fp p.ogV p.hdV dv (.ref rl) (.ref ld))) ∧ DaO K H p.D dv ∧ H ld = some (.dK kvs) ∧ Al (PA K H) p.cs kvs ∧ H rl = some (.lst xs) ∧ RAs K H p.rs xs ∧ rl ∉ M
theorem PtA.km {CP : Addr} {M N : List Addr} {H H' : Hp} {p : Pt} {v : V} (k : KM N H H') (mu : MutL M H) (off : Off N M H) (h : PtA K CP M H p v) : PtA K CP M H' p v :=
  let ⟨a, dx, dv, rl, ld, xs, kvs, e, h1, h2, h3, h4, h5, h6, h7⟩ := h
  have tk : Tk K H H' := k.tk mu off
  ⟨a, dx, dv, rl, ld, xs, kvs, e, k.obj mu off h1 (fun _ z => by cases z) (fun _ z => by cases z), h2.tk tk, k.obj mu off h3 (fun _ z => by cases z) (fun _ z => by cases z), h4.mono fun _ _ q => PA.tk tk q, k.off off h5 h7, h6.tk tk, h7⟩
theorem PtA.more {CP q : Addr} {M : List Addr} {H : Hp} {p : Pt} {v : V} (hq : H q = none) (h : PtA K CP M H p v) : PtA K CP (q :: M) H p v :=
  let ⟨a, dx, dv, rl, ld, xs, kvs, e, h1, h2, h3, h4, h5, h6, h7⟩ := h
  ⟨a, dx, dv, rl, ld, xs, kvs, e, h1, h2, h3, h4, h5, h6, fun z => by
    rcases List.mem_cons.mp z with z | z
    · rw [z, hq] at h5
      cases h5
    · exact h7 z⟩
def PtsA (K : PySem.W.Frag) (CP : Addr) (M : List Addr) (H : Hp) : List Pt → List V → Prop
  | [], [] => True
  | p :: ps, v :: vs => PtA K CP M H p v ∧ PtsA K CP M H ps vs
  | _, _ => False
theorem PtsA.map {CP CP' : Addr} {M M' : List Addr} {H H' : Hp} (f : ∀ p v, PtA K CP M H p v → PtA K CP' M' H' p v) : ∀ {ps : List Pt} {vs : List V}, PtsA K CP M H ps vs → PtsA K CP' M' H' ps vs
  | [], [], _ => trivial
  | _ :: _, _ :: _, h => ⟨f _ _ h.1, PtsA.map f h.2⟩
theorem PtsA.km {CP : Addr} {M N : List Addr} {H H' : Hp} (k : KM N H H') (mu : MutL M H) (off : Off N M H) {ps : List Pt} {vs : List V} (h : PtsA K CP M H ps vs) : PtsA K CP M H' ps vs := h.map fun _ _ q => q.km k mu off
theorem PtsA.snoc {CP : Addr} {M : List Addr} {H : Hp} {p : Pt} {v : V} : ∀ {ps : List Pt} {vs : List V}, PtsA K CP M H ps vs → PtA K CP M H p v → PtsA K CP M H (ps ++ [p]) (vs ++ [v])
  | [], [], _, h => ⟨h, trivial⟩
  | _ :: _, _ :: _, q, h => ⟨q.1, PtsA.snoc q.2 h⟩
theorem PtsA.len {CP : Addr} {M : List Addr} {H : Hp} : ∀ {ps : List Pt} {vs : List V}, PtsA K CP M H ps vs → vs.length = ps.length
  | [], [], _ => rfl
  | _ :: _, _ :: _, h => by simp [PtsA.len h.2]
theorem PtsA.at {CP : Addr} {M : List Addr} {H : Hp} : ∀ {ps : List Pt} {vs : List V} {i : Nat} {p : Pt}, PtsA K CP M H ps vs → ps[i]? = some p → ∃ v, vs[i]? = some v ∧ PtA K CP M H p v
  | [], [], i, p, _, h => by simp at h
  | r :: _, v :: _, 0, p, q, h => by
    simp only [List.getElem?_cons_zero, Option.some.injEq] at h
    exact ⟨v, rfl, h ▸ q.1⟩
  | _ :: _, _ :: _, i + 1, p, q, h => PtsA.at (i := i) q.2 (by simpa using h)
/-- a tree -/
structure TreeA (K : PySem.W.Frag) (C CP : Addr) (M : List Addr) (H : Hp) (t ls lp : Addr) (st : List Nat) (pts : List Pt) : Prop where
  ob : ∃ dx, H t = some (.ins C dx (ft (.ref ls) (.ref lp)))
  hs : H ls = some (.lst (nI st))
  hp : ∃ pvs, H lp = some (.lst pvs) ∧ PtsA K CP M H pts pvs
  ne : ls ≠ lp
  mu : MutL M H
  ml : ls ∈ M
  mp : lp ∈ M
theorem TreeA.km {C CP : Addr} {M N : List Addr} {H H' : Hp} {t ls lp : Addr} {st : List Nat} {pts : List Pt} (T : TreeA K C CP M H t ls lp st pts) (k : KM N H H') (off : Off N M H) (mN : MutL N H') (n1 : ls ∉ N) (n2 : lp ∉ N) : TreeA K C CP M H' t ls lp st pts :=
  let ⟨dx, h⟩ := T.ob
  let ⟨pvs, h2, h3⟩ := T.hp
  ⟨⟨dx, k.obj T.mu off h (fun _ z => by cases z) fun _ z => by cases z⟩, k _ _ T.hs n1, ⟨pvs, k _ _ h2 n2, h3.km k T.mu off⟩, T.ne, T.mu.km k mN, T.ml, T.mp⟩
theorem TreeA.same {C CP : Addr} {M : List Addr} {H H' : Hp} {t ls lp : Addr} {st : List Nat} {pts : List Pt} (s : Same H H') (T : TreeA K C CP M H t ls lp st pts) : TreeA K C CP M H' t ls lp st pts := T.km (KM.of (N := []) s) .nil (.nil _) (by simp) (by simp)
theorem TreeA.more {C CP q : Addr} {M : List Addr} {H : Hp} {t ls lp : Addr} {st : List Nat} {pts : List Pt} {xs : List V} (hq : H q = none) (T : TreeA K C CP M H t ls lp st pts) : TreeA K C CP (q :: M) (upd H q (.lst xs)) t ls lp st pts := by
  have s := same_new hq (.lst xs)
  have T' := T.same s
  obtain ⟨pvs, h2, h3⟩ := T.hp
  have h3' : PtsA K CP (q :: M) (upd H q (.lst xs)) pts pvs := h3.map fun p v z => by
    have z2 := z.more hq
    obtain ⟨a, dx, dv, rl, ld, ys, kvs, e, h1, h2, h3, h4, h5, h6, h7⟩ := z2
    have tk : Tk K H (upd H q (.lst xs)) := .same s
    exact ⟨a, dx, dv, rl, ld, ys, kvs, e, s _ _ h1, h2.tk tk, s _ _ h3, h4.mono fun _ _ q => PA.tk tk q, s _ _ h5, h6.tk tk, h7⟩
  exact ⟨T'.ob, T'.hs, ⟨pvs, s _ _ h2, h3'⟩, T.ne, T'.mu.cons upd_same, List.mem_cons_of_mem _ T.ml, List.mem_cons_of_mem _ T.mp⟩
/-- what the text must have of its classes -/
structure TrF (K : PySem.W.Frag) (C CP : Addr) : Prop where
  cl : Cls K C
  nS : NoAttr K C "stands"
  nP : NoAttr K C "points"
  cp : Cls K CP
  no : NoAttr K CP "origin"
  nh : NoAttr K CP "hand"
  nd : NoAttr K CP "deed"
  nr : NoAttr K CP "rows"
  nc : NoAttr K CP "contents"
theorem lp1 {f : Str} {v : V} {fs : List (Str × V)} {n : Nat} (h : fs.length ≤ n) : (putF f v fs).length ≤ n + 1 := Nat.le_trans (length_putF f v fs) (Nat.succ_le_succ h)
def spPoint (CP : Addr) : Sp := fun vs H Q _ => ∃ (p dx : Addr) (ov hv dv rv cv : V), vs = [.ref p, ov, hv, dv, rv, cv] ∧ H p = some (.ins CP dx []) ∧ ∀ H', H' p = some (.ins CP dx (fp ov hv dv rv cv)) → (∀ c o, H c = some o → c ≠ p → H' c = some o) → Q .non H'
theorem ok_Point_init {f C CP : Addr} {fd : FuncData} (F : Fun K "__init__" "Point.__init__" s_Point___init__ f fd) (T : TrF K C CP) : FnOk P w K mg base CX0 1 f fd ["self", "origin", "hand", "deed", "rows", "contents"] (spPoint CP) := by
  refine F.ok sc_Point___init__ (fun vs H Q E h => ?_) (fun cdv A outer s H vs Q E hr h => ?_)
  · obtain ⟨p, dx, ov, hv, dv, rv, cv, rfl, _⟩ := h
    rfl
  obtain ⟨p, dx, ov, hv, dv, rv, cv, rfl, hp, kk⟩ := h
  refine ⟨_, (pss_cons (ps_fld (pv 0) (pv 1) rfl)
      (pss_cons (ps_fld (pv 0) (pv 2) rfl)
      (pss_cons (ps_fld (pv 0) (pv 3) rfl)
      (pss_cons (ps_fld (pv 0) (pv 4) rfl)
      (pss_one (ps_fld (pv 0) (pv 5) rfl)))))), ?_⟩
  refine ⟨_, rfl, _, rfl, p, CP, dx, _, rfl, hp, T.cp, T.no, (by show 0 < 1000; decide), ?_⟩
  refine ⟨_, rfl, _, rfl, p, CP, dx, _, rfl, upd_same, T.cp, T.nh, Nat.lt_of_le_of_lt (lp1 (Nat.le_refl 0)) (by decide), ?_⟩
  refine ⟨_, rfl, _, rfl, p, CP, dx, _, rfl, upd_same, T.cp, T.nd, Nat.lt_of_le_of_lt (lp1 (lp1 (Nat.le_refl 0))) (by decide), ?_⟩
  refine ⟨_, rfl, _, rfl, p, CP, dx, _, rfl, upd_same, T.cp, T.nr, Nat.lt_of_le_of_lt (lp1 (lp1 (lp1 (Nat.le_refl 0)))) (by decide), ?_⟩
  refine ⟨_, rfl, _, rfl, p, CP, dx, _, rfl, upd_same, T.cp, T.nc, Nat.lt_of_le_of_lt (lp1 (lp1 (lp1 (lp1 (Nat.le_refl 0))))) (by decide), ?_⟩
  refine kk _ upd_same fun c o e n => ?_
  rw [upd_ne n, upd_ne n, upd_ne n, upd_ne n, upd_ne n]
  exact e
/-! ### the checks -/
def BadN (n : Nat) (h : Int) : Prop := h < 0 ∨ (n : Int) ≤ h
def Bnd (h : Int) : Prop := -1000000000 < h ∧ h < 1000000000
theorem BadN.no {n h : Nat} (l : h < n) : ¬ BadN n (h : Int) := fun z => by
  rcases z with z | z <;> omega
theorem BadN.or (n : Nat) (h : Int) : BadN n h ∨ ∃ k : Nat, h = k ∧ k < n := by
  by_cases z : h < 0
  · exact .inl (.inl z)
  · by_cases y : (n : Int) ≤ h
    · exact .inl (.inr y)
    · exact .inr ⟨h.toNat, by omega, by omega⟩
theorem log_num {i : Int} (h0 : -1000000000 < i) (h1 : i < 1000000000) : i.natAbs.log2 < 1920 := by
  by_cases z : i.natAbs = 0
  · rw [z]
    decide
  · have h := (Nat.log2_lt z (k := 30)).mpr (by omega)
    omega
theorem slen_num9 {n : Int} (h0 : -1000000000 < n) (h1 : n < 1000000000) : (Str.ofString (toString n)).length ≤ 10 := by
  have e : Str.ofString (toString n) = SX.S (nl n) := numS_nl n
  rw [e, S_length]
  cases n with
  | ofNat n =>
    have := TL.numL_len (n := n) (k := 9) (by decide) (by simp only [Int.ofNat_eq_natCast] at h1; omega)
    show (TL.numL n).length ≤ 10
    omega
  | negSucc n =>
    have := TL.numL_len (n := n + 1) (k := 9) (by decide) (by omega)
    show (TL.numL (n + 1)).length + 1 ≤ 10
    omega
def spCheckH (K : PySem.W.Frag) (C CP CH : Addr) : Sp := fun vs H Q E => ∃ (M : List Addr) (t ls lp : Addr) (st : List Nat) (pts : List Pt) (h : Int), vs = [.ref t, .int h] ∧ TreeA K C CP M H t ls lp st pts ∧
  ((∃ n : Nat, h = n ∧ n < st.length ∧ Q .non H) ∨ (BadN st.length h ∧ Bnd h ∧ ∀ H', Same H H' → E (.ref CH) none H'))
theorem ok_check_hand {f C CP CH : Addr} {fd : FuncData} (F : Fun K "check_hand" "Tree.check_hand" s_Tree_check_hand f fd) (B : Bt mg) (T : TrF K C CP) (e_NoHand : ExcF K mg "NoHand" CH) : FnOk P w K mg base (L2N.CX P w) 1 f fd ["self", "hand"] (spCheckH K C CP CH) := by
  refine F.okN sc_Tree_check_hand (fun vs H Q E h => ?_) (fun cdv A outer s H vs Q E hr h => ?_)
  · obtain ⟨M, t, ls, lp, st, pts, h, rfl, _⟩ := h
    rfl
  obtain ⟨M, t, ls, lp, st, pts, h, rfl, TA, h2⟩ := h
  obtain ⟨dx, ht⟩ := TA.ob
  obtain ⟨pvs, hp, pa⟩ := TA.hp
  have l1 : ("no hand: " : Str).length = 9 := by decide +kernel
  refine ⟨_, (pss_one (ps_if (PW.pt (pw_or (pt_cmpR op_lt (pv 1) pe_int (nomark _)) (pw_or1 (pt_cmpR op_ge (pv 1) (pe_callB call_len_seq (by rfl) B.len boot_len (pa_cons (pe_fld (pv 0) rfl) pa_nil)) (nomark _))))) (pss_one (L2N.ps_raise rfl (L2N.takes_of rfl rfl rfl rfl) (pmk_x e_NoHand (by rfl) (pe_joined (.cons pe_str (.cons (pe_fmt (pv 1)) .nil)))))) pss_nil)), ?_⟩
  rcases h2 with ⟨n, rfl, hl, kk⟩ | ⟨bad, ⟨b1, b2⟩, kx⟩
  · refine ⟨_, rfl, _, _, rfl, rfl, _, rfl, ?_⟩
    rw [show decide ((n : Int) < 0) = false from decide_eq_false (by omega)]
    refine iteF ⟨_, rfl, _, rfl, t, C, dx, _, _, rfl, ht, T.cl, T.nS, ft_stands, ls, _, rfl, .inl (SqL.of TA.hs), _, _, rfl, rfl, _, rfl, ?_⟩
    rw [List.length_map, show decide ((st.length : Int) ≤ (n : Int)) = false from decide_eq_false (by omega)]
    exact iteF kk
  · have rz : tJs [tC (V.str "no hand: "), tFmt (tVar 1)] Str.empty (L2.start ["self", "hand"] [V.ref t, V.int h]) H fun _ H1 => E (.ref CH) none H1 := by
      refine ⟨_, rfl, small (by decide), _, rfl, .inr ⟨_, rfl, log_num b1 b2, ?_⟩⟩
      refine ⟨_, rfl, ?_, kx H (.refl _)⟩
      have := slen_num9 b1 b2
      rw [slen_app, slen_app, slen_empty, l1, sizeLine_eq]
      omega
    refine ⟨_, rfl, _, _, rfl, rfl, _, rfl, ?_⟩
    by_cases hz : h < 0
    · rw [decide_eq_true hz]
      exact iteT rz
    · rw [decide_eq_false hz]
      refine iteF ⟨_, rfl, _, rfl, t, C, dx, _, _, rfl, ht, T.cl, T.nS, ft_stands, ls, _, rfl, .inl (SqL.of TA.hs), _, _, rfl, rfl, _, rfl, ?_⟩
      rw [List.length_map, show decide ((st.length : Int) ≤ h) = true from decide_eq_true (by rcases bad with z | z <;> omega)]
      exact iteT rz
def spCheckP (K : PySem.W.Frag) (C CP CH : Addr) : Sp := fun vs H Q E => ∃ (M : List Addr) (t ls lp : Addr) (st : List Nat) (pts : List Pt) (h : Int), vs = [.ref t, .int h] ∧ TreeA K C CP M H t ls lp st pts ∧
  ((∃ n : Nat, h = n ∧ n < pts.length ∧ Q .non H) ∨ (BadN pts.length h ∧ Bnd h ∧ ∀ H', Same H H' → E (.ref CH) none H'))
theorem ok_check_point {f C CP CH : Addr} {fd : FuncData} (F : Fun K "check_point" "Tree.check_point" s_Tree_check_point f fd) (B : Bt mg) (T : TrF K C CP) (e_NoPoint : ExcF K mg "NoPoint" CH) : FnOk P w K mg base (L2N.CX P w) 1 f fd ["self", "point"] (spCheckP K C CP CH) := by
  refine F.okN sc_Tree_check_point (fun vs H Q E h => ?_) (fun cdv A outer s H vs Q E hr h => ?_)
  · obtain ⟨M, t, ls, lp, st, pts, h, rfl, _⟩ := h
    rfl
  obtain ⟨M, t, ls, lp, st, pts, h, rfl, TA, h2⟩ := h
  obtain ⟨dx, ht⟩ := TA.ob
  obtain ⟨pvs, hp, pa⟩ := TA.hp
  have l1 : ("no point: " : Str).length = 10 := by decide +kernel
  refine ⟨_, (pss_one (ps_if (PW.pt (pw_or (pt_cmpR op_lt (pv 1) pe_int (nomark _)) (pw_or1 (pt_cmpR op_ge (pv 1) (pe_callB call_len_seq (by rfl) B.len boot_len (pa_cons (pe_fld (pv 0) rfl) pa_nil)) (nomark _))))) (pss_one (L2N.ps_raise rfl (L2N.takes_of rfl rfl rfl rfl) (pmk_x e_NoPoint (by rfl) (pe_joined (.cons pe_str (.cons (pe_fmt (pv 1)) .nil)))))) pss_nil)), ?_⟩
  rcases h2 with ⟨n, rfl, hl, kk⟩ | ⟨bad, ⟨b1, b2⟩, kx⟩
  · refine ⟨_, rfl, _, _, rfl, rfl, _, rfl, ?_⟩
    rw [show decide ((n : Int) < 0) = false from decide_eq_false (by omega)]
    refine iteF ⟨_, rfl, _, rfl, t, C, dx, _, _, rfl, ht, T.cl, T.nP, ft_points, lp, _, rfl, .inl (SqL.of hp), _, _, rfl, rfl, _, rfl, ?_⟩
    rw [pa.len, show decide ((pts.length : Int) ≤ (n : Int)) = false from decide_eq_false (by omega)]
    exact iteF kk
  · have rz : tJs [tC (V.str "no point: "), tFmt (tVar 1)] Str.empty (L2.start ["self", "point"] [V.ref t, V.int h]) H fun _ H1 => E (.ref CH) none H1 := by
      refine ⟨_, rfl, small (by decide), _, rfl, .inr ⟨_, rfl, log_num b1 b2, ?_⟩⟩
      refine ⟨_, rfl, ?_, kx H (.refl _)⟩
      have := slen_num9 b1 b2
      rw [slen_app, slen_app, slen_empty, l1, sizeLine_eq]
      omega
    refine ⟨_, rfl, _, _, rfl, rfl, _, rfl, ?_⟩
    by_cases hz : h < 0
    · rw [decide_eq_true hz]
      exact iteT rz
    · rw [decide_eq_false hz]
      refine iteF ⟨_, rfl, _, rfl, t, C, dx, _, _, rfl, ht, T.cl, T.nP, ft_points, lp, _, rfl, .inl (SqL.of hp), _, _, rfl, rfl, _, rfl, ?_⟩
      rw [pa.len, show decide ((pts.length : Int) ≤ h) = true from decide_eq_true (by rcases bad with z | z <;> omega)]
      exact iteT rz
end
end U

namespace U
open PySem L2 PyProof.Rows
section
variable {P : Program} {w : World} {K : PySem.W.Frag} {mg : Str → Option Value} {base : Heap}
/-! ### what points are -/
def pt0 : Pt := ⟨0, 0, none, [], []⟩
open Classical in
noncomputable def srt (l : List Str) : List Str := if h : ∃ L : List Str, L.Perm l ∧ L.Pairwise leS then h.choose else l
theorem srt_of {l L : List Str} (h : L.Perm l) (s : L.Pairwise leS) : srt l = L := by
  have e : ∃ L : List Str, L.Perm l ∧ L.Pairwise leS := ⟨L, h, s⟩
  unfold srt
  rw [dif_pos e]
  exact sorted_eq (e.choose_spec.1.trans h.symm) e.choose_spec.2 s
/-- what a deed changes; none: it leaves the table -/
noncomputable def Deed.rw (D : Deed) (cs : List (Str × Part)) : Option (List Row) := (D.nx cs).map fun ns => rows cs ns (srt (ks ns))
structure WP (pts : List Pt) : Prop where
  z : pts[0]? = some pt0
  og : ∀ (i : Nat) (p : Pt), pts[i]? = some p → 0 < i → p.og < i ∧ ∃ (D : Deed) (q : Pt), p.D = some D ∧ D.okL ∧ pts[p.og]? = some q ∧ D.rw q.cs = some p.rs ∧ p.cs = rep q.cs (rN p.rs)
  ok : ∀ p ∈ pts, CsOk p.cs
  pl : pts.length ≤ 200
theorem WP.pos {pts : List Pt} (W : WP pts) : 0 < pts.length := (List.getElem?_eq_some_iff.mp W.z).1
structure WF (st : List Nat) (pts : List Pt) : Prop where
  wp : WP pts
  sb : ∀ s ∈ st, s < pts.length
  sl : st.length ≤ 4
/-- the trail to a point -/
inductive Tr (pts : List Pt) : Nat → List Nat → Prop
  | zero : Tr pts 0 [0]
  | step {i : Nat} {p : Pt} {l : List Nat} : pts[i]? = some p → 0 < i → Tr pts p.og l → Tr pts i (l ++ [i])
theorem Tr.fn {pts : List Pt} {i : Nat} {l l' : List Nat} (h : Tr pts i l) (g : Tr pts i l') : l = l' := by
  induction h generalizing l' with
  | zero => cases g with
    | zero => rfl
    | step _ z _ => omega
  | step hp h0 _ ih => cases g with
    | zero => omega
    | step hp' h0' g' =>
      rw [hp] at hp'
      cases hp'
      rw [ih g']
theorem Tr.ex {pts : List Pt} (W : WP pts) : ∀ {i : Nat}, i < pts.length → ∃ l, Tr pts i l := fun {i} => by
  induction i using Nat.strongRecOn with
  | ind i ih =>
    intro hi
    by_cases z : i = 0
    · subst z
      exact ⟨_, .zero⟩
    · have hp : pts[i]? = some pts[i] := List.getElem?_eq_getElem hi
      obtain ⟨o, _⟩ := W.og i _ hp (by omega)
      obtain ⟨l, hl⟩ := ih _ o (by omega)
      exact ⟨_, .step hp (by omega) hl⟩
theorem Tr.mono {pts pts' : List Pt} {i : Nat} {l : List Nat} (m : ∀ (j : Nat) (p : Pt), pts[j]? = some p → pts'[j]? = some p) (h : Tr pts i l) : Tr pts' i l := by
  induction h with
  | zero => exact .zero
  | step hp h0 _ ih => exact .step (m _ _ hp) h0 ih
theorem get_app {pts ps : List Pt} (j : Nat) (p : Pt) (h : pts[j]? = some p) : (pts ++ ps)[j]? = some p := by
  rw [List.getElem?_append_left (List.getElem?_eq_some_iff.mp h).1]
  exact h
theorem Tr.le {pts : List Pt} (W : WP pts) {i : Nat} {l : List Nat} (h : Tr pts i l) : ∀ j ∈ l, j ≤ i := by
  induction h with
  | zero =>
    intro j hj
    rw [List.mem_singleton.mp hj]
    exact Nat.le_refl _
  | step hp h0 _ ih =>
    intro j hj
    rcases List.mem_append.mp hj with hj | hj
    · have := ih j hj
      have := (W.og _ _ hp h0).1
      omega
    · rw [List.mem_singleton.mp hj]
      exact Nat.le_refl _
theorem Tr.rise {pts : List Pt} (W : WP pts) {i : Nat} {l : List Nat} (h : Tr pts i l) : l.Pairwise (· < ·) := by
  induction h with
  | zero => exact List.pairwise_singleton _ _
  | step hp h0 g ih =>
    refine List.pairwise_append.mpr ⟨ih, List.pairwise_singleton _ _, fun a ha b hb => ?_⟩
    rw [List.mem_singleton.mp hb]
    have := g.le W a ha
    have := (W.og _ _ hp h0).1
    omega
theorem Tr.nodup {pts : List Pt} (W : WP pts) {i : Nat} {l : List Nat} (h : Tr pts i l) : l.Nodup := (h.rise W).imp fun z => Nat.ne_of_lt z
theorem Tr.last {pts : List Pt} {i : Nat} {l : List Nat} (h : Tr pts i l) : ∃ r, l = r ++ [i] := by
  cases h with
  | zero => exact ⟨[], rfl⟩
  | step _ _ _ => exact ⟨_, rfl⟩
theorem Tr.mem {pts : List Pt} {i : Nat} {l : List Nat} (h : Tr pts i l) : i ∈ l := let ⟨r, e⟩ := h.last; e ▸ List.mem_append_right _ (List.mem_singleton.mpr rfl)
theorem Tr.zmem {pts : List Pt} {i : Nat} {l : List Nat} (h : Tr pts i l) : ∃ r, l = 0 :: r := by
  induction h with
  | zero => exact ⟨[], rfl⟩
  | step _ _ _ ih =>
    obtain ⟨r, e⟩ := ih
    exact ⟨_, by rw [e]; rfl⟩
theorem Tr.len {pts : List Pt} (W : WP pts) {i : Nat} {l : List Nat} (h : Tr pts i l) : l.length ≤ i + 1 := by
  induction h with
  | zero => exact Nat.le_refl _
  | step hp h0 _ ih =>
    have := (W.og _ _ hp h0).1
    rw [List.length_append, List.length_singleton]
    omega
theorem Tr.lt {pts : List Pt} (W : WP pts) {i : Nat} {l : List Nat} (h : Tr pts i l) (hi : i < pts.length) : ∀ j ∈ l, j < pts.length := fun j hj => Nat.lt_of_le_of_lt (h.le W j hj) hi
/-- each point of a trail has a trail that the trail begins with -/
theorem Tr.pre {pts : List Pt} {i j : Nat} {l : List Nat} (h : Tr pts i l) (hj : j ∈ l) : ∃ l1 l2, Tr pts j l1 ∧ l = l1 ++ l2 := by
  induction h with
  | zero =>
    rw [List.mem_singleton.mp hj]
    exact ⟨_, [], .zero, rfl⟩
  | step hp h0 g ih =>
    rcases List.mem_append.mp hj with hj | hj
    · obtain ⟨l1, l2, h1, e⟩ := ih hj
      exact ⟨l1, _, h1, by rw [e, List.append_assoc]⟩
    · rw [List.mem_singleton.mp hj]
      exact ⟨_, [], .step hp h0 g, (List.append_nil _).symm⟩
/-! ### the tree's words -/
theorem m_ch : ¬ (("check_hand" : Str) = "points") ∧ ¬ (("check_hand" : Str) = "stands") := ⟨by decide +kernel, by decide +kernel⟩
theorem m_cp : ¬ (("check_point" : Str) = "points") ∧ ¬ (("check_point" : Str) = "stands") := ⟨by decide +kernel, by decide +kernel⟩
theorem at_st {st : List Nat} {h s : Nat} (e : st[h]? = some s) : atI (nI st) (h : Int) = some (.int (s : Int)) := atI_nat (by unfold nI; rw [List.getElem?_map, e]; rfl)
def spHere (K : PySem.W.Frag) (C CP CH : Addr) : Sp := fun vs H Q E => ∃ (M : List Addr) (t ls lp : Addr) (st : List Nat) (pts : List Pt) (h : Int), vs = [.ref t, .int h] ∧ TreeA K C CP M H t ls lp st pts ∧
  ((∃ n s : Nat, h = n ∧ st[n]? = some s ∧ Q (.int (s : Int)) H) ∨ (BadN st.length h ∧ Bnd h ∧ ∀ H', Same H H' → E (.ref CH) none H'))
theorem ok_here {f C CP CH : Addr} {fd : FuncData} (F : Fun K "here" "Tree.here" s_Tree_here f fd) (T : TrF K C CP) (C_check_hand : CM (L2N.CX P w) P w K mg base 1 C "check_hand" ["self", "hand"] (spCheckH K C CP CH)) : FnOk P w K mg base (L2N.CX P w) 2 f fd ["self", "hand"] (spHere K C CP CH) := by
  refine F.okN sc_Tree_here (fun vs H Q E h => ?_) (fun cdv A outer s H vs Q E hr h => ?_)
  · obtain ⟨M, t, ls, lp, st, pts, h, rfl, _⟩ := h
    rfl
  obtain ⟨M, t, ls, lp, st, pts, h, rfl, TA, h2⟩ := h
  obtain ⟨dx, ht⟩ := TA.ob
  refine ⟨_, (pss_cons (ps_expr (pm_x C_check_hand (hr.mono (by first | exact Nat.le_refl _ | decide | omega)) (L2N.passes_call (L2N.takes_of rfl rfl rfl rfl) (fun _ _ _ _ h => h)) (pv 0) (pa_cons (pv 1) pa_nil)))
      (pss_one (ps_ret (pe_ix ix_list (pe_fld (pv 0) rfl) (pv 1) (fun _ _ => rfl))))), ?_⟩
  rcases h2 with ⟨n, s0, rfl, hs, kk⟩ | ⟨bad, bd, kx⟩
  · refine ⟨_, rfl, t, dx, _, rfl, ht, ft_no m_ch.1 m_ch.2, _, rfl, M, t, ls, lp, st, pts, _, rfl, TA, .inl ⟨n, rfl, (List.getElem?_eq_some_iff.mp hs).1, ?_⟩⟩
    exact ⟨_, rfl, t, C, dx, _, _, rfl, ht, T.cl, T.nS, ft_stands, _, rfl, ls, _, _, _, rfl, rfl, SqL.of TA.hs, at_st hs, kk⟩
  · exact ⟨_, rfl, t, dx, _, rfl, ht, ft_no m_ch.1 m_ch.2, _, rfl, M, t, ls, lp, st, pts, _, rfl, TA, .inr ⟨bad, bd, kx⟩⟩
def spMany (K : PySem.W.Frag) (C CP : Addr) : Sp := fun vs H Q _ => ∃ (M : List Addr) (t ls lp : Addr) (st : List Nat) (pts : List Pt), vs = [.ref t] ∧ TreeA K C CP M H t ls lp st pts ∧ Q (.int (pts.length : Int)) H
theorem ok_many {f C CP : Addr} {fd : FuncData} (F : Fun K "many" "Tree.many" s_Tree_many f fd) (B : Bt mg) (T : TrF K C CP) : FnOk P w K mg base CX0 1 f fd ["self"] (spMany K C CP) := by
  refine F.ok sc_Tree_many (fun vs H Q E h => ?_) (fun cdv A outer s H vs Q E hr h => ?_)
  · obtain ⟨M, t, ls, lp, st, pts, rfl, _⟩ := h
    rfl
  obtain ⟨M, t, ls, lp, st, pts, rfl, TA, kk⟩ := h
  obtain ⟨dx, ht⟩ := TA.ob
  obtain ⟨pvs, hp, pa⟩ := TA.hp
  refine ⟨_, (pss_one (ps_ret (pe_callB call_len_seq (by rfl) B.len boot_len (pa_cons (pe_fld (pv 0) rfl) pa_nil)))), ?_⟩
  refine ⟨_, rfl, t, C, dx, _, _, rfl, ht, T.cl, T.nP, ft_points, lp, _, rfl, .inl (SqL.of hp), ?_⟩
  rw [pa.len]
  exact kk
def spTold (K : PySem.W.Frag) (C CP CN : Addr) : Sp := fun vs H Q E => ∃ (M : List Addr) (t ls lp : Addr) (st : List Nat) (pts : List Pt) (h : Int), vs = [.ref t, .int h] ∧ TreeA K C CP M H t ls lp st pts ∧
  ((∃ (n : Nat) (p : Pt), h = n ∧ pts[n]? = some p ∧ 0 < n ∧ ∀ (dv : V) (r : Addr) (H' : Hp), H r = none → Same H H' → DaO K H p.D dv → SqT K H' r [p.ogV, p.hdV, dv] → Q (.ref r) H') ∨ ((h = 0 ∧ 0 < pts.length ∨ BadN pts.length h) ∧ Bnd h ∧ ∀ H', Same H H' → E (.ref CN) none H'))
theorem ok_told {f C CP CN : Addr} {fd : FuncData} (F : Fun K "told" "Tree.told" s_Tree_told f fd) (T : TrF K C CP) (e_NoPoint : ExcF K mg "NoPoint" CN) (C_check_point : CM (L2N.CX P w) P w K mg base 1 C "check_point" ["self", "point"] (spCheckP K C CP CN)) : FnOk P w K mg base (L2N.CX P w) 2 f fd ["self", "point"] (spTold K C CP CN) := by
  refine F.okN sc_Tree_told (fun vs H Q E h => ?_) (fun cdv A outer s H vs Q E hr h => ?_)
  · obtain ⟨M, t, ls, lp, st, pts, h, rfl, _⟩ := h
    rfl
  obtain ⟨M, t, ls, lp, st, pts, h, rfl, TA, h2⟩ := h
  obtain ⟨dx, ht⟩ := TA.ob
  obtain ⟨pvs, hlp, pa⟩ := TA.hp
  refine ⟨_, (pss_cons (ps_expr (pm_x C_check_point (hr.mono (by first | exact Nat.le_refl _ | decide | omega)) (L2N.passes_call (L2N.takes_of rfl rfl rfl rfl) (fun _ _ _ _ h => h)) (pv 0) (pa_cons (pv 1) pa_nil)))
      (pss_cons (ps_if (pt_cmpR op_eq (pv 1) pe_int (nomark _)) (pss_one (L2N.ps_raise rfl (L2N.takes_of rfl rfl rfl rfl) (pmk_x e_NoPoint (by rfl) pe_str))) pss_nil)
      (pss_cons (ps_set (i := 2) sc_Tree_told.nd rfl (Or.inl rfl) (pe_ix ix_list (pe_fld (pv 0) rfl) (pv 1) (fun _ _ => rfl)))
      (pss_one (ps_ret (pe_tup (pa_cons (pe_fld (pv 2) rfl) (pa_cons (pe_fld (pv 2) rfl) (pa_cons (pe_fld (pv 2) rfl) pa_nil))))))))), ?_⟩
  rcases h2 with ⟨n, p, rfl, hp, n0, kk⟩ | ⟨⟨rfl, pos⟩ | bad, bd, kx⟩
  · refine ⟨_, rfl, t, dx, _, rfl, ht, ft_no m_cp.1 m_cp.2, _, rfl, M, t, ls, lp, st, pts, _, rfl, TA, .inl ⟨n, rfl, (List.getElem?_eq_some_iff.mp hp).1, ?_⟩⟩
    obtain ⟨v, hv, a, dy, dv, rl, ld, xs, kvs, rfl, ha, hd, _, _⟩ := pa.at hp
    refine ⟨_, rfl, rfl, _, rfl, ?_⟩
    rw [show decide (V.int (n : Int) = V.int 0) = false from decide_eq_false (fun y => by injection y with y; omega)]
    refine iteF ⟨_, rfl, t, C, dx, _, _, rfl, ht, T.cl, T.nP, ft_points, _, rfl, lp, _, _, _, rfl, rfl, SqL.of hlp, atI_nat hv, ?_⟩
    refine ⟨_, rfl, a, CP, dy, _, _, rfl, ha, T.cp, T.no, fp_origin, _, rfl, a, CP, dy, _, _, rfl, ha, T.cp, T.nh, fp_hand, _, rfl, a, CP, dy, _, _, rfl, ha, T.cp, T.nd, fp_deed, small (by show 3 ≤ 1000; decide), fun r hr2 => ?_⟩
    exact kk dv r _ hr2 (same_new hr2 _) hd (SqT.of upd_same)
  · refine ⟨_, rfl, t, dx, _, rfl, ht, ft_no m_cp.1 m_cp.2, _, rfl, M, t, ls, lp, st, pts, _, rfl, TA, .inl ⟨0, rfl, pos, ?_⟩⟩
    exact ⟨_, rfl, rfl, _, rfl, iteT (kx H (.refl _))⟩
  · exact ⟨_, rfl, t, dx, _, rfl, ht, ft_no m_cp.1 m_cp.2, _, rfl, M, t, ls, lp, st, pts, _, rfl, TA, .inr ⟨bad, bd, kx⟩⟩
def spTable (K : PySem.W.Frag) (C CP CN : Addr) : Sp := fun vs H Q E => ∃ (M : List Addr) (t ls lp : Addr) (st : List Nat) (pts : List Pt) (h : Int), vs = [.ref t, .int h] ∧ TreeA K C CP M H t ls lp st pts ∧
  ((∃ (n : Nat) (p : Pt), h = n ∧ pts[n]? = some p ∧ ∀ (r : Addr) (H' : Hp) (kvs : List (Key × V)), H r = none → Same H H' → H' r = some (.dK kvs) → Al (PA K H') p.cs kvs → Q (.ref r) H') ∨ (BadN pts.length h ∧ Bnd h ∧ ∀ H', Same H H' → E (.ref CN) none H'))
theorem ok_table {f C CP CN : Addr} {fd : FuncData} (F : Fun K "table" "Tree.table" s_Tree_table f fd) (B : Bt mg) (T : TrF K C CP) (C_check_point : CM (L2N.CX P w) P w K mg base 1 C "check_point" ["self", "point"] (spCheckP K C CP CN)) : FnOk P w K mg base (L2N.CX P w) 2 f fd ["self", "point"] (spTable K C CP CN) := by
  refine F.okN sc_Tree_table (fun vs H Q E h => ?_) (fun cdv A outer s H vs Q E hr h => ?_)
  · obtain ⟨M, t, ls, lp, st, pts, h, rfl, _⟩ := h
    rfl
  obtain ⟨M, t, ls, lp, st, pts, h, rfl, TA, h2⟩ := h
  obtain ⟨dx, ht⟩ := TA.ob
  obtain ⟨pvs, hlp, pa⟩ := TA.hp
  refine ⟨_, (pss_cons (ps_expr (pm_x C_check_point (hr.mono (by first | exact Nat.le_refl _ | decide | omega)) (L2N.passes_call (L2N.takes_of rfl rfl rfl rfl) (fun _ _ _ _ h => h)) (pv 0) (pa_cons (pv 1) pa_nil)))
      (pss_one (ps_ret (pe_callTy call_dictD (by rfl) B.dict boot_dict (pa_cons (pe_fld (pe_ix ix_list (pe_fld (pv 0) rfl) (pv 1) (fun _ _ => rfl)) rfl) pa_nil))))), ?_⟩
  rcases h2 with ⟨n, p, rfl, hp, kk⟩ | ⟨bad, bd, kx⟩
  · refine ⟨_, rfl, t, dx, _, rfl, ht, ft_no m_cp.1 m_cp.2, _, rfl, M, t, ls, lp, st, pts, _, rfl, TA, .inl ⟨n, rfl, (List.getElem?_eq_some_iff.mp hp).1, ?_⟩⟩
    obtain ⟨v, hv, a, dy, dv, rl, ld, xs, kvs, rfl, ha, hd, hk, al, _⟩ := pa.at hp
    refine ⟨_, rfl, t, C, dx, _, _, rfl, ht, T.cl, T.nP, ft_points, _, rfl, lp, _, _, _, rfl, rfl, SqL.of hlp, atI_nat hv, a, CP, dy, _, _, rfl, ha, T.cp, T.nc, fp_contents, ld, kvs, rfl, .inl hk, fun r hr2 => ?_⟩
    have s1 := same_new hr2 (.dK kvs)
    exact kk r _ kvs hr2 s1 upd_same (al.mono fun _ _ q => PA.tk (.same s1) q)
  · exact ⟨_, rfl, t, dx, _, rfl, ht, ft_no m_cp.1 m_cp.2, _, rfl, M, t, ls, lp, st, pts, _, rfl, TA, .inr ⟨bad, bd, kx⟩⟩
end
end U

namespace U
open PySem L2 PyProof.Rows
section
variable {P : Program} {w : World} {K : PySem.W.Frag} {mg : Str → Option Value} {base : Heap}
/-! ### the trail -/
def spTrail (K : PySem.W.Frag) (C CP CN : Addr) : Sp := fun vs H Q E => ∃ (M : List Addr) (t ls lp : Addr) (st : List Nat) (pts : List Pt) (h : Int), vs = [.ref t, .int h] ∧ TreeA K C CP M H t ls lp st pts ∧
  ((∃ (n : Nat) (l : List Nat), h = n ∧ WP pts ∧ n < pts.length ∧ Tr pts n l ∧ ∀ (r : Addr) (H' : Hp), H r = none → Same H H' → H' r = some (.lst (nI l)) → Q (.ref r) H') ∨ (BadN pts.length h ∧ Bnd h ∧ ∀ H', Same H H' → E (.ref CN) none H'))
def TrInv (K : PySem.W.Frag) (H : Hp) (t b : Addr) (h : Nat) (l : List Nat) (pts : List Pt) (m : Nat) (σ : L2.St) (H' : Hp) : Prop := ∃ (k l' : List Nat) (last : Nat), σ = [some (.ref t), some (.int (h : Int)), some (.ref b)] ∧ Same H H' ∧
  H' b = some (.lst (nI (k ++ [last]))) ∧ last < pts.length ∧ m = last ∧ k.length + last < pts.length ∧ Tr pts last l' ∧ l = l' ++ k.reverse
theorem nI_app (a b : List Nat) : nI (a ++ b) = nI a ++ nI b := List.map_append
theorem nI_len (a : List Nat) : (nI a).length = a.length := List.length_map _
theorem ok_trail {f C CP CN : Addr} {fd : FuncData} (F : Fun K "trail" "Tree.trail" s_Tree_trail f fd) (B : Bt mg) (T : TrF K C CP) (C_check_point : CM (L2N.CX P w) P w K mg base 1 C "check_point" ["self", "point"] (spCheckP K C CP CN)) : FnOk P w K mg base (L2N.CX P w) 2 f fd ["self", "point"] (spTrail K C CP CN) := by
  refine F.okN sc_Tree_trail (fun vs H Q E h => ?_) (fun cdv A outer s H vs Q E hr h => ?_)
  · obtain ⟨M, t, ls, lp, st, pts, h, rfl, _⟩ := h
    rfl
  obtain ⟨M, t, ls, lp, st, pts, h, rfl, TA, h2⟩ := h
  obtain ⟨dx, ht⟩ := TA.ob
  obtain ⟨pvs, hlp, pa⟩ := TA.hp
  refine ⟨_, (pss_cons (ps_expr (pm_x C_check_point (hr.mono (by first | exact Nat.le_refl _ | decide | omega)) (L2N.passes_call (L2N.takes_of rfl rfl rfl rfl) (fun _ _ _ _ h => h)) (pv 0) (pa_cons (pv 1) pa_nil)))
      (pss_cons (ps_set (i := 2) sc_Tree_trail.nd rfl (Or.inl rfl) (pe_lst (pa_cons (pv 1) pa_nil)))
      (pss_cons (ps_while (passes_of rfl) (pt_cmpR op_ne (pe_ix ix_list (pv 2) (pe_un un_neg pe_int) (fun _ _ => rfl)) pe_int (nomark _)) (pss_one (ps_expr (pe_bm PySem.F.plainAttrs_list PySem.F.slot_list_append PySem.F.type_list_append mt_append (pv 2) (pa_cons (pe_fld (pe_ix ix_list (pe_fld (pv 0) rfl) (pe_ix ix_list (pv 2) (pe_un un_neg pe_int) (fun _ _ => rfl)) (fun _ _ => rfl)) rfl) pa_nil)))))
      (pss_one (ps_ret (pe_listRev rfl (by rfl) B.list (by rfl) B.reversed (pv 2))))))), ?_⟩
  rcases h2 with ⟨h, l, rfl, wp, hl, tr, kk⟩ | ⟨bad, bd, kx⟩
  · refine ⟨_, rfl, t, dx, _, rfl, ht, ft_no m_cp.1 m_cp.2, _, rfl, M, t, ls, lp, st, pts, _, rfl, TA, .inl ⟨h, rfl, hl, ?_⟩⟩
    refine ⟨_, rfl, small (by show 1 ≤ 1000; decide), fun b hb => ?_⟩
    have s1 := same_new hb (.lst [.int (h : Int)])
    have g1 : upd H b (.lst [.int (h : Int)]) b = some (.lst [.int (h : Int)]) := upd_same
    generalize upd H b (.lst [.int (h : Int)]) = H1 at s1 g1 ⊢
    refine ⟨TrInv K H t b h l pts, ⟨h, [], l, h, rfl, s1, g1, hl, rfl, by simp; omega, tr, by simp⟩, ?_⟩
    rintro m σ H' ⟨k, l', last, rfl, s2, g2, hlast, em, hll, tr', el⟩
    subst em
    have atL : atI (nI (k ++ [m])) (-1) = some (.int (m : Int)) := by
      rw [nI_app]
      exact atI_last _ _
    refine ⟨_, rfl, _, rfl, b, _, _, _, rfl, rfl, SqL.of g2, atL, rfl, _, rfl, ?_⟩
    by_cases e : m = 0
    · subst e
      rw [show (!decide (V.int ((0 : Nat) : Int) = V.int 0)) = false from rfl]
      refine iteF ⟨_, rfl, b, _, rfl, SqL.of g2, fun q hq => ?_⟩
      have s3 := same_new hq (.lst (nI (k ++ [0])).reverse)
      refine kk q _ (s2.free hq) (s2.trans s3) ?_
      have : l' = [0] := tr'.fn .zero
      rw [upd_same, el, this]
      unfold nI
      rw [← List.map_reverse, List.reverse_append]
      rfl
    · rw [show (!decide (V.int (m : Int) = V.int 0)) = true from by simp; exact e]
      refine iteT ⟨fun σ' H' => ∃ m', m' < m ∧ TrInv K H t b h l pts m' σ' H', fun _ _ h => h, ?_⟩
      cases tr' with
      | zero => exact absurd rfl e
      | @step _ p l2 hp h0 tr2 =>
        obtain ⟨v, hv, a, dy, dv, rl, ld, xs, kvs, rfl, ha, hd, hk, al, _⟩ := pa.at hp
        obtain ⟨hog, D, q, hD, _⟩ := wp.og m p hp h0
        have ll : k.length < 200 := by have := wp.pl; omega
        refine ⟨_, rfl, .inl ⟨rfl, _, SqL.of g2⟩, _, rfl, t, C, dx, _, _, rfl, s2 _ _ ht, T.cl, T.nP, ft_points, _, rfl, _, rfl, b, _, _, _, rfl, rfl, SqL.of g2, atL, lp, _, _, _, rfl, rfl, SqL.of (s2 _ _ hlp), atI_nat hv, a, CP, dy, _, _, rfl, s2 _ _ ha, T.cp, T.no, fp_origin, b, _, _, rfl, rfl, g2, ?_, p.og, hog, k ++ [m], l2, p.og, rfl, fun c o z => ?_, ?_, ?_, rfl, ?_, tr2, ?_⟩
        · rw [nI_len, List.length_append, List.length_singleton]
          exact small (by omega)
        · rw [upd_ne (ne_of_none z hb)]
          exact s2 _ _ z
        · rw [upd_same, p.ogV_of hD, nI_app (k ++ [m])]
          rfl
        · omega
        · rw [List.length_append, List.length_singleton]
          omega
        · rw [el, List.reverse_append, List.append_assoc]
          rfl
  · exact ⟨_, rfl, t, dx, _, rfl, ht, ft_no m_cp.1 m_cp.2, _, rfl, M, t, ls, lp, st, pts, _, rfl, TA, .inr ⟨bad, bd, kx⟩⟩
/-! ### the road -/
/-- a step: back or forth, a point -/
def StA (K : PySem.W.Frag) (H : Hp) (s : Bool × Nat) (v : V) : Prop := ∃ a, v = .ref a ∧ SqT K H a [.str (if s.1 then "back" else "forth"), .int (s.2 : Int)]
def StsA (K : PySem.W.Frag) (H : Hp) : List (Bool × Nat) → List V → Prop
  | [], [] => True
  | p :: ps, v :: vs => StA K H p v ∧ StsA K H ps vs
  | _, _ => False
theorem StsA.tk {H H' : Hp} (t : Tk K H H') : ∀ {ps : List (Bool × Nat)} {vs : List V}, StsA K H ps vs → StsA K H' ps vs
  | [], [], _ => trivial
  | _ :: _, _ :: _, h => ⟨let ⟨a, e, q⟩ := h.1; ⟨a, e, t _ _ q⟩, StsA.tk t h.2⟩
theorem StsA.app {H : Hp} : ∀ {ps qs : List (Bool × Nat)} {vs ws : List V}, StsA K H ps vs → StsA K H qs ws → StsA K H (ps ++ qs) (vs ++ ws)
  | [], _, [], _, _, h => h
  | _ :: _, _, _ :: _, _, q, h => ⟨q.1, StsA.app q.2 h⟩
theorem StsA.len {H : Hp} : ∀ {ps : List (Bool × Nat)} {vs : List V}, StsA K H ps vs → vs.length = ps.length
  | [], [], _ => rfl
  | _ :: _, _ :: _, h => by simp [StsA.len h.2]
theorem StsA.at {H : Hp} : ∀ {ps : List (Bool × Nat)} {vs : List V} {i : Nat} {v : V}, StsA K H ps vs → vs[i]? = some v → ∃ p, ps[i]? = some p ∧ StA K H p v
  | [], [], i, v, _, h => by simp at h
  | r :: _, v :: _, 0, _, q, h => by
    simp only [List.getElem?_cons_zero, Option.some.injEq] at h
    exact ⟨r, rfl, h ▸ q.1⟩
  | _ :: _, _ :: _, i + 1, v, q, h => StsA.at (i := i) q.2 (by simpa using h)
/-- the road between two trails -/
def roadN (l1 l2 : List Nat) : List (Bool × Nat) := ((l1.reverse.filter fun x => !decide (x ∈ l2)).map fun x => (true, x)) ++ ((l2.filter fun x => !decide (x ∈ l1)).map fun x => (false, x))
theorem nI_flat : ∀ l : List Nat, (nI l).all flatV = true
  | [] => rfl
  | _ :: r => nI_flat r
theorem inV_nI (x : Nat) (l : List Nat) : inV (.int (x : Int)) (nI l) = decide (x ∈ l) := by
  induction l with
  | nil => rfl
  | cons y r ih =>
    have e : inV (.int (x : Int)) (nI (y :: r)) = (eqV (.int (y : Int)) (.int (x : Int)) || inV (.int (x : Int)) (nI r)) := rfl
    rw [e, ih]
    have e2 : eqV (.int (y : Int)) (.int (x : Int)) = decide (y = x) := by simp [eqV, Bool.beq_eq_decide_eq, Int.ofNat_inj]
    rw [e2]
    by_cases h : y = x
    · subst h; simp
    · by_cases h2 : x ∈ r
      · simp [h, h2]
      · simp [h, h2]
        exact fun e => h e.symm
theorem nI_at {l : List Nat} {i : Nat} {x : V} (h : (nI l)[i]? = some x) : ∃ s : Nat, x = .int (s : Int) ∧ l[i]? = some s := by
  unfold nI at h
  rw [List.getElem?_map] at h
  cases e : l[i]? with
  | none => rw [e] at h; cases h
  | some s => rw [e] at h; exact ⟨s, (Option.some.inj h).symm, rfl⟩
theorem nI_rev {l : List Nat} {i : Nat} {x : V} (hi : i < l.length) (h : (nI l)[(nI l).length - 1 - i]? = some x) : ∃ s : Nat, x = .int (s : Int) ∧ l.reverse[i]? = some s := by
  rw [nI_len] at h
  obtain ⟨s, e, h⟩ := nI_at h
  exact ⟨s, e, by rw [List.getElem?_reverse hi]; exact h⟩
def spRoad (K : PySem.W.Frag) (C CP CN : Addr) : Sp := fun vs H Q E => ∃ (M : List Addr) (t ls lp : Addr) (st : List Nat) (pts : List Pt) (i j : Int), vs = [.ref t, .int i, .int j] ∧ TreeA K C CP M H t ls lp st pts ∧
  ((∃ (n m : Nat) (l1 l2 : List Nat), i = n ∧ j = m ∧ WP pts ∧ n < pts.length ∧ m < pts.length ∧ Tr pts n l1 ∧ Tr pts m l2 ∧ ∀ (r : Addr) (H' : Hp) (xs : List V), H r = none → Same H H' → H' r = some (.lst xs) → StsA K H' (roadN l1 l2) xs → Q (.ref r) H') ∨
   ((BadN pts.length i ∧ Bnd i ∨ ∃ (n : Nat), i = n ∧ WP pts ∧ n < pts.length ∧ BadN pts.length j ∧ Bnd j) ∧ ∀ H', Same H H' → E (.ref CN) none H'))
theorem m_tr : ¬ (("trail" : Str) = "points") ∧ ¬ (("trail" : Str) = "stands") := ⟨by decide +kernel, by decide +kernel⟩
theorem m_rd : ¬ (("road" : Str) = "points") ∧ ¬ (("road" : Str) = "stands") := ⟨by decide +kernel, by decide +kernel⟩
theorem ok_road {f C CP CN : Addr} {fd : FuncData} (F : Fun K "road" "Tree.road" s_Tree_road f fd) (B : Bt mg) (T : TrF K C CP) (C_trail : CM (L2N.CX P w) P w K mg base 2 C "trail" ["self", "point"] (spTrail K C CP CN)) : FnOk P w K mg base (L2N.CX P w) 3 f fd ["self", "one", "other"] (spRoad K C CP CN) := by
  refine F.okN sc_Tree_road (fun vs H Q E h => ?_) (fun cdv A outer s H vs Q E hr h => ?_)
  · obtain ⟨M, t, ls, lp, st, pts, i, j, rfl, _⟩ := h
    rfl
  obtain ⟨M, t, ls, lp, st, pts, i, j, rfl, TA, h2⟩ := h
  obtain ⟨dx, ht⟩ := TA.ob
  refine ⟨_, (pss_cons (ps_set (i := 3) sc_Tree_road.nd rfl (Or.inr rfl) (pm_x C_trail (hr.mono (by first | exact Nat.le_refl _ | decide | omega)) (L2N.passes_call (L2N.takes_of rfl rfl rfl rfl) (fun _ _ _ _ h => h)) (pv 0) (pa_cons (pv 1) pa_nil)))
      (pss_cons (ps_set (i := 4) sc_Tree_road.nd rfl (Or.inr rfl) (pm_x C_trail (hr.mono (by first | exact Nat.le_refl _ | decide | omega)) (L2N.passes_call (L2N.takes_of rfl rfl rfl rfl) (fun _ _ _ _ h => h)) (pv 0) (pa_cons (pv 2) pa_nil)))
      (pss_cons (ps_setLc (i := 5) (own := [("point", 7)])  rfl sc_Tree_road.nd rfl rfl (sw_true rfl rfl rfl (by decide +kernel)) (pi_reversed (by rfl) B.reversed (pa_cons (pv 3) pa_nil)) (blkOk_by (N := ["self", "one", "other", "left", "sought", "back", "forth", "point"]) (sc := defScope s_Tree_road) (by decide +kernel)) (fun _ _ _ _ _ => pg_name (i := 7) sc_Tree_road.nd rfl (Or.inl rfl)) (fun _ _ _ _ _ => (pts_one (pt_cmpR (op_notIn_K (K := K) rfl) (pv 7) (pv 4) (by rfl)))) (fun _ _ _ _ _ => (pe_tup (pa_cons pe_str (pa_cons (pv 7) pa_nil)))))
      (pss_cons (ps_setLc (i := 6) (own := [("point", 7)])  rfl sc_Tree_road.nd rfl rfl (sw_true rfl rfl rfl (by decide +kernel)) (pi_list (pv 4)) (blkOk_by (N := ["self", "one", "other", "left", "sought", "back", "forth", "point"]) (sc := defScope s_Tree_road) (by decide +kernel)) (fun _ _ _ _ _ => pg_name (i := 7) sc_Tree_road.nd rfl (Or.inl rfl)) (fun _ _ _ _ _ => (pts_one (pt_cmpR (op_notIn_K (K := K) rfl) (pv 7) (pv 3) (by rfl)))) (fun _ _ _ _ _ => (pe_tup (pa_cons pe_str (pa_cons (pv 7) pa_nil)))))
      (pss_one (ps_ret (pe_op op_cat (pv 5) (pv 6)))))))), ?_⟩
  rcases h2 with ⟨i, j, l1, l2, rfl, rfl, wp, hi, hj, t1, t2, kk⟩ | ⟨⟨bad, bd⟩ | ⟨i, rfl, wp, hi, bad, bd⟩, kx⟩
  · refine ⟨_, rfl, t, dx, _, rfl, ht, ft_no m_tr.1 m_tr.2, _, rfl, M, t, ls, lp, st, pts, _, rfl, TA, .inl ⟨i, l1, rfl, wp, hi, t1, fun r1 H1 hr1 s1 g1 => ?_⟩⟩
    refine ⟨_, rfl, t, dx, _, rfl, s1 _ _ ht, ft_no m_tr.1 m_tr.2, _, rfl, M, t, ls, lp, st, pts, _, rfl, TA.same s1, .inl ⟨j, l2, rfl, wp, hj, t2, fun r2 H2 hr2 s2 g2 => ?_⟩⟩
    have n1 : l1.length ≤ 200 := by have := t1.len wp; have := wp.pl; omega
    have n2 : l2.length ≤ 200 := by have := t2.len wp; have := wp.pl; omega
    have g12 := s2 _ _ g1
    refine ⟨_, rfl, r1, nI l1, rfl, SqL.of g12, fun D hD => ?_⟩
    refine itw_loop walk_rev (fun i H3 => Same H2 H3 ∧ ∃ ys : List V, H3 D = some (.lst ys) ∧ StsA K H3 (((l1.reverse.take i).filter fun x => !decide (x ∈ l2)).map fun x => (true, x)) ys) ⟨same_new hD _, [], upd_same, trivial⟩ (fun i H3 _ h => SqL.of (h.1 _ _ g12)) ?_ ?_
    · rintro i x H3 H4 hi2 ⟨s3, ys, g3, y3⟩ ⟨rfl, hx⟩
      rw [nI_len] at hi2
      obtain ⟨v, rfl, hv⟩ := nI_rev hi2 hx
      have yl := y3.len
      have yl2 : ys.length ≤ 200 := by
        rw [yl, List.length_map]
        have a := List.length_filter_le (fun x => !decide (x ∈ l2)) (l1.reverse.take i)
        rw [List.length_take, List.length_reverse] at a
        omega
      refine ⟨wipe_in (by decide), _, rfl, _, rfl, r2, _, rfl, .inl (SqL.of (s3 _ _ g2)), rfl, nI_flat l2, ?_⟩
      rw [if_pos rfl]
      refine ⟨_, rfl, ?_⟩
      rw [inV_nI]
      have et : l1.reverse.take (i + 1) = l1.reverse.take i ++ [v] := by rw [List.take_add_one, hv]; rfl
      by_cases hq : v ∈ l2
      · rw [decide_eq_true hq]
        refine iteF ⟨s3, ys, g3, ?_⟩
        rw [et, List.filter_append, List.filter_cons, if_neg (by simp [hq]), List.filter_nil, List.append_nil]
        exact y3
      · rw [decide_eq_false hq]
        refine iteT ⟨_, rfl, small (by show 2 ≤ 1000; decide), fun q hq2 => ?_⟩
        have s4 := same_new hq2 (.tup [.str "back", .int (v : Int)])
        have g4 : upd H4 q (.tup [.str "back", .int (v : Int)]) q = some (.tup [.str "back", .int (v : Int)]) := upd_same
        generalize upd H4 q (.tup [.str "back", .int (v : Int)]) = H5 at s4 g4 ⊢
        have gD := s4 _ _ g3
        refine ⟨ys, gD, small (by omega), fun c o z => ?_, _, upd_same, ?_⟩
        · rw [upd_ne (ne_of_none z hD)]
          exact s4 _ _ (s3 _ _ z)
        · rw [et, List.filter_append, List.map_append, List.filter_cons, if_pos (by simp [hq]), List.filter_nil]
          have tk : Tk K H4 (upd H5 D (.lst (ys ++ [.ref q]))) := fun a xs h => by
            have h := Tk.same s4 a xs h
            rcases h with (h | ⟨o, h⟩) | h
            · exact .inl (.inl (by rw [upd_ne (ne_of h gD fun z => by cases z)]; exact h))
            · exact .inl (.inr ⟨o, by rw [upd_ne (ne_of h gD fun z => by cases z)]; exact h⟩)
            · exact .inr h
          refine (y3.tk tk).app ⟨⟨q, rfl, SqT.of ?_⟩, trivial⟩
          rw [upd_ne (ne_of g4 gD fun z => by cases z)]
          exact g4
    · rintro H3 ⟨s3, ys, g3, y3⟩
      rw [nI_len, show l1.reverse.take l1.length = l1.reverse by rw [← List.length_reverse, List.take_length]] at y3
      have g23 := s3 _ _ g2
      refine ⟨_, rfl, r2, rfl, ⟨_, SqL.of g23⟩, fun D2 hD2 => ?_⟩
      refine lc_list (K := K) (a := r2) (xs := nI l2) (fun i H4 => Same H3 H4 ∧ ∃ zs : List V, H4 D2 = some (.lst zs) ∧ StsA K H4 (((l2.take i).filter fun x => !decide (x ∈ l1)).map fun x => (false, x)) zs) ⟨same_new hD2 _, [], upd_same, trivial⟩ (fun i H4 _ h => SqL.of (h.1 _ _ g23)) ?_ ?_
      · rintro i x H4 hx ⟨s4, zs, g4, y4⟩
        obtain ⟨v, rfl, hv⟩ := nI_at hx
        have hil : i < l2.length := (List.getElem?_eq_some_iff.mp hv).1
        have yl := y4.len
        have yl2 : zs.length ≤ 200 := by
          rw [yl, List.length_map]
          have a := List.length_filter_le (fun x => !decide (x ∈ l1)) (l2.take i)
          rw [List.length_take] at a
          omega
        refine ⟨wipe_in (by decide), _, rfl, _, rfl, r1, _, rfl, .inl (SqL.of (s4 _ _ (s3 _ _ g12))), rfl, nI_flat l1, ?_⟩
        rw [if_pos rfl]
        refine ⟨_, rfl, ?_⟩
        rw [inV_nI]
        have et : l2.take (i + 1) = l2.take i ++ [v] := by rw [List.take_add_one, hv]; rfl
        by_cases hq : v ∈ l1
        · rw [decide_eq_true hq]
          refine iteF ⟨s4, zs, g4, ?_⟩
          rw [et, List.filter_append, List.filter_cons, if_neg (by simp [hq]), List.filter_nil, List.append_nil]
          exact y4
        · rw [decide_eq_false hq]
          refine iteT ⟨_, rfl, small (by show 2 ≤ 1000; decide), fun q hq2 => ?_⟩
          have s5 := same_new hq2 (.tup [.str "forth", .int (v : Int)])
          have g5 : upd H4 q (.tup [.str "forth", .int (v : Int)]) q = some (.tup [.str "forth", .int (v : Int)]) := upd_same
          generalize upd H4 q (.tup [.str "forth", .int (v : Int)]) = H5 at s5 g5 ⊢
          have gD := s5 _ _ g4
          refine ⟨zs, gD, small (by omega), fun c o z => ?_, _, upd_same, ?_⟩
          · rw [upd_ne (ne_of_none z hD2)]
            exact s5 _ _ (s4 _ _ z)
          · rw [et, List.filter_append, List.map_append, List.filter_cons, if_pos (by simp [hq]), List.filter_nil]
            have tk : Tk K H4 (upd H5 D2 (.lst (zs ++ [.ref q]))) := fun a xs h => by
              have h := Tk.same s5 a xs h
              rcases h with (h | ⟨o, h⟩) | h
              · exact .inl (.inl (by rw [upd_ne (ne_of h gD fun z => by cases z)]; exact h))
              · exact .inl (.inr ⟨o, by rw [upd_ne (ne_of h gD fun z => by cases z)]; exact h⟩)
              · exact .inr h
            refine (y4.tk tk).app ⟨⟨q, rfl, SqT.of ?_⟩, trivial⟩
            rw [upd_ne (ne_of g5 gD fun z => by cases z)]
            exact g5
      · rintro H4 ⟨s4, zs, g4, y4⟩
        rw [nI_len, List.take_length] at y4
        have b1 : ys.length ≤ 200 := by
          rw [y3.len, List.length_map]
          have a := List.length_filter_le (fun x => !decide (x ∈ l2)) l1.reverse
          rw [List.length_reverse] at a
          omega
        have b2 : zs.length ≤ 200 := by
          rw [y4.len, List.length_map]
          have a := List.length_filter_le (fun x => !decide (x ∈ l1)) l2
          omega
        refine ⟨_, rfl, _, rfl, D, D2, _, _, rfl, rfl, s4 _ _ g3, g4, small (by omega), fun q hq => ?_⟩
        have s5 := same_new hq (.lst (ys ++ zs))
        have s04 := ((s1.trans s2).trans s3).trans s4
        exact kk q _ _ (s04.free hq) (s04.trans s5) upd_same (((y3.tk (.same s4)).app y4).tk (.same s5))
  · exact ⟨_, rfl, t, dx, _, rfl, ht, ft_no m_tr.1 m_tr.2, _, rfl, M, t, ls, lp, st, pts, _, rfl, TA, .inr ⟨bad, bd, kx⟩⟩
  · obtain ⟨l1, t1⟩ := Tr.ex wp hi
    refine ⟨_, rfl, t, dx, _, rfl, ht, ft_no m_tr.1 m_tr.2, _, rfl, M, t, ls, lp, st, pts, _, rfl, TA, .inl ⟨i, l1, rfl, wp, hi, t1, fun r1 H1 hr1 s1 g1 => ?_⟩⟩
    exact ⟨_, rfl, t, dx, _, rfl, s1 _ _ ht, ft_no m_tr.1 m_tr.2, _, rfl, M, t, ls, lp, st, pts, _, rfl, TA.same s1, .inr ⟨bad, bd, fun H' s => kx H' (s1.trans s)⟩⟩
def spGo (K : PySem.W.Frag) (C CP CH CN : Addr) : Sp := fun vs H Q E => ∃ (M : List Addr) (t ls lp : Addr) (st : List Nat) (pts : List Pt) (h p : Int), vs = [.ref t, .int h, .int p] ∧ TreeA K C CP M H t ls lp st pts ∧ WF st pts ∧
  ((∃ (n s m : Nat) (l1 l2 : List Nat), h = n ∧ p = m ∧ st[n]? = some s ∧ m < pts.length ∧ Tr pts s l1 ∧ Tr pts m l2 ∧
    ∀ (r : Addr) (H' : Hp) (xs : List V), H r = none → Keep ls ls H H' → TreeA K C CP M H' t ls lp (st.set n m) pts → H' r = some (.lst xs) → StsA K H' (roadN l1 l2) xs → Q (.ref r) H') ∨
   (BadN st.length h ∧ Bnd h ∧ ∀ H', Same H H' → E (.ref CH) none H') ∨ (∃ n : Nat, h = n ∧ n < st.length ∧ BadN pts.length p ∧ Bnd p ∧ ∀ H', Same H H' → E (.ref CN) none H'))
theorem KM.upd1 {N : List Addr} {H : Hp} {a : Addr} {o : HO} (h : a ∈ N) : KM N H (upd H a o) := KM.put h
theorem ok_go {f C CP CH CN : Addr} {fd : FuncData} (F : Fun K "go" "Tree.go" s_Tree_go f fd) (T : TrF K C CP) (C_check_hand : CM (L2N.CX P w) P w K mg base 3 C "check_hand" ["self", "hand"] (spCheckH K C CP CH)) (C_road : CM (L2N.CX P w) P w K mg base 3 C "road" ["self", "one", "other"] (spRoad K C CP CN)) : FnOk P w K mg base (L2N.CX P w) 4 f fd ["self", "hand", "point"] (spGo K C CP CH CN) := by
  refine F.okN sc_Tree_go (fun vs H Q E h => ?_) (fun cdv A outer s H vs Q E hr h => ?_)
  · obtain ⟨M, t, ls, lp, st, pts, h, p, rfl, _⟩ := h
    rfl
  obtain ⟨M, t, ls, lp, st, pts, h, p, rfl, TA, wf, h2⟩ := h
  obtain ⟨dx, ht⟩ := TA.ob
  refine ⟨_, (pss_cons (ps_expr (pm_x C_check_hand (hr.mono (by first | exact Nat.le_refl _ | decide | omega)) (L2N.passes_call (L2N.takes_of rfl rfl rfl rfl) (fun _ _ _ _ h => h)) (pv 0) (pa_cons (pv 1) pa_nil)))
      (pss_cons (ps_set (i := 3) sc_Tree_go.nd rfl (Or.inl rfl) (pm_x C_road (hr.mono (by first | exact Nat.le_refl _ | decide | omega)) (L2N.passes_call (L2N.takes_of rfl rfl rfl rfl) (fun _ _ _ _ h => h)) (pv 0) (pa_cons (pe_ix ix_list (pe_fld (pv 0) rfl) (pv 1) (fun _ _ => rfl)) (pa_cons (pv 2) pa_nil))))
      (pss_cons (ps_asg (pv 2) (pg_sub (pe_fld (pv 0) rfl) (pv 1) set_list))
      (pss_one (ps_ret (pv 3)))))), ?_⟩
  rcases h2 with ⟨h, s0, p, l1, l2, rfl, rfl, hs, hp, t1, t2, kk⟩ | ⟨bad, bd, kx⟩ | ⟨h, rfl, hl, bad, bd, kx⟩
  · have hl : h < st.length := (List.getElem?_eq_some_iff.mp hs).1
    have hs0 := wf.sb s0 (List.mem_of_getElem? hs)
    refine ⟨_, rfl, t, dx, _, rfl, ht, ft_no m_ch.1 m_ch.2, _, rfl, M, t, ls, lp, st, pts, _, rfl, TA, .inl ⟨h, rfl, hl, ?_⟩⟩
    refine ⟨_, rfl, t, dx, _, rfl, ht, ft_no m_rd.1 m_rd.2, _, rfl, t, C, dx, _, _, rfl, ht, T.cl, T.nS, ft_stands, _, rfl, ls, _, _, _, rfl, rfl, SqL.of TA.hs, at_st hs, _, rfl, M, t, ls, lp, st, pts, _, _, rfl, TA, .inl ⟨s0, p, l1, l2, rfl, rfl, wf.wp, hs0, hp, t1, t2, fun r H1 xs hr1 s1 g1 a1 => ?_⟩⟩
    have T1 := TA.same s1
    obtain ⟨pvs, hlp, pa⟩ := T1.hp
    have hx : ixN (nI st).length (h : Int) = some h := by
      unfold ixN
      rw [nI_len, if_pos (by omega), if_pos (by omega)]
      rfl
    refine ⟨_, rfl, _, rfl, t, C, dx, _, _, rfl, s1 _ _ ht, T.cl, T.nS, ft_stands, _, rfl, ls, _, _, h, rfl, rfl, T1.hs, hx, _, rfl, ?_⟩
    have e8 : (nI st).set h (.int (p : Int)) = nI (st.set h p) := by unfold nI; rw [List.map_set]
    rw [e8]
    have hs2 : upd H1 ls (.lst (nI (st.set h p))) ls = some (.lst (nI (st.set h p))) := upd_same
    have k2 : KM [ls] H1 (upd H1 ls (.lst (nI (st.set h p)))) := .put (List.mem_singleton.mpr rfl)
    generalize upd H1 ls (.lst (nI (st.set h p))) = H2 at hs2 k2 ⊢
    have off : Off [ls] M H1 := .sub fun n hn => List.mem_singleton.mp hn ▸ TA.ml
    have nr : r ∉ [ls] := fun z => by
      have e := List.mem_singleton.mp z
      rw [e, TA.hs] at hr1
      cases hr1
    refine kk r H2 xs hr1 (fun c o e n _ => k2 _ _ (s1 _ _ e) fun z => n (List.mem_singleton.mp z)) ⟨⟨dx, k2.obj T1.mu off (s1 _ _ ht) (fun _ z => by cases z) fun _ z => by cases z⟩, hs2, ⟨pvs, k2 _ _ hlp fun z => TA.ne (List.mem_singleton.mp z).symm, pa.km k2 T1.mu off⟩, TA.ne, T1.mu.km k2 ((MutL.nil _).cons hs2), TA.ml, TA.mp⟩ (k2 _ _ g1 nr) (a1.tk (k2.tk T1.mu off))
  · exact ⟨_, rfl, t, dx, _, rfl, ht, ft_no m_ch.1 m_ch.2, _, rfl, M, t, ls, lp, st, pts, _, rfl, TA, .inr ⟨bad, bd, kx⟩⟩
  · obtain ⟨s0, hs⟩ : ∃ s, st[h]? = some s := ⟨_, List.getElem?_eq_getElem hl⟩
    have hs0 := wf.sb s0 (List.mem_of_getElem? hs)
    refine ⟨_, rfl, t, dx, _, rfl, ht, ft_no m_ch.1 m_ch.2, _, rfl, M, t, ls, lp, st, pts, _, rfl, TA, .inl ⟨h, rfl, hl, ?_⟩⟩
    exact ⟨_, rfl, t, dx, _, rfl, ht, ft_no m_rd.1 m_rd.2, _, rfl, t, C, dx, _, _, rfl, ht, T.cl, T.nS, ft_stands, _, rfl, ls, _, _, _, rfl, rfl, SqL.of TA.hs, at_st hs, _, rfl, M, t, ls, lp, st, pts, _, _, rfl, TA, .inr ⟨.inr ⟨s0, rfl, wf.wp, hs0, bad, bd⟩, kx⟩⟩
end
end U

namespace U
open PySem L2 PyProof.Rows
section
variable {P : Program} {w : World} {K : PySem.W.Frag} {mg : Str → Option Value} {base : Heap}
def spDo (K : PySem.W.Frag) (C CP CF CH : Addr) : Sp := fun vs H Q E => ∃ (M : List Addr) (t ls lp : Addr) (st : List Nat) (pts : List Pt) (h : Int) (dv : V), vs = [.ref t, .int h, dv] ∧ TreeA K C CP M H t ls lp st pts ∧ WF st pts ∧
  ((∃ (n og : Nat) (p : Pt) (D : Deed), h = n ∧ st[n]? = some og ∧ pts[og]? = some p ∧ DA K H D dv ∧ D.okL ∧
    (∀ rs, D.rw p.cs = some rs → ∀ H', Keep ls lp H H' → TreeA K C CP M H' t ls lp (st.set n pts.length) (pts ++ [⟨og, n, some D, rep p.cs (rN rs), rs⟩]) → Q (.int (pts.length : Int)) H') ∧ (D.rw p.cs = none → ∀ H', Same H H' → E (.ref CF) none H')) ∨
   (BadN st.length h ∧ Bnd h ∧ ∀ H', Same H H' → E (.ref CH) none H'))
theorem rw_some {D : Deed} {cs : List (Str × Part)} {ns : List (Str × Option Part)} (h : D.nx cs = some ns) {L : List Str} (hL : L.Perm (ks ns)) (hs : L.Pairwise leS) : D.rw cs = some (rows cs ns L) := by
  unfold Deed.rw
  rw [h, ← srt_of hL hs]
  rfl
theorem rw_none {D : Deed} {cs : List (Str × Part)} (h : D.nx cs = none) : D.rw cs = none := by
  unfold Deed.rw
  rw [h]
  rfl
theorem ok_do {f C CP CF CH : Addr} {fd : FuncData} (F : Fun K "do" "Tree.do" s_Tree_do f fd) (B : Bt mg) (T : TrF K C CP) (C_check_hand : CM (L2N.CX P w) P w K mg base 19 C "check_hand" ["self", "hand"] (spCheckH K C CP CH)) (C_changes : CalX P w K mg base 19 "changes" ["contents", "deed"] (spChanges K CF)) (C_replaced : Cal P w K mg base 19 "replaced" ["contents", "newer"] (spReplaced K))
    (C_Point : CK CX0 P w K mg base 18 CP "Point" ["self", "origin", "hand", "deed", "rows", "contents"] (spPoint CP)) : FnOk P w K mg base (L2N.CX P w) 20 f fd ["self", "hand", "deed"] (spDo K C CP CF CH) := by
  refine F.okN sc_Tree_do (fun vs H Q E h => ?_) (fun cdv A outer s H vs Q E hr h => ?_)
  · obtain ⟨M, t, ls, lp, st, pts, h, dv, rfl, _⟩ := h
    rfl
  obtain ⟨M, t, ls, lp, st, pts, h, dv, rfl, TA, wf, h2⟩ := h
  obtain ⟨dx, ht⟩ := TA.ob
  obtain ⟨pvs, hlp, pa⟩ := TA.hp
  refine ⟨_, (pss_cons (ps_expr (pm_x C_check_hand (hr.mono (by first | exact Nat.le_refl _ | decide | omega)) (L2N.passes_call (L2N.takes_of rfl rfl rfl rfl) (fun _ _ _ _ h => h)) (pv 0) (pa_cons (pv 1) pa_nil)))
      (pss_cons (ps_set (i := 3) sc_Tree_do.nd rfl (Or.inl rfl) (pe_ix ix_list (pe_fld (pv 0) rfl) (pv 1) (fun _ _ => rfl)))
      (pss_cons (ps_set (i := 4) sc_Tree_do.nd rfl (Or.inl rfl) (pe_fld (pe_ix ix_list (pe_fld (pv 0) rfl) (pv 3) (fun _ _ => rfl)) rfl))
      (pss_cons (ps_set (i := 5) sc_Tree_do.nd rfl (Or.inl rfl) (pc_x C_changes (hr.mono (by first | exact Nat.le_refl _ | decide | omega)) (by rfl) (L2N.passes_call (L2N.takes_of rfl rfl rfl rfl) (fun _ _ _ _ h => h)) (pa_cons (pv 4) (pa_cons (pv 2) pa_nil))))
      (pss_cons (ps_set (i := 6) sc_Tree_do.nd rfl (Or.inl rfl) (pc_c C_replaced (hr.mono (by first | exact Nat.le_refl _ | decide | omega)) (by rfl) (pa_cons (pv 4) (pa_cons (pe_dc (own := [("row", 7)])  rfl sc_Tree_do.nd (pi_list (pv 5)) (blkOk_by (N := ["self", "hand", "deed", "origin", "contents", "rows", "newer", "row"]) (sc := defScope s_Tree_do) (by decide +kernel)) (fun _ _ _ _ _ => pg_name (i := 7) sc_Tree_do.nd rfl (Or.inl rfl)) (fun _ _ _ _ _ => pts_nil) (fun _ _ _ _ _ => (pe_ix (ix_tupK (K := K) rfl) (pv 7) pe_int (fun _ _ => rfl))) (fun _ _ _ _ _ => (pe_ix (ix_tupK (K := K) rfl) (pv 7) pe_int (fun _ _ => rfl)))) pa_nil))))
      (pss_cons (ps_expr (pe_bm PySem.F.plainAttrs_list PySem.F.slot_list_append PySem.F.type_list_append mt_append (pe_fld (pv 0) rfl) (pa_cons (pk_c C_Point (hr.mono (by first | exact Nat.le_refl _ | decide | omega)) (by rfl) (pa_cons (pv 3) (pa_cons (pv 1) (pa_cons (pv 2) (pa_cons (pv 5) (pa_cons (pv 6) pa_nil)))))) pa_nil)))
      (pss_cons (ps_asg (pe_op op_sub (pe_callB call_len_seq (by rfl) B.len boot_len (pa_cons (pe_fld (pv 0) rfl) pa_nil)) pe_int) (pg_sub (pe_fld (pv 0) rfl) (pv 1) set_list))
      (pss_one (ps_ret (pe_ix ix_list (pe_fld (pv 0) rfl) (pv 1) (fun _ _ => rfl))))))))))), ?_⟩
  rcases h2 with ⟨h, og, p, D, rfl, hs, hp, da, okL, kk, kx⟩ | ⟨bad, bd, kx⟩
  · have hl : h < st.length := (List.getElem?_eq_some_iff.mp hs).1
    have cok := wf.wp.ok p (List.mem_of_getElem? hp)
    obtain ⟨v, hv, a, dy, dv0, rl, ld, xs0, kvs, rfl, ha, hd, hk, al, hrl, hra, hnm⟩ := pa.at hp
    refine ⟨_, rfl, t, dx, _, rfl, ht, ft_no m_ch.1 m_ch.2, _, rfl, M, t, ls, lp, st, pts, _, rfl, TA, .inl ⟨h, rfl, hl, ?_⟩⟩
    refine ⟨_, rfl, t, C, dx, _, _, rfl, ht, T.cl, T.nS, ft_stands, _, rfl, ls, _, _, _, rfl, rfl, SqL.of TA.hs, at_st hs, ?_⟩
    refine ⟨_, rfl, t, C, dx, _, _, rfl, ht, T.cl, T.nP, ft_points, _, rfl, lp, _, _, _, rfl, rfl, SqL.of hlp, atI_nat hv, a, CP, dy, _, _, rfl, ha, T.cp, T.nc, fp_contents, ?_⟩
    refine ⟨_, rfl, _, rfl, ld, p.cs, D, dv, rfl, ⟨kvs, .inl hk, al⟩, cok, da, okL, fun ns hns L hL hLs q H1 xs hq s1 g1 ra => ?_, fun hz H1 s1 => kx (rw_none hz) H1 s1⟩
    have no := nx_ok cok okL hns
    have ro : RsOk (rows p.cs ns L) := rows_ok cok no fun x hx => no.ce x (hL.mem_iff.mp hx)
    have kk2 := kk _ (rw_some hns hL hLs)
    have rl : (rows p.cs ns L).length ≤ 54 := by
      have h1 := rows_len (cs := p.cs) (ns := ns) (l := L)
      have h2 := hL.length_eq
      have h3 := no.len
      unfold ks at h2
      rw [List.length_map] at h2
      omega
    generalize rows p.cs ns L = rs at ra ro kk2 rl
    have hqM := TA.mu.none hq
    refine ⟨_, rfl, _, rfl, q, rfl, ⟨_, SqL.of g1⟩, fun D2 hD2 => ?_⟩
    refine itw_loop (walk_list (K := K) (a := q) (xs := xs)) (fun i H3 => Same H1 H3 ∧ ∃ tab : List (Key × V), H3 D2 = some (.dK tab) ∧ Al (CA K H3) (rN (rs.take i)) tab) ⟨same_new hD2 _, [], upd_same, trivial⟩ (fun i H3 _ h => SqL.of (h.1 _ _ g1)) ?_ ?_
    · rintro i x H3 H4 hi ⟨s3, tab, g3, a3⟩ ⟨rfl, hx⟩
      obtain ⟨rw_, hrw, ⟨ar, e1, e2, rfl, hT, c1, c2⟩⟩ := ra.get hx
      have hT3 := Tk.same s3 _ _ hT
      have tl := a3.len
      have rl2 := rN_len (rs.take i)
      rw [List.length_take] at rl2
      refine ⟨wipe_in (by decide), yes_ ⟨_, rfl, ar, _, _, _, rfl, rfl, hT3, at0, _, rfl, ar, _, _, _, rfl, rfl, hT3, rfl, tab, Sum.inr rw_.1, rfl, g3, small (by omega), fun c o z => ?_, _, upd_same, ?_⟩⟩
      · rw [upd_ne (ne_of_none z hD2)]
        exact s3 _ _ z
      · have tk5 := tk_upd (K := K) (v := .dK (putK tab (Sum.inr rw_.1) e2)) g3 nt_dK
        rw [List.take_add_one, hrw]
        show Al _ (rN (rs.take i ++ [rw_])) _
        rw [rN_snoc]
        exact Al.put (a3.mono fun _ _ z => CA.tk tk5 z) ((c2.tk (.same s3)).tk tk5)
    · rintro H3 ⟨s3, tab, g3, a3⟩
      rw [ra.len, List.take_length] at a3
      have s13 := s1.trans s3
      refine ⟨ld, D2, p.cs, rN rs, rfl, ⟨kvs, .inl (s13 _ _ hk), al.mono fun _ _ z => PA.tk (.same s13) z⟩, ⟨tab, .inl g3, a3⟩, cok, rN_ok ro, fun r H4 tab2 hr4 s4 g4 a4 => ?_⟩
      have s14 := s13.trans s4
      refine ⟨_, rfl, t, C, dx, _, _, rfl, s14 _ _ ht, T.cl, T.nP, ft_points, .inl ⟨rfl, _, SqL.of (s14 _ _ hlp)⟩, _, rfl, _, rfl, _, rfl, _, rfl, _, rfl, fun x dz nx ndx nex => ?_⟩
      refine ⟨x, dz, _, _, _, _, _, rfl, upd_same, fun H5 hx5 k5 => ⟨rfl, ?_⟩⟩
      have s45 : Same H4 H5 := fun c o z => k5 c o (by rw [upd_ne (ne_of_none z nx), upd_ne (ne_of_none z ndx)]; exact z) (ne_of_none z nx)
      have s15 := s14.trans s45
      have q5 := s45 _ _ (s4 _ _ (s3 _ _ g1))
      refine ⟨lp, _, _, rfl, rfl, s15 _ _ hlp, ?_, ?_⟩
      · have h1 := pa.len
        have h2 := wf.wp.pl
        exact small (by omega)
      have T5 := TA.same s15
      have k6 : KM [ls, lp] H5 (upd H5 lp (.lst (pvs ++ [.ref x]))) := .put (by simp)
      have hs6 : upd H5 lp (.lst (pvs ++ [.ref x])) ls = some (.lst (nI st)) := by rw [upd_ne TA.ne]; exact s15 _ _ TA.hs
      have hp6 : upd H5 lp (.lst (pvs ++ [.ref x])) lp = some (.lst (pvs ++ [.ref x])) := upd_same
      generalize upd H5 lp (.lst (pvs ++ [.ref x])) = H6 at k6 hs6 hp6 ⊢
      have off : ∀ H, Off [ls, lp] M H := fun H => .sub fun n hn => by
        simp at hn
        rcases hn with rfl | rfl
        · exact TA.ml
        · exact TA.mp
      have ht6 := k6.obj T5.mu (off _) (s15 _ _ ht) (fun _ z => by cases z) fun _ z => by cases z
      have e6 : (((pvs ++ [V.ref x]).length : Nat) : Int) - 1 = (pts.length : Int) := by
        have h1 := pa.len
        rw [List.length_append, List.length_singleton]
        omega
      have hx : ixN (nI st).length (h : Int) = some h := by
        unfold ixN
        rw [nI_len, if_pos (by omega), if_pos (by omega)]
        rfl
      refine ⟨_, rfl, t, C, dx, _, _, rfl, ht6, T.cl, T.nP, ft_points, lp, _, rfl, .inl (SqL.of hp6), _, _, rfl, rfl, _, rfl, t, C, dx, _, _, rfl, ht6, T.cl, T.nS, ft_stands, _, rfl, ls, _, _, h, rfl, rfl, hs6, hx, ?_⟩
      have e8 : (nI st).set h (.int ((((pvs ++ [V.ref x]).length : Nat) : Int) - 1)) = nI (st.set h pts.length) := by unfold nI; rw [e6, List.map_set]
      rw [e8]
      have k7 : KM [ls, lp] H6 (upd H6 ls (.lst (nI (st.set h pts.length)))) := .put (by simp)
      have hs7 : upd H6 ls (.lst (nI (st.set h pts.length))) ls = some (.lst (nI (st.set h pts.length))) := upd_same
      have hp7 : upd H6 ls (.lst (nI (st.set h pts.length))) lp = some (.lst (pvs ++ [.ref x])) := by rw [upd_ne TA.ne.symm]; exact hp6
      generalize upd H6 ls (.lst (nI (st.set h pts.length))) = H7 at k7 hs7 hp7 ⊢
      have k57 := k6.trans k7
      have mu7 : MutL M H7 := T5.mu.km k57 (((MutL.nil _).cons hp7).cons hs7)
      have ob5 : ∀ {c : Addr} {o : HO}, H5 c = some o → (∀ xs, o ≠ .lst xs) → (∀ ps, o ≠ .tbl ps) → H7 c = some o := fun e n1 n2 => k57.obj T5.mu (off _) e n1 n2
      refine ⟨_, rfl, t, C, dx, _, _, rfl, ob5 (s15 _ _ ht) (fun _ z => by cases z) (fun _ z => by cases z), T.cl, T.nS, ft_stands, _, rfl, ls, _, _, _, rfl, rfl, SqL.of hs7, at_st (by rw [List.getElem?_set_self hl]), ?_⟩
      obtain ⟨pvs5, hlp5, pa5⟩ := T5.hp
      obtain rfl : pvs = pvs5 := by
        rw [s15 _ _ hlp] at hlp5
        cases hlp5
        rfl
      have tk15 : Tk K H H5 := .same s15
      have tk57 : Tk K H5 H7 := k57.tk T5.mu (off _)
      refine kk2 H7 (fun c o e n1 n2 => k57 _ _ (s15 _ _ e) fun z => by simp at z; exact z.elim n1 n2) ⟨⟨dx, ob5 (s15 _ _ ht) (fun _ z => by cases z) fun _ z => by cases z⟩, hs7, ⟨_, hp7, (pa5.km k57 T5.mu (off _)).snoc ?_⟩, TA.ne, mu7, TA.ml, TA.mp⟩
      exact ⟨x, dz, dv, q, r, xs, tab2, rfl, ob5 hx5 (fun _ z => by cases z) (fun _ z => by cases z), DaO.tk (o := some D) tk57 (DaO.tk (o := some D) tk15 da), ob5 (s45 _ _ g4) (fun _ z => by cases z) (fun _ z => by cases z), a4.mono fun _ _ z => PA.tk tk57 (PA.tk (.same s45) z), k57.off (off _) q5 hqM, RAs.tk tk57 (RAs.tk (.same s45) (RAs.tk (.same s4) (RAs.tk (.same s3) ra))), hqM⟩
  · exact ⟨_, rfl, t, dx, _, rfl, ht, ft_no m_ch.1 m_ch.2, _, rfl, M, t, ls, lp, st, pts, _, rfl, TA, .inr ⟨bad, bd, kx⟩⟩
/-- a good tree with a good deed more -/
theorem WP.do_ {pts : List Pt} (W : WP pts) (l : pts.length < 200) {og h : Nat} {p : Pt} {D : Deed} {rs : List Row} (hp : pts[og]? = some p) (ok : D.okL) (e : D.rw p.cs = some rs) : WP (pts ++ [⟨og, h, some D, rep p.cs (rN rs), rs⟩]) := by
  have ho := (List.getElem?_eq_some_iff.mp hp).1
  have pok := W.ok p (List.mem_of_getElem? hp)
  refine ⟨get_app _ _ W.z, fun i q hq h0 => ?_, fun q hq => ?_, by rw [List.length_append, List.length_singleton]; omega⟩
  · by_cases z : i < pts.length
    · rw [List.getElem?_append_left z] at hq
      obtain ⟨o, D', q', e1, e2, e3, e4, e5⟩ := W.og i q hq h0
      exact ⟨o, D', q', e1, e2, get_app _ _ e3, e4, e5⟩
    · have hi : i = pts.length := by
        have := (List.getElem?_eq_some_iff.mp hq).1
        rw [List.length_append, List.length_singleton] at this
        omega
      subst hi
      rw [List.getElem?_append_right (Nat.le_refl _), Nat.sub_self] at hq
      simp only [List.getElem?_cons_zero, Option.some.injEq] at hq
      subst hq
      exact ⟨ho, D, p, rfl, ok, get_app _ _ hp, e, rfl⟩
  · rcases List.mem_append.mp hq with hq | hq
    · exact W.ok q hq
    · rw [List.mem_singleton.mp hq]
      unfold Deed.rw at e
      cases en : D.nx p.cs with
      | none => rw [en] at e; cases e
      | some ns =>
        rw [en] at e
        have e : rows p.cs ns (srt (ks ns)) = rs := Option.some.inj e
        have no := nx_ok pok ok en
        refine rep_ok pok (rN_ok ?_)
        rw [← e]
        refine rows_ok pok no fun x hx => ?_
        unfold srt at hx
        split at hx
        · rename_i hz
          exact no.ce x (hz.choose_spec.1.mem_iff.mp hx)
        · exact no.ce x hx
theorem WF.do_ {st : List Nat} {pts : List Pt} (W : WF st pts) (l : pts.length < 200) {og n h : Nat} {p : Pt} {D : Deed} {rs : List Row} (hp : pts[og]? = some p) (ok : D.okL) (e : D.rw p.cs = some rs) : WF (st.set n pts.length) (pts ++ [⟨og, h, some D, rep p.cs (rN rs), rs⟩]) :=
  ⟨W.wp.do_ l hp ok e, fun s hs => by
    rw [List.length_append, List.length_singleton]
    rcases List.mem_or_eq_of_mem_set hs with hs | hs
    · have := W.sb s hs
      omega
    · omega, by rw [List.length_set]; exact W.sl⟩
theorem WF.go_ {st : List Nat} {pts : List Pt} (W : WF st pts) {n m : Nat} (hm : m < pts.length) : WF (st.set n m) pts :=
  ⟨W.wp, fun s hs => by
    rcases List.mem_or_eq_of_mem_set hs with hs | hs
    · exact W.sb s hs
    · omega, by rw [List.length_set]; exact W.sl⟩
theorem WF.init {n : Nat} (h : n ≤ 4) : WF (List.replicate n 0) [pt0] :=
  ⟨⟨rfl, fun i p hp h0 => by
    have := (List.getElem?_eq_some_iff.mp hp).1
    simp at this
    omega, fun p hp => by
    rw [List.mem_singleton.mp hp]
    exact ⟨List.nodup_nil, fun _ h => (by cases h), fun _ h => (by cases h)⟩, by show 1 ≤ 200; decide⟩, fun s hs => by
    rw [List.eq_of_mem_replicate hs]
    show 0 < 1
    decide, by rw [List.length_replicate]; exact h⟩
/-! ### a new tree -/
def spTree (K : PySem.W.Frag) (C CP CH : Addr) : Sp := fun vs H Q E => ∃ (t dx : Addr) (h : Int) (M : List Addr), vs = [.ref t, .int h] ∧ H t = some (.ins C dx []) ∧ MutL M H ∧
  ((∃ n : Nat, h = n ∧ 1 ≤ n ∧ n ≤ 4 ∧ ∀ (ls lp : Addr) (H' : Hp), H ls = none → H lp = none → (∀ c o, H c = some o → c ≠ t → H' c = some o) → TreeA K C CP (ls :: lp :: M) H' t ls lp (List.replicate n 0) [pt0] → Q .non H') ∨
   ((h < 1 ∨ 4 < h) ∧ Bnd h ∧ ∀ H', Same H H' → E (.ref CH) none H'))
theorem ok_Tree_init {f C CP CH : Addr} {fd : FuncData} (F : Fun K "__init__" "Tree.__init__" s_Tree___init__ f fd) (B : Bt mg) (T : TrF K C CP) (g_MOST_HANDS : GInt mg "MOST_HANDS" 4) (e_NoHand : ExcF K mg "NoHand" CH) (C_Point : CK CX0 P w K mg base 1 CP "Point" ["self", "origin", "hand", "deed", "rows", "contents"] (spPoint CP)) :
    FnOk P w K mg base (L2N.CX P w) 3 f fd ["self", "hands"] (spTree K C CP CH) := by
  refine F.okN sc_Tree___init__ (fun vs H Q E h => ?_) (fun cdv A outer s H vs Q E hr h => ?_)
  · obtain ⟨t, dx, h, M, rfl, _⟩ := h
    rfl
  obtain ⟨t, dx, h, M, rfl, ht, mu, h2⟩ := h
  have l1 : ("no tree has so many hands: " : Str).length = 27 := by decide +kernel
  refine ⟨_, (pss_cons (ps_if (PW.pt (pw_or (pt_cmpR op_lt (pv 1) pe_int (nomark _)) (pw_or1 (pt_cmpR op_gt (pv 1) (pe_gi g_MOST_HANDS (by rfl)) (nomark _))))) (pss_one (L2N.ps_raise rfl (L2N.takes_of rfl rfl rfl rfl) (pmk_x e_NoHand (by rfl) (pe_joined (.cons pe_str (.cons (pe_fmt (pv 1)) .nil)))))) pss_nil)
      (pss_cons (ps_fld (pv 0) (pe_op op_rep (pe_lst (pa_cons pe_int pa_nil)) (pv 1)) rfl)
      (pss_one (ps_fld (pv 0) (pe_lst (pa_cons (pk_c C_Point (hr.mono (by first | exact Nat.le_refl _ | decide | omega)) (by rfl) (pa_cons pe_non (pa_cons pe_non (pa_cons pe_non (pa_cons (pe_lst pa_nil) (pa_cons pe_dnewK pa_nil)))))) pa_nil)) rfl)))), ?_⟩
  rcases h2 with ⟨n, rfl, h1, h4, kk⟩ | ⟨bad, ⟨b1, b2⟩, kx⟩
  · refine ⟨_, rfl, _, _, rfl, rfl, _, rfl, ?_⟩
    rw [show decide ((n : Int) < 1) = false from decide_eq_false (by omega)]
    refine iteF ⟨_, rfl, _, _, rfl, rfl, _, rfl, ?_⟩
    rw [show decide ((4 : Int) < (n : Int)) = false from decide_eq_false (by omega)]
    refine iteF ⟨small (by show 1 ≤ 1000; decide), fun l hl => ⟨_, rfl, l, (n : Int), _, rfl, rfl, upd_same, by omega, by omega, ?_, fun ls hls => ?_⟩⟩
    · show 1 * (n : Int).toNat ≤ sizeLine
      exact small (by omega)
    have s0 : Same H (upd H l (.lst [.int 0])) := same_new hl _
    generalize upd H l (.lst [.int 0]) = H0 at s0 hls ⊢
    have e0 : (List.replicate (n : Int).toNat [V.int 0]).flatten = nI (List.replicate n 0) := by
      unfold nI
      rw [List.flatten_replicate_singleton, List.map_replicate]
      rfl
    rw [e0]
    have s1 : Same H (upd H0 ls (.lst (nI (List.replicate n 0)))) := s0.trans (same_new hls _)
    have g1 : upd H0 ls (.lst (nI (List.replicate n 0))) ls = some (.lst (nI (List.replicate n 0))) := upd_same
    have hlsH := s0.free hls
    generalize upd H0 ls (.lst (nI (List.replicate n 0))) = H1 at s1 g1 ⊢
    refine ⟨_, rfl, t, C, dx, _, rfl, s1 _ _ ht, T.cl, T.nS, (by show 0 < 1000; decide), ?_⟩
    have nt : t ≠ ls := ne_of_none ht hlsH
    have k2 : ∀ c o, H c = some o → c ≠ t → upd H1 t (.ins C dx (putF "stands" (.ref ls) [])) c = some o := fun c o z n => by rw [upd_ne n]; exact s1 _ _ z
    have t2 : upd H1 t (.ins C dx (putF "stands" (.ref ls) [])) t = some (.ins C dx (putF "stands" (.ref ls) [])) := upd_same
    have g2 : upd H1 t (.ins C dx (putF "stands" (.ref ls) [])) ls = some (.lst (nI (List.replicate n 0))) := by rw [upd_ne nt.symm]; exact g1
    generalize upd H1 t (.ins C dx (putF "stands" (.ref ls) [])) = H2 at k2 t2 g2 ⊢
    refine ⟨small (by decide), fun rl hrl => fun d0 hd0 => fun x dz nx ndx nex => ?_⟩
    refine ⟨x, dz, _, _, _, _, _, rfl, upd_same, fun H6 hx6 k6 => ⟨rfl, small (by show 1 ≤ 1000; decide), fun lp hlp => ?_⟩⟩
    have s3 : Same H2 (upd H2 rl (.lst [])) := same_new hrl _
    have s4 : Same H2 (upd (upd H2 rl (.lst [])) d0 (.dK [])) := s3.trans (same_new hd0 _)
    have d4 : upd (upd H2 rl (.lst [])) d0 (.dK []) d0 = some (.dK []) := upd_same
    have r4 : upd (upd H2 rl (.lst [])) d0 (.dK []) rl = some (.lst []) := same_new hd0 _ _ _ upd_same
    have s46 : Same (upd (upd H2 rl (.lst [])) d0 (.dK [])) H6 := fun c o z => k6 c o (by rw [upd_ne (ne_of_none z nx), upd_ne (ne_of_none z ndx)]; exact z) (ne_of_none z nx)
    have s26 := s4.trans s46
    have d6 := s46 _ _ d4
    have r6 := s46 _ _ r4
    have s67 : Same H6 (upd H6 lp (.lst [.ref x])) := same_new hlp _
    have g7 : upd H6 lp (.lst [.ref x]) lp = some (.lst [.ref x]) := upd_same
    have ntp : t ≠ lp := ne_of_none (s26 _ _ t2) hlp
    have nlp : ls ≠ lp := ne_of_none (s26 _ _ g2) hlp
    have nrp : rl ≠ lp := ne_of_none r6 hlp
    have nrl : rl ≠ ls := (ne_of_none g2 hrl).symm
    have s27 := s26.trans s67
    have x7 := s67 _ _ hx6
    have d7 := s67 _ _ d6
    have r7 := s67 _ _ r6
    generalize upd H6 lp (.lst [.ref x]) = H7 at s67 g7 s27 x7 d7 r7 ⊢
    have t7 := s27 _ _ t2
    refine ⟨_, rfl, t, C, dx, _, rfl, t7, T.cl, T.nP, Nat.lt_of_le_of_lt (lp1 (Nat.le_refl 0)) (by decide), ?_⟩
    have kl : ∀ {c : Addr} {o : HO}, H7 c = some o → c ≠ t → upd H7 t (.ins C dx (ft (.ref ls) (.ref lp))) c = some o := fun z n => by rw [upd_ne n]; exact z
    have nxt : x ≠ t := (ne_of_none (s4 _ _ t2) nx).symm
    have ndt : d0 ≠ t := ne_of d7 t7 fun z => by cases z
    have nrt : rl ≠ t := ne_of r7 t7 fun z => by cases z
    have fr : ∀ {c : Addr}, c ≠ t → H2 c = none → H c = none := fun {c} n z => by
      cases e : H c with
      | none => rfl
      | some o =>
        rw [k2 c o e n] at z
        cases z
    have hrl0 := fr nrt hrl
    have mt : t ∉ M := mu.obj ht (fun _ z => by cases z) fun _ z => by cases z
    have kH : ∀ c o, H c = some o → c ≠ t → upd H7 t (.ins C dx (ft (.ref ls) (.ref lp))) c = some o := fun c o z n => by
      rw [upd_ne n]
      exact s27 _ _ (k2 c o z n)
    have mu2 : MutL M (upd H7 t (.ins C dx (ft (.ref ls) (.ref lp)))) := fun m hm => by
      have n : m ≠ t := fun e => mt (e ▸ hm)
      rcases mu m hm with ⟨xs, h⟩ | ⟨ps, h⟩
      · exact .inl ⟨xs, kH _ _ h n⟩
      · exact .inr ⟨ps, kH _ _ h n⟩
    refine kk ls lp _ hlsH ?_ kH ⟨⟨dx, upd_same⟩, kl (s27 _ _ g2) nt.symm, ⟨[.ref x], kl g7 ntp.symm, ⟨x, dz, .non, rl, d0, [], [], rfl, kl x7 nxt, rfl, kl d7 ndt, trivial, kl r7 nrt, trivial, ?_⟩, trivial⟩, nlp, (mu2.cons (kl g7 ntp.symm)).cons (kl (s27 _ _ g2) nt.symm), List.mem_cons_self, List.mem_cons_of_mem _ List.mem_cons_self⟩
    · cases z : H lp with
      | none => rfl
      | some o =>
        by_cases q : lp = t
        · exact absurd q ntp.symm
        · have h := s26 _ _ (k2 lp o z q)
          rw [hlp] at h
          cases h
    · intro z
      rcases List.mem_cons.mp z with z | z
      · exact nrl z
      · rcases List.mem_cons.mp z with z | z
        · exact nrp z
        · exact mu.none hrl0 z
  · have rz : tJs [tC (V.str "no tree has so many hands: "), tFmt (tVar 1)] Str.empty (L2.start ["self", "hands"] [V.ref t, V.int h]) H fun _ H1 => E (.ref CH) none H1 := by
      refine ⟨_, rfl, small (by decide), _, rfl, .inr ⟨_, rfl, log_num b1 b2, ?_⟩⟩
      refine ⟨_, rfl, ?_, kx H (.refl _)⟩
      have := slen_num9 b1 b2
      rw [slen_app, slen_app, slen_empty, l1, sizeLine_eq]
      omega
    refine ⟨_, rfl, _, _, rfl, rfl, _, rfl, ?_⟩
    by_cases hz : h < 1
    · rw [decide_eq_true hz]
      exact iteT rz
    · rw [decide_eq_false hz]
      refine iteF ⟨_, rfl, _, _, rfl, rfl, _, rfl, ?_⟩
      rw [show decide (4 < h) = true from decide_eq_true (by rcases bad with z | z <;> omega)]
      exact iteT rz
end
end U

namespace U
open PySem L2 PyProof.Rows
section
variable {P : Program} {w : World} {K : PySem.W.Frag} {mg : Str → Option Value} {base : Heap}
/-! ### deeds that are refused whatever the table holds, as texts -/
inductive RDeed
  | set (s l : List Nat)
  | swap (s t : List Nat)
  | fill (s : List Nat) (n : Int)
def RDeed.vs : RDeed → List V
  | .set s l => [.str "set", .str (SX.S s), .str (SX.S l)]
  | .swap s t => [.str "swap", .str (SX.S s), .str (SX.S t)]
  | .fill s n => [.str "fill", .str (SX.S s), .int n]
def RDA (K : PySem.W.Frag) (H : Hp) (R : RDeed) (v : V) : Prop := ∃ a, v = .ref a ∧ SqT K H a R.vs
inductive Rfk
  | cell
  | formula
  | off
def Rfk.cls (CN CB CF : Addr) : Rfk → Addr
  | .cell => CN
  | .formula => CB
  | .off => CF
def fillOff (s : List Nat) (n : Int) : Prop := n < 1 ∨ ∃ c : Cel, s = c.l ∧ 9 ≤ (c.r : Int) + n
def RDeed.refd : RDeed → Rfk → Prop
  | .set s _, .cell => isCelL s = false
  | .set s l, .formula => isCelL s = true ∧ rd l = none
  | .swap s t, .cell => isCelL s = false ∨ isCelL t = false
  | .fill s _, .cell => isCelL s = false
  | .fill s n, .off => isCelL s = true ∧ fillOff s n
  | _, _ => False
def RDeed.sm : RDeed → Prop
  | .set s l => s.length ≤ 5000000 ∧ l.length ≤ 10000000
  | .swap s t => s.length ≤ 5000000 ∧ t.length ≤ 5000000
  | .fill s n => s.length ≤ 5000000 ∧ -1000000000 < n ∧ n < 1000000000
def spCheckR (K : PySem.W.Frag) (CN CB CF : Addr) : Sp := fun vs H _ E => ∃ (R : RDeed) (v : V) (k : Rfk), vs = [v] ∧ RDA K H R v ∧ R.sm ∧ R.refd k ∧ ∀ H', Same H H' → E (.ref (k.cls CN CB CF)) none H'
theorem ok_checkR {f CN CB CF : Addr} {fd : FuncData} (F : Fun K "check" "check" s_check f fd) (B : Bt mg) (e_NoCell : ExcF K mg "NoCell" CN) (e_OffTable : ExcF K mg "OffTable" CF) (C_is_cell : Cal P w K mg base 15 "is_cell" ["text"] spIsCell) (C_read : CalX P w K mg base 15 "read" ["text"] (spRead K CB)) (C_shifted : CalX P w K mg base 15 "shifted" ["cell", "rows"] (spShifted CN)) :
    FnOk P w K mg base (L2N.CX P w) 16 f fd ["deed"] (spCheckR K CN CB CF) := by
  refine F.okN sc_check (fun vs H Q E h => ?_) (fun cdv A outer s H vs Q E hr h => ?_)
  · obtain ⟨R, v, k, rfl, _⟩ := h
    rfl
  obtain ⟨R, v, k, rfl, ⟨a, rfl, hT⟩, sm, rf, kx⟩ := h
  refine ⟨_, (pss_cons (ps_asg (pv 0) (pg_tup (by rfl) (pgs_cons (pg_name (i := 1) sc_check.nd rfl (Or.inl rfl)) (pgs_cons (pg_name (i := 2) sc_check.nd rfl (Or.inl rfl)) (pgs_cons (pg_name (i := 3) sc_check.nd rfl (Or.inl rfl)) pgs_nil)))))
      (pss_cons (ps_if (pt_not (pt_val (pc_c C_is_cell (hr.mono (by first | exact Nat.le_refl _ | decide | omega)) (by rfl) (pa_cons (pv 2) pa_nil)))) (pss_one (L2N.ps_raise rfl (L2N.takes_of rfl rfl rfl rfl) (pmk_x e_NoCell (by rfl) (pe_joined (.cons pe_str (.cons (pe_fmt (pv 2)) .nil)))))) pss_nil)
      (pss_one (ps_if (pt_cmpR op_eq (pv 1) pe_str (nomark _)) (pss_one (ps_expr (pc_x C_read (hr.mono (by first | exact Nat.le_refl _ | decide | omega)) (by rfl) (L2N.passes_call (L2N.takes_of rfl rfl rfl rfl) (fun _ _ _ _ h => h)) (pa_cons (pv 3) pa_nil)))) (pss_one (ps_if (pt_cmpR op_eq (pv 1) pe_str (nomark _)) (pss_one (ps_if (pt_not (pt_val (pc_c C_is_cell (hr.mono (by first | exact Nat.le_refl _ | decide | omega)) (by rfl) (pa_cons (pv 3) pa_nil)))) (pss_one (L2N.ps_raise rfl (L2N.takes_of rfl rfl rfl rfl) (pmk_x e_NoCell (by rfl) (pe_joined (.cons pe_str (.cons (pe_fmt (pv 3)) .nil)))))) pss_nil)) (pss_one (ps_if (PW.pt (pw_or (pt_cmpR op_lt (pv 3) pe_int (nomark _)) (pw_or1 (pt_cmpR op_eq (pc_x C_shifted (hr.mono (by first | exact Nat.le_refl _ | decide | omega)) (by rfl) (L2N.passes_call (L2N.takes_of rfl rfl rfl rfl) (fun _ _ _ _ h => h)) (pa_cons (pv 2) (pa_cons (pv 3) pa_nil))) pe_str (nomark _))))) (pss_one (L2N.ps_raise rfl (L2N.takes_of rfl rfl rfl rfl) (pmk_x e_OffTable (by rfl) (pe_joined (.cons pe_str (.cons (pe_fmt (pv 3)) (.cons pe_str (.cons (pe_fmt (pv 2)) .nil)))))))) pss_nil)))))))), ?_⟩
  have nc : ∀ s : List Nat, s.length ≤ 5000000 → ((Str.empty ++ ("no cell: " : Str)) ++ SX.S s).length ≤ sizeLine := fun s hs => by
    rw [show (Str.empty ++ ("no cell: " : Str)) = SX.S [110, 111, 32, 99, 101, 108, 108, 58, 32] by decide +kernel, S_app, S_length, List.length_append, sizeLine_eq]
    simp only [List.length_cons, List.length_nil]
    omega
  cases R with
  | set s l =>
    obtain ⟨h1, h2⟩ := sm
    refine ⟨_, rfl, a, _, rfl, hT, rfl, _, _, rfl, _, _, rfl, _, _, rfl, rfl, ?_⟩
    refine ⟨_, rfl, s, rfl, by rw [sizeLine_eq]; omega, _, rfl, ?_⟩
    cases q : isCelL s with
    | false =>
      refine iteT ⟨_, rfl, small (by decide), _, rfl, .inl ⟨_, rfl, by rw [S_length, sizeLine_eq]; omega, _, rfl, nc s h1, ?_⟩⟩
      cases k with
      | cell => exact kx H (.refl _)
      | formula => rw [rf.1] at q; cases q
      | off => exact rf.elim
    | true =>
      cases k with
      | cell => rw [show isCelL s = false from rf] at q; cases q
      | formula => exact iteF ⟨_, rfl, rfl, _, rfl, iteT ⟨_, rfl, l, rfl, h2, (fun o' ho => absurd (rf.2.symm.trans ho) (by simp)), fun _ H' s' => kx H' s'⟩⟩
      | off => exact rf.elim
  | swap s t =>
    obtain ⟨h1, h2⟩ := sm
    refine ⟨_, rfl, a, _, rfl, hT, rfl, _, _, rfl, _, _, rfl, _, _, rfl, rfl, ?_⟩
    refine ⟨_, rfl, s, rfl, by rw [sizeLine_eq]; omega, _, rfl, ?_⟩
    cases k with
    | cell =>
      cases q : isCelL s with
      | false => exact iteT ⟨_, rfl, small (by decide), _, rfl, .inl ⟨_, rfl, by rw [S_length, sizeLine_eq]; omega, _, rfl, nc s h1, kx H (.refl _)⟩⟩
      | true =>
        have q2 : isCelL t = false := rf.resolve_left (by rw [q]; simp)
        refine iteF ⟨_, rfl, rfl, _, rfl, iteF ⟨_, rfl, rfl, _, rfl, iteT ⟨_, rfl, t, rfl, by rw [sizeLine_eq]; omega, _, rfl, ?_⟩⟩⟩
        rw [q2]
        exact iteT ⟨_, rfl, small (by decide), _, rfl, .inl ⟨_, rfl, by rw [S_length, sizeLine_eq]; omega, _, rfl, nc t h2, kx H (.refl _)⟩⟩
    | formula => exact rf.elim
    | off => exact rf.elim
  | fill s n =>
    obtain ⟨h1, h2, h3⟩ := sm
    refine ⟨_, rfl, a, _, rfl, hT, rfl, _, _, rfl, _, _, rfl, _, _, rfl, rfl, ?_⟩
    refine ⟨_, rfl, s, rfl, by rw [sizeLine_eq]; omega, _, rfl, ?_⟩
    cases k with
    | cell =>
      rw [show isCelL s = false from rf]
      exact iteT ⟨_, rfl, small (by decide), _, rfl, .inl ⟨_, rfl, by rw [S_length, sizeLine_eq]; omega, _, rfl, nc s h1, kx H (.refl _)⟩⟩
    | formula => exact rf.elim
    | off =>
      obtain ⟨q, fo⟩ := rf
      obtain ⟨c, rfl⟩ := isCelL_iff q
      rw [is_celL]
      have l7 := slen_num9 (n := n) (by omega) (by omega)
      have l1 : ("no " : Str).length = 3 := by decide +kernel
      have l2 : (" cells to fill below " : Str).length = 21 := by decide +kernel
      have l3 := c.len
      have fin : ∀ H', Same H H' → _ := kx
      refine iteF ⟨_, rfl, rfl, _, rfl, iteF ⟨_, rfl, rfl, _, rfl, iteF ⟨_, rfl, _, _, rfl, rfl, _, rfl, ?_⟩⟩⟩
      by_cases z : n < 1
      · rw [decide_eq_true z]
        refine iteT (iteT ⟨_, rfl, small (by decide), _, rfl, .inr ⟨_, rfl, log_num (by omega) (by omega), ?_⟩⟩)
        refine ⟨_, rfl, ?_, _, rfl, ?_, _, rfl, .inl ⟨_, rfl, small (by show c.s.length ≤ 1000; rw [l3]; decide), _, rfl, ?_, kx H (.refl _)⟩⟩
        · rw [slen_app, slen_app, slen_empty, l1, sizeLine_eq]
          omega
        · rw [slen_app, slen_app, slen_app, slen_empty, l1, l2, sizeLine_eq]
          omega
        · show (_ ++ c.s).length ≤ _
          rw [slen_app, slen_app, slen_app, slen_app, slen_empty, l1, l2, l3, sizeLine_eq]
          omega
      · rw [decide_eq_false z]
        obtain ⟨c2, e2, o9⟩ := fo.resolve_left z
        obtain rfl := Cel.l_inj e2
        refine iteF ⟨_, rfl, _, rfl, c.l, n, rfl, (by show 2 ≤ 10000000; decide), fun c' hc' H1 s1 => ⟨fun d dc dr => ?_, fun off => ?_⟩, fun h => ?_⟩
        · exfalso
          obtain rfl := Cel.l_inj hc'
          have := d.hr
          omega
        · refine ⟨rfl, _, rfl, ?_⟩
          rw [show decide (V.str (SX.S []) = V.str "") = true by decide +kernel]
          refine iteT ⟨_, rfl, small (by decide), _, rfl, .inr ⟨_, rfl, log_num (by omega) (by omega), ?_⟩⟩
          refine ⟨_, rfl, ?_, _, rfl, ?_, _, rfl, .inl ⟨_, rfl, small (by show c.s.length ≤ 1000; rw [l3]; decide), _, rfl, ?_, kx H1 s1⟩⟩
          · rw [slen_app, slen_app, slen_empty, l1, sizeLine_eq]
            omega
          · rw [slen_app, slen_app, slen_app, slen_empty, l1, l2, sizeLine_eq]
            omega
          · show (_ ++ c.s).length ≤ _
            rw [slen_app, slen_app, slen_app, slen_app, slen_empty, l1, l2, l3, sizeLine_eq]
            omega
        · rw [is_celL] at h
          cases h
def spNewerR (K : PySem.W.Frag) (CN CB CF : Addr) : Sp := fun vs H _ E => ∃ (d : V) (R : RDeed) (v : V) (k : Rfk), vs = [d, v] ∧ RDA K H R v ∧ R.sm ∧ R.refd k ∧ ∀ H', Same H H' → E (.ref (k.cls CN CB CF)) none H'
theorem ok_newerR {f CN CB CF : Addr} {fd : FuncData} (F : Fun K "newer_contents" "newer_contents" s_newer_contents f fd) (B : Bt mg) (C_check : CalX P w K mg base 17 "check" ["deed"] (spCheckR K CN CB CF)) (C_read : CalX P w K mg base 17 "read" ["text"] (spRead K CB)) (C_shifted : CalX P w K mg base 17 "shifted" ["cell", "rows"] (spShifted CN)) (C_lowered : CalX P w K mg base 17 "lowered" ["content", "rows"] (spLowered K CF 6)) :
    FnOk P w K mg base (L2N.CX P w) 18 f fd ["contents", "deed"] (spNewerR K CN CB CF) := by
  refine F.okN sc_newer_contents (fun vs H Q E h => ?_) (fun cdv A outer s H vs Q E hr h => ?_)
  · obtain ⟨d, R, v, k, rfl, _⟩ := h
    rfl
  obtain ⟨d, R, v, k, rfl, ra, sm, rf, kx⟩ := h
  refine ⟨_, (pss_cons (ps_expr (pc_x C_check (hr.mono (by first | exact Nat.le_refl _ | decide | omega)) (by rfl) (L2N.passes_call (L2N.takes_of rfl rfl rfl rfl) (fun _ _ _ _ h => h)) (pa_cons (pv 1) pa_nil)))
      (pss_cons (ps_asg (pv 1) (pg_tup (by rfl) (pgs_cons (pg_name (i := 2) sc_newer_contents.nd rfl (Or.inl rfl)) (pgs_cons (pg_name (i := 3) sc_newer_contents.nd rfl (Or.inr rfl)) (pgs_cons (pg_name (i := 4) sc_newer_contents.nd rfl (Or.inl rfl)) pgs_nil)))))
      (pss_cons (ps_if (pt_cmpR op_eq (pv 2) pe_str (nomark _)) (pss_one (ps_ret (pe_disp (pps_cons (pv 3) (pc_x C_read (hr.mono (by first | exact Nat.le_refl _ | decide | omega)) (by rfl) (L2N.passes_call (L2N.takes_of rfl rfl rfl rfl) (fun _ _ _ _ h => h)) (pa_cons (pv 4) pa_nil)) pps_nil) (by rfl) (by rfl) (by intro z; cases z) (by decide)))) pss_nil)
      (pss_cons (ps_if (pt_cmpR op_eq (pv 2) pe_str (nomark _)) (pss_one (ps_ret (pe_disp (pps_cons (pv 3) (pe_dget1 (hu_of hr) (pv 0) (pv 4) ⟨rfl, rfl, rfl, rfl⟩) (pps_cons (pv 4) (pe_dget1 (hu_of hr) (pv 0) (pv 3) ⟨rfl, rfl, rfl, rfl⟩) pps_nil)) (by rfl) (by rfl) (by intro z; cases z) (by decide)))) pss_nil)
      (pss_cons (ps_set (i := 5) sc_newer_contents.nd rfl (Or.inr rfl) (pe_dget1 (hu_of hr) (pv 0) (pv 3) ⟨rfl, rfl, rfl, rfl⟩))
      (pss_one (ps_ret (pe_dcX (own := [("rows", 6)])  rfl rfl rfl (L2N.takes_of rfl rfl rfl rfl) sc_newer_contents.nd (pi_range2 (by rfl) B.range (pa_cons pe_int (pa_cons (pe_op op_add (pv 4) pe_int) pa_nil))) (blkOk_by (N := ["contents", "deed", "word", "cell", "third", "copied", "rows"]) (sc := defScope s_newer_contents) (by decide +kernel)) (fun _ _ _ _ _ => pg_name (i := 6) sc_newer_contents.nd rfl (Or.inl rfl)) (fun _ _ _ _ _ => pts_nil) (fun _ _ _ _ _ => (pc_x C_shifted (hr.mono (by first | exact Nat.le_refl _ | decide | omega)) (by rfl) passX0 (pa_cons (pv 3) (pa_cons (pv 6) pa_nil)))) (fun _ _ _ _ _ _ px => (pc_x C_lowered (hr.mono (by first | exact Nat.le_refl _ | decide | omega)) (by rfl) px (pa_cons (pv 5) (pa_cons (pv 6) pa_nil)))))))))))), ?_⟩
  exact ⟨_, rfl, R, v, k, rfl, ra, sm, rf, fun H' s' => kx H' s'⟩
theorem ok_changesR {f CN CB CF : Addr} {fd : FuncData} (F : Fun K "changes" "changes" s_changes f fd) (B : Bt mg) (C_newer_contents : CalX P w K mg base 18 "newer_contents" ["contents", "deed"] (spNewerR K CN CB CF)) : FnOk P w K mg base (L2N.CX P w) 19 f fd ["contents", "deed"] (spNewerR K CN CB CF) := by
  refine F.okN sc_changes (fun vs H Q E h => ?_) (fun cdv A outer s H vs Q E hr h => ?_)
  · obtain ⟨d, R, v, k, rfl, _⟩ := h
    rfl
  obtain ⟨d, R, v, k, rfl, ra, sm, rf, kx⟩ := h
  have hu := hu_of hr
  refine ⟨_, (pss_cons (ps_set (i := 2) sc_changes.nd rfl (Or.inr rfl) (pc_x C_newer_contents (hr.mono (by first | exact Nat.le_refl _ | decide | omega)) (by rfl) (L2N.passes_call (L2N.takes_of rfl rfl rfl rfl) (fun _ _ _ _ h => h)) (pa_cons (pv 0) (pa_cons (pv 1) pa_nil))))
      (pss_one (ps_ret (pe_lc (own := [("cell", 3)])  rfl sc_changes.nd (pi_list (pe_callB (call_sortedD rfl) (by rfl) B.sorted boot_sorted (pa_cons (pv 2) pa_nil))) (blkOk_by (N := ["contents", "deed", "newer", "cell"]) (sc := defScope s_changes) (by decide +kernel)) (fun _ _ _ _ _ => pg_name (i := 3) sc_changes.nd rfl (Or.inl rfl)) (fun _ _ _ _ _ => (pts_one (pt_cmpR (op_neD_K (K := K) hr.units rfl) (pe_dget1 (hu_of hr) (pv 0) (pv 3) ⟨rfl, rfl, rfl, rfl⟩) (pe_dget hu (pv 2) (pv 3) (fun _ _ => rfl)) (nomark _)))) (fun _ _ _ _ _ => (pe_tup (pa_cons (pv 3) (pa_cons (pe_dget1 (hu_of hr) (pv 0) (pv 3) ⟨rfl, rfl, rfl, rfl⟩) (pa_cons (pe_dget hu (pv 2) (pv 3) (fun _ _ => rfl)) pa_nil))))))))), ?_⟩
  exact ⟨_, rfl, _, rfl, d, R, v, k, rfl, ra, sm, rf, fun H' s' => kx H' s'⟩
end
end U

namespace U
open PySem L2 PyProof.Rows
section
variable {P : Program} {w : World} {K : PySem.W.Frag} {mg : Str → Option Value} {base : Heap}
/-! ### do, of a deed that is refused -/
def spDoR (K : PySem.W.Frag) (C CP CN CB CF : Addr) : Sp := fun vs H _ E => ∃ (M : List Addr) (t ls lp : Addr) (st : List Nat) (pts : List Pt) (n og : Nat) (p : Pt) (R : RDeed) (v : V) (k : Rfk), vs = [.ref t, .int (n : Int), v] ∧ TreeA K C CP M H t ls lp st pts ∧ st[n]? = some og ∧ pts[og]? = some p ∧ RDA K H R v ∧ R.sm ∧ R.refd k ∧ ∀ H', Same H H' → E (.ref (k.cls CN CB CF)) none H'
theorem ok_doR {f C CP CN CB CF CH : Addr} {fd : FuncData} (F : Fun K "do" "Tree.do" s_Tree_do f fd) (B : Bt mg) (T : TrF K C CP) (C_check_hand : CM (L2N.CX P w) P w K mg base 19 C "check_hand" ["self", "hand"] (spCheckH K C CP CH)) (C_changes : CalX P w K mg base 19 "changes" ["contents", "deed"] (spNewerR K CN CB CF)) (C_replaced : Cal P w K mg base 19 "replaced" ["contents", "newer"] (spReplaced K))
    (C_Point : CK CX0 P w K mg base 18 CP "Point" ["self", "origin", "hand", "deed", "rows", "contents"] (spPoint CP)) : FnOk P w K mg base (L2N.CX P w) 20 f fd ["self", "hand", "deed"] (spDoR K C CP CN CB CF) := by
  refine F.okN sc_Tree_do (fun vs H Q E h => ?_) (fun cdv A outer s H vs Q E hr h => ?_)
  · obtain ⟨M, t, ls, lp, st, pts, n, og, p, R, v, k, rfl, _⟩ := h
    rfl
  obtain ⟨M, t, ls, lp, st, pts, h, og, p, R, v, k, rfl, TA, hs, hp, ra, sm, rf, kx⟩ := h
  obtain ⟨dx, ht⟩ := TA.ob
  obtain ⟨pvs, hlp, pa⟩ := TA.hp
  refine ⟨_, (pss_cons (ps_expr (pm_x C_check_hand (hr.mono (by first | exact Nat.le_refl _ | decide | omega)) (L2N.passes_call (L2N.takes_of rfl rfl rfl rfl) (fun _ _ _ _ h => h)) (pv 0) (pa_cons (pv 1) pa_nil)))
      (pss_cons (ps_set (i := 3) sc_Tree_do.nd rfl (Or.inl rfl) (pe_ix ix_list (pe_fld (pv 0) rfl) (pv 1) (fun _ _ => rfl)))
      (pss_cons (ps_set (i := 4) sc_Tree_do.nd rfl (Or.inl rfl) (pe_fld (pe_ix ix_list (pe_fld (pv 0) rfl) (pv 3) (fun _ _ => rfl)) rfl))
      (pss_cons (ps_set (i := 5) sc_Tree_do.nd rfl (Or.inl rfl) (pc_x C_changes (hr.mono (by first | exact Nat.le_refl _ | decide | omega)) (by rfl) (L2N.passes_call (L2N.takes_of rfl rfl rfl rfl) (fun _ _ _ _ h => h)) (pa_cons (pv 4) (pa_cons (pv 2) pa_nil))))
      (pss_cons (ps_set (i := 6) sc_Tree_do.nd rfl (Or.inl rfl) (pc_c C_replaced (hr.mono (by first | exact Nat.le_refl _ | decide | omega)) (by rfl) (pa_cons (pv 4) (pa_cons (pe_dc (own := [("row", 7)])  rfl sc_Tree_do.nd (pi_list (pv 5)) (blkOk_by (N := ["self", "hand", "deed", "origin", "contents", "rows", "newer", "row"]) (sc := defScope s_Tree_do) (by decide +kernel)) (fun _ _ _ _ _ => pg_name (i := 7) sc_Tree_do.nd rfl (Or.inl rfl)) (fun _ _ _ _ _ => pts_nil) (fun _ _ _ _ _ => (pe_ix (ix_tupK (K := K) rfl) (pv 7) pe_int (fun _ _ => rfl))) (fun _ _ _ _ _ => (pe_ix (ix_tupK (K := K) rfl) (pv 7) pe_int (fun _ _ => rfl)))) pa_nil))))
      (pss_cons (ps_expr (pe_bm PySem.F.plainAttrs_list PySem.F.slot_list_append PySem.F.type_list_append mt_append (pe_fld (pv 0) rfl) (pa_cons (pk_c C_Point (hr.mono (by first | exact Nat.le_refl _ | decide | omega)) (by rfl) (pa_cons (pv 3) (pa_cons (pv 1) (pa_cons (pv 2) (pa_cons (pv 5) (pa_cons (pv 6) pa_nil)))))) pa_nil)))
      (pss_cons (ps_asg (pe_op op_sub (pe_callB call_len_seq (by rfl) B.len boot_len (pa_cons (pe_fld (pv 0) rfl) pa_nil)) pe_int) (pg_sub (pe_fld (pv 0) rfl) (pv 1) set_list))
      (pss_one (ps_ret (pe_ix ix_list (pe_fld (pv 0) rfl) (pv 1) (fun _ _ => rfl))))))))))), ?_⟩
  have hl : h < st.length := (List.getElem?_eq_some_iff.mp hs).1
  obtain ⟨pv, hv, a, dy, dv0, rl, ld, xs0, kvs, rfl, ha, hd, hk, al, hrl, hra, hnm⟩ := pa.at hp
  refine ⟨_, rfl, t, dx, _, rfl, ht, ft_no m_ch.1 m_ch.2, _, rfl, M, t, ls, lp, st, pts, _, rfl, TA, .inl ⟨h, rfl, hl, ?_⟩⟩
  refine ⟨_, rfl, t, C, dx, _, _, rfl, ht, T.cl, T.nS, ft_stands, _, rfl, ls, _, _, _, rfl, rfl, SqL.of TA.hs, at_st hs, ?_⟩
  refine ⟨_, rfl, t, C, dx, _, _, rfl, ht, T.cl, T.nP, ft_points, _, rfl, lp, _, _, _, rfl, rfl, SqL.of hlp, atI_nat hv, a, CP, dy, _, _, rfl, ha, T.cp, T.nc, fp_contents, ?_⟩
  exact ⟨_, rfl, _, rfl, _, R, v, k, rfl, ra, sm, rf, fun H' s' => kx H' s'⟩
theorem FnOk.or {CX : CXT} {k : Nat} {f : Addr} {fd : FuncData} {ps : List Str} {sp sp' : Sp} (F : FnOk P w K mg base CX k f fd ps sp) (G : FnOk P w K mg base CX k f fd ps sp') : FnOk P w K mg base CX k f fd ps (fun vs H Q E => sp vs H Q E ∨ sp' vs H Q E) :=
  ⟨fun vs H Q E q => q.elim (F.len vs H Q E) (G.len vs H Q E), fun A outer s H args us vs Q E hr he hb hv hs => hs.elim (F.run A outer s H args us vs Q E hr he hb hv) (G.run A outer s H args us vs Q E hr he hb hv)⟩
end
end U

namespace U
open PySem L2 PyProof.Rows
section
variable {P : Program} {w : World} {K : PySem.W.Frag} {mg : Str → Option Value} {base : Heap}
/-! ### the law's own rows of the points -/
/-- what the law's row tells of where a point comes from -/
structure OgL (p : Pt) (i : Int) : Prop where
  of : p.D.isSome = true → i = p.og
  no : p.D = none → i = -1
instance (p : Pt) (i : Int) : CoeFun (OgL p i) fun _ => p.D.isSome = true → i = p.og := ⟨fun h => h.of⟩
theorem OgL.mk' {p : Pt} {i : Int} (h : p.D.isSome = true) (e : i = p.og) : OgL p i := ⟨fun _ => e, fun z => by rw [z] at h; cases h⟩
def PtL (K : PySem.W.Frag) (M : List Addr) (H : Hp) (p : Pt) (v : V) : Prop := ∃ (lc : List (Str × Part)) (a : Addr) (i : Int) (dv : V) (ld rl : Addr) (kws : List (Key × V)) (xs : List V), v = .ref a ∧ SqT K H a [.int i, .ref ld, .ref rl, dv] ∧ OgL p i ∧ DaO K H p.D dv ∧ H ld = some (.dK kws) ∧ Al (PA K H) lc kws ∧ CsOk lc ∧ (∀ e ∈ lc, e.2.hgt ≤ 3) ∧ SameC p.cs lc ∧ H rl = some (.lst xs) ∧ RAs K H p.rs xs ∧ rl ∉ M
theorem PtL.km {M N : List Addr} {H H' : Hp} {p : Pt} {v : V} (k : KM N H H') (mu : MutL M H) (off : Off N M H) (h : PtL K M H p v) : PtL K M H' p v :=
  let ⟨lc, a, i, dv, ld, rl, kws, xs, e, h1, h2, h3, h4, h5, h6, h7, h8, h9, h10, h11⟩ := h
  have tk : Tk K H H' := k.tk mu off
  ⟨lc, a, i, dv, ld, rl, kws, xs, e, tk _ _ h1, h2, h3.tk tk, k.obj mu off h4 (fun _ z => by cases z) (fun _ z => by cases z), h5.mono fun _ _ q => PA.tk tk q, h6, h7, h8, k.off off h9 h11, h10.tk tk, h11⟩
theorem PtL.more {M : List Addr} {H : Hp} {q : Addr} {p : Pt} {v : V} (hq : H q = none) (h : PtL K M H p v) : PtL K (q :: M) H p v :=
  let ⟨lc, a, i, dv, ld, rl, kws, xs, e, h1, h2, h3, h4, h5, h6, h7, h8, h9, h10, h11⟩ := h
  ⟨lc, a, i, dv, ld, rl, kws, xs, e, h1, h2, h3, h4, h5, h6, h7, h8, h9, h10, fun z => by
    rcases List.mem_cons.mp z with z | z
    · rw [z, hq] at h9
      cases h9
    · exact h11 z⟩
def PtsL (K : PySem.W.Frag) (M : List Addr) (H : Hp) : List Pt → List V → Prop
  | [], [] => True
  | p :: ps, v :: vs => PtL K M H p v ∧ PtsL K M H ps vs
  | _, _ => False
theorem PtsL.map {M M' : List Addr} {H H' : Hp} (f : ∀ p v, PtL K M H p v → PtL K M' H' p v) : ∀ {ps : List Pt} {vs : List V}, PtsL K M H ps vs → PtsL K M' H' ps vs
  | [], [], _ => trivial
  | _ :: _, _ :: _, h => ⟨f _ _ h.1, PtsL.map f h.2⟩
theorem PtsL.km {M N : List Addr} {H H' : Hp} (k : KM N H H') (mu : MutL M H) (off : Off N M H) {ps : List Pt} {vs : List V} (h : PtsL K M H ps vs) : PtsL K M H' ps vs := h.map fun _ _ q => q.km k mu off
theorem PtsL.snoc {M : List Addr} {H : Hp} {p : Pt} {v : V} : ∀ {ps : List Pt} {vs : List V}, PtsL K M H ps vs → PtL K M H p v → PtsL K M H (ps ++ [p]) (vs ++ [v])
  | [], [], _, h => ⟨h, trivial⟩
  | _ :: _, _ :: _, q, h => ⟨q.1, PtsL.snoc q.2 h⟩
theorem PtsL.len {M : List Addr} {H : Hp} : ∀ {ps : List Pt} {vs : List V}, PtsL K M H ps vs → vs.length = ps.length
  | [], [], _ => rfl
  | _ :: _, _ :: _, h => by simp [PtsL.len h.2]
theorem PtsL.at {M : List Addr} {H : Hp} : ∀ {ps : List Pt} {vs : List V} {i : Nat} {p : Pt}, PtsL K M H ps vs → ps[i]? = some p → ∃ v, vs[i]? = some v ∧ PtL K M H p v
  | [], [], i, p, _, h => by simp at h
  | r :: _, v :: _, 0, p, q, h => by
    simp only [List.getElem?_cons_zero, Option.some.injEq] at h
    exact ⟨v, rfl, h ▸ q.1⟩
  | _ :: _, _ :: _, i + 1, p, q, h => PtsL.at (i := i) q.2 (by simpa using h)
/-- drawn contents are three deep -/
def G3P (pts : List Pt) : Prop := ∀ p ∈ pts, ∀ D, p.D = some D → goodC D.co 3
/-- all that a law holds beside its box -/
structure Lw (K : PySem.W.Frag) (C CP : Addr) (M : List Addr) (H : Hp) (t ls lp q pp : Addr) (st sp : List Nat) (pts : List Pt) (ys : List V) : Prop where
  TA : TreeA K C CP M H t ls lp st pts
  hq : H q = some (.lst ys)
  pl : PtsL K M H pts ys
  hp : H pp = some (.lst (nI sp))
  mq : q ∈ M
  mp : pp ∈ M
  nq : q ≠ ls ∧ q ≠ lp ∧ q ≠ pp
  np : pp ≠ ls ∧ pp ≠ lp
theorem Lw.km {C CP : Addr} {M N : List Addr} {H H' : Hp} {t ls lp q pp : Addr} {st sp : List Nat} {pts : List Pt} {ys : List V} (W : Lw K C CP M H t ls lp q pp st sp pts ys) (k : KM N H H') (off : Off N M H) (mN : MutL N H') (n1 : ls ∉ N) (n2 : lp ∉ N) (n3 : q ∉ N) (n4 : pp ∉ N) : Lw K C CP M H' t ls lp q pp st sp pts ys :=
  ⟨W.TA.km k off mN n1 n2, k _ _ W.hq n3, W.pl.km k W.TA.mu off, k _ _ W.hp n4, W.mq, W.mp, W.nq, W.np⟩
theorem Lw.same {C CP : Addr} {M : List Addr} {H H' : Hp} {t ls lp q pp : Addr} {st sp : List Nat} {pts : List Pt} {ys : List V} (W : Lw K C CP M H t ls lp q pp st sp pts ys) (s : Same H H') : Lw K C CP M H' t ls lp q pp st sp pts ys := W.km (KM.of (N := []) s) .nil (.nil _) (by simp) (by simp) (by simp) (by simp)
theorem Box.mut {H : Hp} {b l : Addr} (B : Box H b l) : MutL [b, l] H := by
  obtain ⟨z, ns, e1, e2, _⟩ := B.ex
  exact ((MutL.nil _).cons e2).cons e1
/-- the box beside what the law holds -/
structure Bx (H : Hp) (M : List Addr) (b l ls lp q pp : Addr) : Prop where
  B : Box H b l
  mb : b ∈ M
  ml : l ∈ M
  n1 : ls ≠ b ∧ ls ≠ l
  n2 : lp ≠ b ∧ lp ≠ l
  n3 : q ≠ b ∧ q ≠ l
  n4 : pp ≠ b ∧ pp ≠ l
theorem Bx.same {H H' : Hp} {M : List Addr} {b l ls lp q pp : Addr} (X : Bx H M b l ls lp q pp) (s : Same H H') : Bx H' M b l ls lp q pp := ⟨X.B.keep s, X.mb, X.ml, X.n1, X.n2, X.n3, X.n4⟩
theorem Bx.put {H H' : Hp} {M : List Addr} {b l ls lp q pp : Addr} (X : Bx H M b l ls lp q pp) (B : Box H' b l) : Bx H' M b l ls lp q pp := ⟨B, X.mb, X.ml, X.n1, X.n2, X.n3, X.n4⟩
theorem Bx.km {H H' : Hp} {N M : List Addr} {b l ls lp q pp : Addr} (X : Bx H M b l ls lp q pp) (k : KM N H H') (h1 : b ∉ N) (h2 : l ∉ N) : Bx H' M b l ls lp q pp := by
  obtain ⟨z, ns, e1, e2, e3⟩ := X.B.ex
  exact X.put ⟨z, ns, k _ _ e1 h1, k _ _ e2 h2, e3⟩
theorem Lw.bx {C CP : Addr} {M : List Addr} {H H' : Hp} {t ls lp q pp b l : Addr} {st sp : List Nat} {pts : List Pt} {ys : List V} (W : Lw K C CP M H t ls lp q pp st sp pts ys) (X : Bx H M b l ls lp q pp) (B : Box H' b l) (k : Keep b l H H') : Lw K C CP M H' t ls lp q pp st sp pts ys :=
  W.km k.km (.sub fun x hx => by
    simp at hx
    rcases hx with rfl | rfl
    · exact X.mb
    · exact X.ml) B.mut (by simp [X.n1]) (by simp [X.n2]) (by simp [X.n3]) (by simp [X.n4])
def spManyL (K : PySem.W.Frag) : Sp := fun vs H Q _ => ∃ (b l : Addr), vs = [.ref b] ∧ Box H b l ∧ ∀ (r : Int) (H' : Hp), 0 ≤ r → r ≤ 30 → Box H' b l → Keep b l H H' → Q (.int r) H'
theorem ok_lmany {f : Addr} {fd : FuncData} (F : Fun K "_law_many" "_law_many" s_l_many f fd) (B : Bt mg) (C_l_take : Cal P w K mg base 1 "_law_take" ["_law_box", "_law_many_here"] spTake) : FnOk P w K mg base CX0 2 f fd ["_law_box"] (spManyL K) := by
  refine F.ok sc_l_many (fun vs H Q E h => ?_) (fun cdv A outer s H vs Q E hr h => ?_)
  · obtain ⟨b, l, rfl, _⟩ := h
    rfl
  obtain ⟨b, l, rfl, BX, kk⟩ := h
  refine ⟨_, (pss_one (ps_ret (pe_ix ix_list (pe_lst (pa_cons (pc_c C_l_take (hr.mono (by first | exact Nat.le_refl _ | decide | omega)) (by rfl) (pa_cons (pv 0) (pa_cons pe_int pa_nil))) (pa_cons (pc_c C_l_take (hr.mono (by first | exact Nat.le_refl _ | decide | omega)) (by rfl) (pa_cons (pv 0) (pa_cons pe_int pa_nil))) pa_nil))) (pe_callTy call_int1 (by rfl) B.int boot_int (pa_cons (pe_cmpR op_eq (pc_c C_l_take (hr.mono (by first | exact Nat.le_refl _ | decide | omega)) (by rfl) (pa_cons (pv 0) (pa_cons pe_int pa_nil))) pe_int (nomark _)) pa_nil)) (fun _ _ => rfl)))), ?_⟩
  refine ⟨_, rfl, b, l, 9, rfl, BX, by decide, by decide, fun r1 H1 a1 b1 B1 K1 => ⟨_, rfl, b, l, 31, rfl, B1, by decide, by decide, fun r2 H2 a2 b2 B2 K2 => ⟨small (by show 2 ≤ 1000; decide), fun pl hpl => ?_⟩⟩⟩
  have npl := B2.new hpl
  have B3 := B2.keep (same_new hpl (.lst [V.int r1, V.int r2]))
  refine ⟨_, rfl, b, l, 8, rfl, B3, by decide, by decide, fun r3 H4 a3 b3 B4 K4 => ?_⟩
  have hp4 := K4 _ _ upd_same npl.1 npl.2
  have K14 := K1.trans (K2.trans ((Keep.of (same_new hpl _)).trans K4))
  have hcnt : ∃ cnt : Int, 0 ≤ cnt ∧ cnt ≤ 30 ∧ atI [V.int r1, V.int r2] (if decide (V.int r3 = V.int 1) = true then 1 else 0) = some (V.int cnt) := by
    by_cases z : decide (V.int r3 = V.int 1) = true
    · exact ⟨r2, a2, by omega, by rw [if_pos z]; rfl⟩
    · exact ⟨r1, a1, by omega, by rw [if_neg z]; rfl⟩
  obtain ⟨cnt, cn0, cn1, hcnt⟩ := hcnt
  exact ⟨rfl, .inr ⟨_, rfl, pl, _, _, .int cnt, rfl, rfl, SqL.of hp4, hcnt, kk cnt H4 cn0 cn1 B4 K14⟩⟩
def spTrailL (K : PySem.W.Frag) : Sp := fun vs H Q _ => ∃ (M : List Addr) (q : Addr) (ys : List V) (pts : List Pt) (n : Nat) (l : List Nat), vs = [.ref q, .int (n : Int)] ∧ H q = some (.lst ys) ∧ PtsL K M H pts ys ∧ WP pts ∧ n < pts.length ∧ Tr pts n l ∧ ∀ (r : Addr) (H' : Hp), H r = none → Same H H' → H' r = some (.lst (nI l)) → Q (.ref r) H'
def TlInv (K : PySem.W.Frag) (H : Hp) (q : Addr) (n : Nat) (l : List Nat) (pts : List Pt) (m : Nat) (σ : L2.St) (H' : Hp) : Prop := ∃ (b : Addr) (k l' : List Nat) (last : Nat), σ = [some (.ref q), some (.int (n : Int)), some (.ref b)] ∧ H b = none ∧ Same H H' ∧
  H' b = some (.lst (nI (last :: k))) ∧ last < pts.length ∧ m = last ∧ k.length + last < pts.length ∧ Tr pts last l' ∧ l ++ [] = l' ++ k
theorem ok_ltrail {f : Addr} {fd : FuncData} (F : Fun K "_law_trail" "_law_trail" s_l_trail f fd) (B : Bt mg) : FnOk P w K mg base CX0 1 f fd ["_law_points", "_law_point"] (spTrailL K) := by
  refine F.ok sc_l_trail (fun vs H Q E h => ?_) (fun cdv A outer s H vs Q E hr h => ?_)
  · obtain ⟨M, q, ys, pts, n, l, rfl, _⟩ := h
    rfl
  obtain ⟨M, q, ys, pts, n, l, rfl, hq, pl, wp, hn, tr, kk⟩ := h
  refine ⟨_, (pss_cons (ps_set (i := 2) sc_l_trail.nd rfl (Or.inl rfl) (pe_lst (pa_cons (pv 1) pa_nil)))
      (pss_cons (ps_while PassesOwn.never (pt_cmpR op_ne (pe_ix ix_list (pv 2) pe_int (fun _ _ => rfl)) pe_int (nomark _)) (pss_one (ps_set (i := 2) sc_l_trail.nd rfl (Or.inl rfl) (pe_op op_cat (pe_lst (pa_cons (pe_ix ix_tup (pe_ix ix_list (pv 0) (pe_ix ix_list (pv 2) pe_int (fun _ _ => rfl)) (fun _ _ => rfl)) pe_int (fun _ _ => rfl)) pa_nil)) (pv 2)))))
      (pss_one (ps_ret (pv 2))))), ?_⟩
  refine ⟨_, rfl, small (by show 1 ≤ 1000; decide), fun b hb => ?_⟩
  have s1 := same_new hb (.lst [.int (n : Int)])
  refine ⟨TlInv K H q n l pts, ⟨n, b, [], l, n, rfl, hb, s1, upd_same, hn, rfl, by simp; omega, tr, by simp⟩, ?_⟩
  rintro m σ H' ⟨b, k, l', last, rfl, hb0, s2, g2, hlast, em, hll, tr', el⟩
  subst em
  refine ⟨_, rfl, b, _, _, _, rfl, rfl, SqL.of g2, at0, rfl, _, rfl, ?_⟩
  by_cases e : m = 0
  · subst e
    rw [show (!decide (V.int ((0 : Nat) : Int) = V.int 0)) = false from rfl]
    refine iteF ⟨_, rfl, kk b _ hb0 s2 ?_⟩
    have e1 : l' = [0] := tr'.fn .zero
    rw [g2]
    rw [List.append_nil, e1] at el
    rw [el]
    rfl
  · rw [show (!decide (V.int (m : Int) = V.int 0)) = true from by simp; exact e]
    refine iteT ⟨fun σ' H' => ∃ m', m' < m ∧ TlInv K H q n l pts m' σ' H', fun _ _ h => h, ?_⟩
    cases tr' with
    | zero => exact absurd rfl e
    | @step _ p l2 hp h0 tr2 =>
      obtain ⟨v, hv, lc, a, i, dv, ld, rl, kws, xs, rfl, hT, hi, _⟩ := pl.at hp
      obtain ⟨hog, D, q0, hD, _⟩ := wp.og m p hp h0
      obtain rfl := hi (by rw [hD]; rfl)
      have hT2 := Tk.same s2 _ _ hT
      refine ⟨_, rfl, _, rfl, b, _, _, _, rfl, rfl, SqL.of g2, at0, q, _, _, _, rfl, rfl, SqL.of (s2 _ _ hq), atI_nat hv, a, _, _, _, rfl, rfl, hT2, at0, small (by show 1 ≤ 1000; decide), fun c hc => ?_⟩
      have s3 := same_new hc (.lst [.int (p.og : Int)])
      have g3 : upd H' c (.lst [.int (p.og : Int)]) c = some (.lst [.int (p.og : Int)]) := upd_same
      have gb3 := s3 _ _ g2
      generalize upd H' c (.lst [.int (p.og : Int)]) = H3 at s3 g3 gb3 ⊢
      refine ⟨_, rfl, c, b, _, _, rfl, rfl, g3, gb3, ?_, fun d hd => ?_⟩
      · have := wp.pl
        rw [nI_len]
        show 1 + (k.length + 1) ≤ sizeLine
        exact small (by omega)
      have s4 := same_new hd (.lst ([.int (p.og : Int)] ++ nI (m :: k)))
      have s24 := (s2.trans s3).trans s4
      refine ⟨p.og, hog, d, m :: k, l2, p.og, rfl, (s2.trans s3).free hd, s24, upd_same, by omega, rfl, by rw [List.length_cons]; omega, tr2, ?_⟩
      rw [el, List.append_assoc]
      rfl
end
end U

namespace U
open PySem L2 PyProof.Rows
theorem m_do : ¬ (("do" : Str) = "points") ∧ ¬ (("do" : Str) = "stands") := ⟨by decide +kernel, by decide +kernel⟩
theorem m_go : ¬ (("go" : Str) = "points") ∧ ¬ (("go" : Str) = "stands") := ⟨by decide +kernel, by decide +kernel⟩
theorem m_to : ¬ (("told" : Str) = "points") ∧ ¬ (("told" : Str) = "stands") := ⟨by decide +kernel, by decide +kernel⟩
theorem m_he : ¬ (("here" : Str) = "points") ∧ ¬ (("here" : Str) = "stands") := ⟨by decide +kernel, by decide +kernel⟩
theorem m_ma : ¬ (("many" : Str) = "points") ∧ ¬ (("many" : Str) = "stands") := ⟨by decide +kernel, by decide +kernel⟩
theorem m_ta : ¬ (("table" : Str) = "points") ∧ ¬ (("table" : Str) = "stands") := ⟨by decide +kernel, by decide +kernel⟩
theorem m_wo : ¬ (("worths" : Str) = "points") ∧ ¬ (("worths" : Str) = "stands") := ⟨by decide +kernel, by decide +kernel⟩
end U

namespace U
open PySem L2 PyProof.Rows
section
variable {P : Program} {w : World} {K : PySem.W.Frag} {mg : Str → Option Value} {base : Heap}
theorem KM.fr {A N : List Addr} {H HA HB : Hp} (k1 : KM A H HA) (k2 : KM N HA HB) (h : ∀ n ∈ N, n ∈ A ∨ H n = none) : KM A H HB := fun c o e n => k2 c o (k1 c o e n) fun z => by
  rcases h c z with q | q
  · exact n q
  · rw [q] at e
    cases e
theorem rw_h3 {cs lc : List (Str × Part)} (h : SameC cs lc) (ok : CsOk lc) (h3 : ∀ e ∈ lc, e.2.hgt ≤ 3) {D : Deed} (g : goodC D.co 3) {rs : List Row} (e : D.rw lc = some rs) : ∀ r ∈ rs, goodC r.2.2 3 := by
  unfold Deed.rw at e
  cases en : D.nx lc with
  | none => rw [en] at e; cases e
  | some ns =>
    rw [en] at e
    have e : rows lc ns (srt (ks ns)) = rs := Option.some.inj e
    rw [← e]
    exact rows_g3 (nx_g3 ok h3 g en) _
theorem rw_same {cs lc : List (Str × Part)} (h : SameC cs lc) (D : Deed) : D.rw cs = D.rw lc := by
  unfold Deed.rw
  rw [nx_same h]
  cases D.nx lc with
  | none => rfl
  | some ns => exact congrArg some (rows_same h ns _)
/-- program's contents and the law's stay alike behind the same rows -/
theorem rw_next {cs lc : List (Str × Part)} {D : Deed} {rs : List Row} (h : SameC cs lc) (cok : CsOk cs) (lok : CsOk lc) (ok : D.okL) (e : D.rw lc = some rs) : SameC (rep cs (rN rs)) (withL lc rs) := by
  unfold Deed.rw at e
  cases en : D.nx lc with
  | none => rw [en] at e; cases e
  | some ns =>
    rw [en] at e
    have e : rows lc ns (srt (ks ns)) = rs := Option.some.inj e
    have no := nx_ok lok ok en
    rw [← e]
    by_cases hz : ∃ L : List Str, L.Perm (ks ns) ∧ L.Pairwise leS
    · have q : srt (ks ns) = hz.choose := by unfold srt; rw [dif_pos hz]
      rw [q]
      exact same_next h cok.nd no.nd hz.choose_spec.1
    · have q : srt (ks ns) = ks ns := by unfold srt; rw [dif_neg hz]
      rw [q]
      exact same_next h cok.nd no.nd (List.Perm.refl _)
def spGrown (K : PySem.W.Frag) (C CP : Addr) : Sp := fun vs H Q _ => ∃ (M : List Addr) (b l : Addr) (m n : Nat), vs = [.ref b, .int (m : Int), .int (n : Int)] ∧ Box H b l ∧ b ∈ M ∧ l ∈ M ∧ MutL M H ∧ m ≤ 30 ∧ 1 ≤ n ∧ n ≤ 4 ∧
  ∀ (r t ls lp q pp : Addr) (st : List Nat) (pts : List Pt) (ys : List V) (H' : Hp), H r = none → H ls = none → H lp = none → H q = none → H pp = none → Keep b l H H' → SqT K H' r [.ref t, .ref q, .ref pp] → Bx H' (pp :: q :: ls :: lp :: M) b l ls lp q pp → Lw K C CP (pp :: q :: ls :: lp :: M) H' t ls lp q pp st st pts ys → WF st pts → G3P pts → st.length = n → pts.length ≤ m + 1 → Q (.ref r) H'
theorem off_shapedA : SeqAt.shaped (.str "off") = true := off_shaped
theorem ok_lgrown {f C CP CF CH CN : Addr} {fd : FuncData} (F : Fun K "_law_grown" "_law_grown" s_l_grown f fd) (B : Bt mg) (C_l_take : Cal P w K mg base 20 "_law_take" ["_law_box", "_law_many_here"] spTake) (C_Tree : CK (L2N.CX P w) P w K mg base 19 C "Tree" ["self", "hands"] (spTree K C CP CH)) (C_go : CM (L2N.CX P w) P w K mg base 20 C "go" ["self", "hand", "point"] (spGo K C CP CH CN))
    (C_do : CM (L2N.CX P w) P w K mg base 20 C "do" ["self", "hand", "deed"] (spDo K C CP CF CH)) (C_l_deed : Cal P w K mg base 20 "_law_deed" ["_law_box"] (spDeedL K)) (C_l_changes : Cal P w K mg base 20 "_law_changes" ["_law_contents", "_law_deed_here", "_law_content_here"] (spChangesL K)) (C_l_with : Cal P w K mg base 20 "_law_with" ["_law_contents", "_law_rows"] (spWith K)) :
    FnOk P w K mg base CX0 21 f fd ["_law_box", "_law_many_here", "_law_hands"] (spGrown K C CP) := by
  refine F.ok sc_l_grown (fun vs H Q E h => ?_) (fun cdv A outer s H vs Q E hr h => ?_)
  · obtain ⟨M, b, l, m, n, rfl, _⟩ := h
    rfl
  obtain ⟨M, b, l, m, n, rfl, BX, mb, ml, mu, hm, hn1, hn4, kk⟩ := h
  refine ⟨_, (pss_cons (ps_set (i := 3) sc_l_grown.nd rfl (Or.inl rfl) (pk_x C_Tree (hr.mono (by first | exact Nat.le_refl _ | decide | omega)) (by rfl) passX0 (pa_cons (pv 2) pa_nil)))
      (pss_cons (ps_set (i := 4) sc_l_grown.nd rfl (Or.inl rfl) (pe_lst (pa_cons (pe_tup (pa_cons (pe_un un_neg pe_int) (pa_cons pe_dnewK (pa_cons (pe_lst pa_nil) (pa_cons pe_non pa_nil))))) pa_nil)))
      (pss_cons (ps_set (i := 5) sc_l_grown.nd rfl (Or.inl rfl) (pe_op op_rep (pe_lst (pa_cons pe_int pa_nil)) (pv 2)))
      (pss_cons (ps_for PassesOwn.never rfl (pi_range1 (by rfl) B.range (pa_cons (pv 1) pa_nil)) (pg_name (i := 6) sc_l_grown.nd rfl (Or.inl rfl)) (pss_cons (ps_set (i := 7) sc_l_grown.nd rfl (Or.inl rfl) (pc_c C_l_take (hr.mono (by first | exact Nat.le_refl _ | decide | omega)) (by rfl) (pa_cons (pv 0) (pa_cons (pv 2) pa_nil))))
      (pss_cons (ps_if (pt_cmpR op_eq (pc_c C_l_take (hr.mono (by first | exact Nat.le_refl _ | decide | omega)) (by rfl) (pa_cons (pv 0) (pa_cons pe_int pa_nil))) pe_int (nomark _)) (pss_cons (ps_asg (pc_c C_l_take (hr.mono (by first | exact Nat.le_refl _ | decide | omega)) (by rfl) (pa_cons (pv 0) (pa_cons (pe_callB call_len_seq (by rfl) B.len boot_len (pa_cons (pv 4) pa_nil)) pa_nil))) (pg_sub (pv 5) (pv 7) set_list))
      (pss_one (ps_expr (pm_x C_go (hr.mono (by first | exact Nat.le_refl _ | decide | omega)) passX0 (pv 3) (pa_cons (pv 7) (pa_cons (pe_ix ix_list (pv 5) (pv 7) (fun _ _ => rfl)) pa_nil)))))) pss_nil)
      (pss_cons (ps_asg (pc_c C_l_deed (hr.mono (by first | exact Nat.le_refl _ | decide | omega)) (by rfl) (pa_cons (pv 0) pa_nil)) (pg_tup (by rfl) (pgs_cons (pg_name (i := 8) sc_l_grown.nd rfl (Or.inl rfl)) (pgs_cons (pg_name (i := 9) sc_l_grown.nd rfl (Or.inl rfl)) pgs_nil))))
      (pss_cons (ps_set (i := 10) sc_l_grown.nd rfl (Or.inl rfl) (pc_c C_l_changes (hr.mono (by first | exact Nat.le_refl _ | decide | omega)) (by rfl) (pa_cons (pe_ix ix_tup (pe_ix ix_list (pv 4) (pe_ix ix_list (pv 5) (pv 7) (fun _ _ => rfl)) (fun _ _ => rfl)) pe_int (fun _ _ => rfl)) (pa_cons (pv 8) (pa_cons (pv 9) pa_nil)))))
      (pss_one (ps_if (pt_cmpR (op_neD_K (K := K) hr.units rfl) (pv 10) pe_str (nomark _)) (pss_cons (ps_expr (pm_x C_do (hr.mono (by first | exact Nat.le_refl _ | decide | omega)) passX0 (pv 3) (pa_cons (pv 7) (pa_cons (pv 8) pa_nil))))
      (pss_cons (ps_expr (pe_bm PySem.F.plainAttrs_list PySem.F.slot_list_append PySem.F.type_list_append mt_append (pv 4) (pa_cons (pe_tup (pa_cons (pe_ix ix_list (pv 5) (pv 7) (fun _ _ => rfl)) (pa_cons (pc_c C_l_with (hr.mono (by first | exact Nat.le_refl _ | decide | omega)) (by rfl) (pa_cons (pe_ix ix_tup (pe_ix ix_list (pv 4) (pe_ix ix_list (pv 5) (pv 7) (fun _ _ => rfl)) (fun _ _ => rfl)) pe_int (fun _ _ => rfl)) (pa_cons (pv 10) pa_nil))) (pa_cons (pv 10) (pa_cons (pv 8) pa_nil))))) pa_nil)))
      (pss_one (ps_asg (pe_op op_sub (pe_callB call_len_seq (by rfl) B.len boot_len (pa_cons (pv 4) pa_nil)) pe_int) (pg_sub (pv 5) (pv 7) set_list))))) pss_nil)))))))
      (pss_one (ps_ret (pe_tup (pa_cons (pv 3) (pa_cons (pv 4) (pa_cons (pv 5) pa_nil)))))))))), ?_⟩
  refine ⟨_, rfl, fun t dx nt ndx nex => ⟨t, dx, _, M, rfl, upd_same, mu.same ((same_new ndx _).trans (same_new (by rw [upd_ne nex.symm]; exact nt) _)), .inl ⟨n, rfl, hn1, hn4, fun ls lp H3 hls hlp k3 TA3 => ⟨rfl, ?_⟩⟩⟩⟩
  have s3 : Same H H3 := fun c o z => k3 c o (by rw [upd_ne (ne_of_none z nt), upd_ne (ne_of_none z ndx)]; exact z) (ne_of_none z nt)
  have fr : ∀ {c : Addr}, upd (upd H dx (.own t)) t (.ins C dx []) c = none → H c = none := fun {c} z => by
    cases e : H c with
    | none => rfl
    | some o =>
      rw [upd_ne (ne_of_none e nt), upd_ne (ne_of_none e ndx), e] at z
      cases z
  have hls0 := fr hls
  have hlp0 := fr hlp
  have nls : ls ≠ b ∧ ls ≠ l := BX.new hls0
  have nlp : lp ≠ b ∧ lp ≠ l := BX.new hlp0
  have B3 := BX.keep s3
  refine ⟨_, rfl, fun d0 hd0 => ⟨small (by decide), fun l0 hl0 => ⟨small (by show 4 ≤ 1000; decide), fun a0 ha0 => ⟨small (by show 1 ≤ 1000; decide), fun q hq => ?_⟩⟩⟩⟩
  have sA := same_new hd0 (.dK [])
  have sB := sA.trans (same_new hl0 (.lst []))
  have sC := sB.trans (same_new ha0 (.tup [V.int (-1), V.ref d0, V.ref l0, V.non]))
  have hqC : H3 q = none := sC.free hq
  have tA : upd (upd (upd H3 d0 (.dK [])) l0 (.lst [])) a0 (.tup [V.int (-1), V.ref d0, V.ref l0, V.non]) a0 = some (.tup [V.int (-1), V.ref d0, V.ref l0, V.non]) := upd_same
  have lA : upd (upd (upd H3 d0 (.dK [])) l0 (.lst [])) a0 (.tup [V.int (-1), V.ref d0, V.ref l0, V.non]) l0 = some (.lst []) := same_new ha0 _ _ _ upd_same
  have dA : upd (upd (upd H3 d0 (.dK [])) l0 (.lst [])) a0 (.tup [V.int (-1), V.ref d0, V.ref l0, V.non]) d0 = some (.dK []) := same_new ha0 _ _ _ (same_new hl0 _ _ _ upd_same)
  have hl0M : l0 ∉ ls :: lp :: M := (TA3.same sA).mu.none hl0
  have TAC := TA3.same sC
  generalize upd (upd (upd H3 d0 (.dK [])) l0 (.lst [])) a0 (.tup [V.int (-1), V.ref d0, V.ref l0, V.non]) = HC at sC hq tA lA dA TAC ⊢
  have TAq := TAC.more (xs := [.ref a0]) hq
  have sq := same_new hq (.lst [.ref a0])
  have gq : upd HC q (.lst [.ref a0]) q = some (.lst [.ref a0]) := upd_same
  have nql0 : l0 ≠ q := ne_of_none lA hq
  have s0q := (s3.trans sC).trans sq
  have hq0 : H q = none := s3.free hqC
  generalize upd HC q (.lst [.ref a0]) = HD at TAq sq gq s0q ⊢
  refine ⟨small (by show 1 ≤ 1000; decide), fun l1 hl1 => ⟨_, rfl, l1, (n : Int), _, rfl, rfl, upd_same, by omega, by omega, ?_, fun pp hpp => ?_⟩⟩
  · show 1 * (n : Int).toNat ≤ sizeLine
    exact small (by omega)
  have e0 : (List.replicate (n : Int).toNat [V.int 0]).flatten = nI (List.replicate n 0) := by
    rw [List.flatten_replicate_singleton]
    unfold nI
    rw [List.map_replicate]
    rfl
  rw [e0]
  have s1a := same_new hl1 (.lst [V.int 0])
  have hpp1 := s1a.free hpp
  have TAe := (TAq.same s1a).more (xs := nI (List.replicate n 0)) hpp
  have s5 := s1a.trans (same_new hpp (.lst (nI (List.replicate n 0))))
  have gp : upd (upd HD l1 (.lst [V.int 0])) pp (.lst (nI (List.replicate n 0))) pp = some (.lst (nI (List.replicate n 0))) := upd_same
  have hpp0 : H pp = none := s0q.free hpp1
  have nql1 : q ≠ pp := ne_of_none gq hpp1
  obtain ⟨pvq, hlpq, _⟩ := TAq.hp
  have npls : pp ≠ ls ∧ pp ≠ lp := ⟨(ne_of_none TAq.hs hpp1).symm, (ne_of_none hlpq hpp1).symm⟩
  obtain ⟨pvC, hlpC, _⟩ := TAC.hp
  have nqls : q ≠ ls ∧ q ≠ lp := ⟨(ne_of_none TAC.hs hq).symm, (ne_of_none hlpC hq).symm⟩
  have nl0p : l0 ≠ pp := ne_of_none (sq _ _ lA) hpp1
  have s05 := s0q.trans s5
  have gq5 := s5 _ _ gq
  have l05 := s5 _ _ (sq _ _ lA)
  have d05 := s5 _ _ (sq _ _ dA)
  have t05 := s5 _ _ (sq _ _ tA)
  generalize upd (upd HD l1 (.lst [V.int 0])) pp (.lst (nI (List.replicate n 0))) = HE at TAe s5 gp s05 gq5 l05 d05 t05 ⊢
  have nq := BX.new hq0
  have np := BX.new hpp0
  have BE : Bx HE (pp :: q :: ls :: lp :: M) b l ls lp q pp := ⟨BX.keep s05, by simp [mb], by simp [ml], nls, nlp, nq, np⟩
  have WE : Lw K C CP (pp :: q :: ls :: lp :: M) HE t ls lp q pp (List.replicate n 0) (List.replicate n 0) [pt0] [.ref a0] :=
    ⟨TAe, gq5, ⟨⟨[], a0, -1, .non, d0, l0, [], [], rfl, SqT.of t05, ⟨(fun z => absurd z Bool.false_ne_true), fun _ => rfl⟩, rfl, d05, trivial, ⟨List.nodup_nil, (fun _ h => (by cases h)), (fun _ h => (by cases h))⟩, (fun _ h => (by cases h)), (fun _ => rfl), l05, trivial, (by simp only [List.mem_cons, not_or]; simp only [List.mem_cons, not_or] at hl0M; exact ⟨nl0p, nql0, hl0M⟩)⟩, trivial⟩, gp, by simp, by simp, ⟨nqls.1, nqls.2, nql1⟩, npls⟩
  refine ⟨_, rfl, (m : Int), rfl, by omega, by omega, for_range (lo := 0) (n := m) (fun i σ HA => ∃ (u6 u7 u8 u9 u10 : Option V) (st : List Nat) (pts : List Pt) (ys : List V), σ = [some (.ref b), some (.int (m : Int)), some (.int (n : Int)), some (.ref t), some (.ref q), some (.ref pp), u6, u7, u8, u9, u10] ∧ Keep b l H HA ∧ Bx HA (pp :: q :: ls :: lp :: M) b l ls lp q pp ∧ Lw K C CP (pp :: q :: ls :: lp :: M) HA t ls lp q pp st st pts ys ∧ WF st pts ∧ G3P pts ∧ st.length = n ∧ pts.length ≤ i + 1)
    ⟨none, none, none, none, none, _, _, _, rfl, .of s05, BE, WE, .init hn4, (fun p hp D e => by rw [List.mem_singleton.mp hp] at e; cases e), List.length_replicate, Nat.le_refl _⟩ ?_ ?_⟩
  · rintro i σ HA hi ⟨u6, u7, u8, u9, u10, st, pts, ys, rfl, kA, BA, WA_, wf, g3, stl, ptl⟩
    have pos := wf.wp.pos
    refine ⟨_, rfl, _, rfl, b, l, (n : Int), rfl, BA.B, by omega, by omega, fun rh HB h0 h1 BB KB => ?_⟩
    obtain ⟨hd, rfl⟩ : ∃ hd : Nat, rh = (hd : Int) := ⟨rh.toNat, by omega⟩
    have hdl : hd < n := by omega
    have WB := WA_.bx BA BB KB
    have XB := BA.put BB
    have kB := kA.trans KB
    refine ⟨_, rfl, b, l, 4, rfl, BB, by decide, by decide, fun rg HC g0 g1 BC KC => ⟨rfl, _, rfl, ite2 (fun cg => ?_) (fun cg => ?_)⟩⟩
    · have WC := WB.bx XB BC KC
      have XC := XB.put BC
      have yl := WC.pl.len
      have lps := wf.wp.pl
      refine ⟨_, rfl, _, rfl, q, _, rfl, .inl (SqL.of WC.hq), b, l, _, rfl, BC, by omega, by omega, fun rp HD p0 p1 BD KD => ?_⟩
      obtain ⟨pn, rfl⟩ : ∃ pn : Nat, rp = (pn : Int) := ⟨rp.toNat, by omega⟩
      have hpn : pn < pts.length := by omega
      have WD := WC.bx XC BD KD
      have XD := XC.put BD
      have kD := (kB.trans KC).trans KD
      have hx : ixN (nI st).length (hd : Int) = some hd := by
        unfold ixN
        rw [nI_len, if_pos (by omega), if_pos (by omega)]
        rfl
      refine ⟨_, rfl, _, rfl, pp, _, _, hd, rfl, rfl, WD.hp, hx, ?_⟩
      have e7 : (nI st).set hd (.int (pn : Int)) = nI (st.set hd pn) := by unfold nI; rw [List.map_set]
      rw [e7]
      have kp : KM [pp] HD (upd HD pp (.lst (nI (st.set hd pn)))) := .put (List.mem_singleton.mpr rfl)
      have s7 : upd HD pp (.lst (nI (st.set hd pn))) pp = some (.lst (nI (st.set hd pn))) := upd_same
      generalize upd HD pp (.lst (nI (st.set hd pn))) = HE2 at kp s7 ⊢
      have offp : ∀ H, Off [pp] (pp :: q :: ls :: lp :: M) H := fun H => .sub fun x hx => by rw [List.mem_singleton.mp hx]; exact WD.mp
      have TAE2 := WD.TA.km kp (offp _) ((MutL.nil _).cons s7) (by simp [WD.np.1.symm]) (by simp [WD.np.2.symm])
      have qE := kp _ _ WD.hq (by simp [WD.nq.2.2])
      have plE := WD.pl.km kp WD.TA.mu (offp _)
      have XE := XD.km kp (by simp [XD.n4.1.symm]) (by simp [XD.n4.2.symm])
      have kE := kD.km.fr kp fun x hx => by
        rw [List.mem_singleton.mp hx]
        exact .inr hpp0
      obtain ⟨dxE, htE⟩ := TAE2.ob
      obtain ⟨so, hso⟩ : ∃ so, st[hd]? = some so := ⟨st[hd]'(by omega), List.getElem?_eq_getElem _⟩
      have hsn : (st.set hd pn)[hd]? = some pn := by rw [List.getElem?_set_self (by omega)]
      obtain ⟨la, trA⟩ := Tr.ex wf.wp (wf.sb so (List.mem_of_getElem? hso))
      obtain ⟨lb, trB⟩ := Tr.ex wf.wp hpn
      refine ⟨_, rfl, t, dxE, _, rfl, htE, ft_no m_go.1 m_go.2, _, rfl, _, rfl, _, rfl, pp, _, _, _, rfl, rfl, SqL.of s7, at_st hsn, (pp :: q :: ls :: lp :: M), t, ls, lp, st, pts, _, _, rfl, TAE2, wf, .inl ⟨hd, so, pn, la, lb, rfl, rfl, hso, hpn, trA, trB, fun rg2 HF xsg hrg kF TAF _ _ => ?_⟩⟩
      have offs : ∀ H, Off [ls, ls] (pp :: q :: ls :: lp :: M) H := fun H => .sub fun x hx => by
        simp at hx
        exact hx ▸ WD.TA.ml
      have Wz : Lw K C CP (pp :: q :: ls :: lp :: M) HF t ls lp q pp (st.set hd pn) (st.set hd pn) pts ys := ⟨TAF, kF _ _ qE WD.nq.1 WD.nq.1, plE.km kF.km TAE2.mu (offs _), kF _ _ s7 WD.np.1 WD.np.1, WD.mq, WD.mp, WD.nq, WD.np⟩
      have Bz : Bx HF (pp :: q :: ls :: lp :: M) b l ls lp q pp := XE.km kF.km (by simp [XE.n1.1.symm]) (by simp [XE.n1.2.symm])
      have kz : Keep b l H HF := (kE.fr kF.km fun x hx => by
        simp at hx
        exact hx ▸ .inr hls0).keep
      have wfz : WF (st.set hd pn) pts := wf.go_ hpn
      have stzl : (st.set hd pn).length = n := by rw [List.length_set]; exact stl
      generalize st.set hd pn = stz at Wz wfz stzl
      refine ⟨_, rfl, b, l, rfl, Bz.B, fun D dv cv r Hd okL g3d Bd Kd hrd da ca => ?_⟩
      have Wd := Wz.bx Bz Bd Kd
      have BXd := Bz.put Bd
      have kd : Keep b l H Hd := kz.trans Kd
      refine ⟨r, _, rfl, hrd, rfl, _, _, rfl, _, _, rfl, rfl, ?_⟩
      obtain ⟨og, hog⟩ : ∃ og, stz[hd]? = some og := ⟨stz[hd]'(by omega), List.getElem?_eq_getElem _⟩
      have hogl := wfz.sb og (List.mem_of_getElem? hog)
      have hpt : pts[og]? = some pts[og] := List.getElem?_eq_getElem hogl
      generalize pts[og] = p at hpt
      have pok := wfz.wp.ok p (List.mem_of_getElem? hpt)
      obtain ⟨v, hv, lc, a1, i1, dv1, ld, rl1, kws, xs1, rfl, hT, hij, hd1, hk, al, lok, lh, sm, hrl1, hra1, hrm1⟩ := Wd.pl.at hpt
      refine ⟨_, rfl, _, rfl, _, rfl, pp, _, _, _, rfl, rfl, SqL.of Wd.hp, at_st hog, q, _, _, _, rfl, rfl, SqL.of Wd.hq, atI_nat hv, a1, _, _, _, rfl, rfl, hT, rfl, _, rfl, _, rfl, ld, lc, D, dv, cv, rfl, ⟨kws, .inl hk, al⟩, lok, da, ca, okL, fun ns hns L hL hLs rr He xs hrr se ge ra => ?_, fun hno He se => ?_⟩
      · have no := nx_ok lok okL hns
        have ro : RsOk (rows lc ns L) := rows_ok lok no fun x hx => no.ce x (hL.mem_iff.mp hx)
        have erw : D.rw lc = some (rows lc ns L) := rw_some hns hL hLs
        have erwp : D.rw p.cs = some (rows lc ns L) := (rw_same sm D).trans erw
        have h3r := rw_h3 sm lok lh g3d erw
        have We := Wd.same se
        have hrrM : rr ∉ (pp :: q :: ls :: lp :: M) := Wd.TA.mu.none hrr
        generalize rows lc ns L = rs at ra ro erw erwp h3r
        refine ⟨_, rfl, _, _, .lst (SqL.of ge) ra.dp, .str _, rows_shaped ro, off_shaped, ?_⟩
        rw [show PyData.eqv (.list (rs.map rD)) (.str "off") = false by simp [PyData.eqv]]
        obtain ⟨dxe, hte⟩ := We.TA.ob
        refine ⟨_, rfl, iteT ⟨_, rfl, t, dxe, _, rfl, hte, ft_no m_do.1 m_do.2, _, rfl, _, rfl, (pp :: q :: ls :: lp :: M), t, ls, lp, stz, pts, _, dv, rfl, We.TA, wfz, .inl ⟨hd, og, p, D, rfl, hog, hpt, da.tk (.same se), okL, fun rs2 hrs2 Hf kf TAf => ?_, fun hz => absurd (erwp.symm.trans hz) (by simp)⟩⟩⟩
        obtain rfl : rs = rs2 := Option.some.inj (erwp.symm.trans hrs2)
        have offl : ∀ H, Off [ls, lp] (pp :: q :: ls :: lp :: M) H := fun H => .sub fun x hx => by
          simp at hx
          rcases hx with rfl | rfl
          · exact We.TA.ml
          · exact We.TA.mp
        have tkf : Tk K He Hf := kf.km.tk We.TA.mu (offl _)
        have plf := We.pl.km kf.km We.TA.mu (offl _)
        have qf := kf _ _ We.hq We.nq.1 We.nq.2.1
        have pf := kf _ _ We.hp We.np.1 We.np.2
        have nrr : rr ≠ ls ∧ rr ≠ lp := by simp only [List.mem_cons, not_or] at hrrM; exact ⟨hrrM.2.2.1, hrrM.2.2.2.1⟩
        have rf := kf _ _ ge nrr.1 nrr.2
        have raf := ra.tk tkf
        have hkf := kf.km.obj We.TA.mu (offl _) (se _ _ hk) (fun _ z => by cases z) fun _ z => by cases z
        have alf : Al (PA K Hf) lc kws := al.mono fun _ _ z => PA.tk tkf (PA.tk (.same se) z)
        have hTf := tkf _ _ (Tk.same se _ _ hT)
        have daf := (da.tk (.same se)).tk tkf
        have kHf : KM [b, l] H Hf := (kd.km.trans (.of se)).fr kf.km fun x hx => by
          simp at hx
          rcases hx with rfl | rfl
          · exact .inr hls0
          · exact .inr hlp0
        refine ⟨_, rfl, .inl ⟨rfl, _, SqL.of qf⟩, _, rfl, _, rfl, pp, _, _, _, rfl, rfl, SqL.of pf, at_st hog, _, rfl, _, rfl, _, rfl, pp, _, _, _, rfl, rfl, SqL.of pf, at_st hog, q, _, _, _, rfl, rfl, SqL.of qf, atI_nat hv, a1, _, _, _, rfl, rfl, hTf, rfl, _, rfl, ld, rr, lc, rs, xs, rfl, ⟨kws, .inl hkf, alf⟩, lok, rf, raf, ro, fun wq Hg tabw hwq sg gw aw => ⟨_, rfl, _, rfl, small (by show 4 ≤ 1000; decide), fun tt htt => ?_⟩⟩
        have sgt := sg.trans (same_new htt (.tup [.int (og : Int), .ref wq, .ref rr, dv]))
        have gtt : SqT K (upd Hg tt (.tup [.int (og : Int), .ref wq, .ref rr, dv])) tt [.int (og : Int), .ref wq, .ref rr, dv] := SqT.of upd_same
        have gww := same_new htt (.tup [.int (og : Int), .ref wq, .ref rr, dv]) _ _ gw
        have aww : Al (PA K (upd Hg tt (.tup [.int (og : Int), .ref wq, .ref rr, dv]))) (withL lc rs) tabw := aw.mono fun _ _ z => PA.tk (.same (same_new htt _)) z
        generalize upd Hg tt (.tup [.int (og : Int), .ref wq, .ref rr, dv]) = Hh at sgt gtt gww aww ⊢
        have qh := sgt _ _ qf
        have ph := sgt _ _ pf
        have TAh := TAf.same sgt
        have plh := plf.km (KM.of (N := []) sgt) TAf.mu .nil
        have rh := sgt _ _ rf
        have rah := raf.tk (.same sgt)
        have dah := daf.tk (.same sgt)
        have yl := Wd.pl.len
        have lps := wfz.wp.pl
        refine ⟨q, _, _, rfl, rfl, qh, small (by omega), ?_⟩
        have kq : KM [q] Hh (upd Hh q (.lst (ys ++ [.ref tt]))) := .put (List.mem_singleton.mpr rfl)
        have q1 : upd Hh q (.lst (ys ++ [.ref tt])) q = some (.lst (ys ++ [.ref tt])) := upd_same
        generalize upd Hh q (.lst (ys ++ [.ref tt])) = Hi at kq q1 ⊢
        have offq : ∀ H, Off [q] (pp :: q :: ls :: lp :: M) H := fun H => .sub fun x hx => by rw [List.mem_singleton.mp hx]; exact Wd.mq
        have TAi := TAh.km kq (offq _) ((MutL.nil _).cons q1) (by simp [Wd.nq.1.symm]) (by simp [Wd.nq.2.1.symm])
        have ph1 := kq _ _ ph (by simp [Wd.nq.2.2.symm])
        have tki : Tk K Hh Hi := kq.tk TAh.mu (offq _)
        have hxz : ixN (nI stz).length (hd : Int) = some hd := by
          unfold ixN
          rw [nI_len, if_pos (by omega), if_pos (by omega)]
          rfl
        have eyl : (((ys ++ [V.ref tt]).length : Nat) : Int) - 1 = (pts.length : Int) := by
          rw [List.length_append, List.length_singleton, yl]
          omega
        refine ⟨_, rfl, q, _, rfl, .inl (SqL.of q1), _, _, rfl, rfl, _, rfl, _, rfl, pp, _, _, hd, rfl, rfl, ph1, hxz, ?_⟩
        have e7 : (nI stz).set hd (.int ((((ys ++ [V.ref tt]).length : Nat) : Int) - 1)) = nI (stz.set hd pts.length) := by unfold nI; rw [eyl, List.map_set]
        rw [e7]
        have kp : KM [pp] Hi (upd Hi pp (.lst (nI (stz.set hd pts.length)))) := .put (List.mem_singleton.mpr rfl)
        have p2 : upd Hi pp (.lst (nI (stz.set hd pts.length))) pp = some (.lst (nI (stz.set hd pts.length))) := upd_same
        generalize upd Hi pp (.lst (nI (stz.set hd pts.length))) = Hj at kp p2 ⊢
        have offp : ∀ H, Off [pp] (pp :: q :: ls :: lp :: M) H := fun H => .sub fun x hx => by rw [List.mem_singleton.mp hx]; exact Wd.mp
        have TAj := TAi.km kp (offp _) ((MutL.nil _).cons p2) (by simp [Wd.np.1.symm]) (by simp [Wd.np.2.symm])
        have q2 := kp _ _ q1 (by simp [Wd.nq.2.2])
        have tkj : Tk K Hi Hj := kp.tk TAi.mu (offp _)
        have plj := (plh.km kq TAh.mu (offq _)).km kp TAi.mu (offp _)
        have objj : ∀ {c : Addr} {o : HO}, Hh c = some o → (∀ xs, o ≠ .lst xs) → (∀ ps, o ≠ .tbl ps) → Hj c = some o := fun e n1 n2 => kp.obj TAi.mu (offp _) (kq.obj TAh.mu (offq _) e n1 n2) n1 n2
        have rj : Hj rr = some (.lst xs) := kp.off (offp _) (kq.off (offq _) rh hrrM) hrrM
        have pnew : PtL K (pp :: q :: ls :: lp :: M) Hj ⟨og, hd, some D, rep p.cs (rN rs), rs⟩ (.ref tt) :=
          ⟨withL lc rs, tt, og, dv, wq, rr, tabw, xs, rfl, tkj _ _ (tki _ _ gtt), .mk' rfl rfl, (dah.tk tki).tk tkj, objj gww (fun _ z => by cases z) (fun _ z => by cases z), aww.mono fun _ _ z => PA.tk tkj (PA.tk tki z), withL_ok lok ro, withL_h3 lh h3r, rw_next sm pok lok okL erw, rj, (rah.tk tki).tk tkj, hrrM⟩
        have kHj : KM [b, l] H Hj := ((kHf.trans (.of sgt)).fr kq fun x hx => by
          rw [List.mem_singleton.mp hx]
          exact .inr hq0).fr kp fun x hx => by
          rw [List.mem_singleton.mp hx]
          exact .inr hpp0
        have BXj : Bx Hj (pp :: q :: ls :: lp :: M) b l ls lp q pp := (((BXd.same se).km kf.km (by simp [BXd.n1.1.symm, BXd.n2.1.symm]) (by simp [BXd.n1.2.symm, BXd.n2.2.symm])).same sgt).km kq (by simp [BXd.n3.1.symm]) (by simp [BXd.n3.2.symm]) |>.km kp (by simp [BXd.n4.1.symm]) (by simp [BXd.n4.2.symm])
        refine ⟨_, _, _, _, _, stz.set hd pts.length, pts ++ [⟨og, hd, some D, rep p.cs (rN rs), rs⟩], ys ++ [.ref tt], rfl, kHj.keep, BXj, ⟨TAj, q2, plj.snoc pnew, p2, Wd.mq, Wd.mp, Wd.nq, Wd.np⟩, wfz.do_ (by omega) hpt okL erwp, fun x hx D' e => ?_, by rw [List.length_set]; exact stzl, by rw [List.length_append, List.length_singleton]; omega⟩
        rcases List.mem_append.mp hx with hx | hx
        · exact g3 x hx D' e
        · rw [List.mem_singleton.mp hx] at e
          cases e
          exact g3d
      · refine ⟨_, rfl, _, _, .str _, .str _, off_shaped, off_shaped, ?_⟩
        rw [evS, decide_eq_true rfl]
        exact ⟨_, rfl, iteF ⟨_, _, _, _, _, stz, pts, ys, rfl, kd.trans (.of se), BXd.same se, Wd.same se, wfz, g3, stzl, by omega⟩⟩
    · have Wz := WB.bx XB BC KC
      have Bz := XB.put BC
      have kz := kB.trans KC
      have wfz := wf
      have stzl := stl
      generalize st = stz at Wz wfz stzl
      refine ⟨_, rfl, b, l, rfl, Bz.B, fun D dv cv r Hd okL g3d Bd Kd hrd da ca => ?_⟩
      have Wd := Wz.bx Bz Bd Kd
      have BXd := Bz.put Bd
      have kd : Keep b l H Hd := kz.trans Kd
      refine ⟨r, _, rfl, hrd, rfl, _, _, rfl, _, _, rfl, rfl, ?_⟩
      obtain ⟨og, hog⟩ : ∃ og, stz[hd]? = some og := ⟨stz[hd]'(by omega), List.getElem?_eq_getElem _⟩
      have hogl := wfz.sb og (List.mem_of_getElem? hog)
      have hpt : pts[og]? = some pts[og] := List.getElem?_eq_getElem hogl
      generalize pts[og] = p at hpt
      have pok := wfz.wp.ok p (List.mem_of_getElem? hpt)
      obtain ⟨v, hv, lc, a1, i1, dv1, ld, rl1, kws, xs1, rfl, hT, hij, hd1, hk, al, lok, lh, sm, hrl1, hra1, hrm1⟩ := Wd.pl.at hpt
      refine ⟨_, rfl, _, rfl, _, rfl, pp, _, _, _, rfl, rfl, SqL.of Wd.hp, at_st hog, q, _, _, _, rfl, rfl, SqL.of Wd.hq, atI_nat hv, a1, _, _, _, rfl, rfl, hT, rfl, _, rfl, _, rfl, ld, lc, D, dv, cv, rfl, ⟨kws, .inl hk, al⟩, lok, da, ca, okL, fun ns hns L hL hLs rr He xs hrr se ge ra => ?_, fun hno He se => ?_⟩
      · have no := nx_ok lok okL hns
        have ro : RsOk (rows lc ns L) := rows_ok lok no fun x hx => no.ce x (hL.mem_iff.mp hx)
        have erw : D.rw lc = some (rows lc ns L) := rw_some hns hL hLs
        have erwp : D.rw p.cs = some (rows lc ns L) := (rw_same sm D).trans erw
        have h3r := rw_h3 sm lok lh g3d erw
        have We := Wd.same se
        have hrrM : rr ∉ (pp :: q :: ls :: lp :: M) := Wd.TA.mu.none hrr
        generalize rows lc ns L = rs at ra ro erw erwp h3r
        refine ⟨_, rfl, _, _, .lst (SqL.of ge) ra.dp, .str _, rows_shaped ro, off_shaped, ?_⟩
        rw [show PyData.eqv (.list (rs.map rD)) (.str "off") = false by simp [PyData.eqv]]
        obtain ⟨dxe, hte⟩ := We.TA.ob
        refine ⟨_, rfl, iteT ⟨_, rfl, t, dxe, _, rfl, hte, ft_no m_do.1 m_do.2, _, rfl, _, rfl, (pp :: q :: ls :: lp :: M), t, ls, lp, stz, pts, _, dv, rfl, We.TA, wfz, .inl ⟨hd, og, p, D, rfl, hog, hpt, da.tk (.same se), okL, fun rs2 hrs2 Hf kf TAf => ?_, fun hz => absurd (erwp.symm.trans hz) (by simp)⟩⟩⟩
        obtain rfl : rs = rs2 := Option.some.inj (erwp.symm.trans hrs2)
        have offl : ∀ H, Off [ls, lp] (pp :: q :: ls :: lp :: M) H := fun H => .sub fun x hx => by
          simp at hx
          rcases hx with rfl | rfl
          · exact We.TA.ml
          · exact We.TA.mp
        have tkf : Tk K He Hf := kf.km.tk We.TA.mu (offl _)
        have plf := We.pl.km kf.km We.TA.mu (offl _)
        have qf := kf _ _ We.hq We.nq.1 We.nq.2.1
        have pf := kf _ _ We.hp We.np.1 We.np.2
        have nrr : rr ≠ ls ∧ rr ≠ lp := by simp only [List.mem_cons, not_or] at hrrM; exact ⟨hrrM.2.2.1, hrrM.2.2.2.1⟩
        have rf := kf _ _ ge nrr.1 nrr.2
        have raf := ra.tk tkf
        have hkf := kf.km.obj We.TA.mu (offl _) (se _ _ hk) (fun _ z => by cases z) fun _ z => by cases z
        have alf : Al (PA K Hf) lc kws := al.mono fun _ _ z => PA.tk tkf (PA.tk (.same se) z)
        have hTf := tkf _ _ (Tk.same se _ _ hT)
        have daf := (da.tk (.same se)).tk tkf
        have kHf : KM [b, l] H Hf := (kd.km.trans (.of se)).fr kf.km fun x hx => by
          simp at hx
          rcases hx with rfl | rfl
          · exact .inr hls0
          · exact .inr hlp0
        refine ⟨_, rfl, .inl ⟨rfl, _, SqL.of qf⟩, _, rfl, _, rfl, pp, _, _, _, rfl, rfl, SqL.of pf, at_st hog, _, rfl, _, rfl, _, rfl, pp, _, _, _, rfl, rfl, SqL.of pf, at_st hog, q, _, _, _, rfl, rfl, SqL.of qf, atI_nat hv, a1, _, _, _, rfl, rfl, hTf, rfl, _, rfl, ld, rr, lc, rs, xs, rfl, ⟨kws, .inl hkf, alf⟩, lok, rf, raf, ro, fun wq Hg tabw hwq sg gw aw => ⟨_, rfl, _, rfl, small (by show 4 ≤ 1000; decide), fun tt htt => ?_⟩⟩
        have sgt := sg.trans (same_new htt (.tup [.int (og : Int), .ref wq, .ref rr, dv]))
        have gtt : SqT K (upd Hg tt (.tup [.int (og : Int), .ref wq, .ref rr, dv])) tt [.int (og : Int), .ref wq, .ref rr, dv] := SqT.of upd_same
        have gww := same_new htt (.tup [.int (og : Int), .ref wq, .ref rr, dv]) _ _ gw
        have aww : Al (PA K (upd Hg tt (.tup [.int (og : Int), .ref wq, .ref rr, dv]))) (withL lc rs) tabw := aw.mono fun _ _ z => PA.tk (.same (same_new htt _)) z
        generalize upd Hg tt (.tup [.int (og : Int), .ref wq, .ref rr, dv]) = Hh at sgt gtt gww aww ⊢
        have qh := sgt _ _ qf
        have ph := sgt _ _ pf
        have TAh := TAf.same sgt
        have plh := plf.km (KM.of (N := []) sgt) TAf.mu .nil
        have rh := sgt _ _ rf
        have rah := raf.tk (.same sgt)
        have dah := daf.tk (.same sgt)
        have yl := Wd.pl.len
        have lps := wfz.wp.pl
        refine ⟨q, _, _, rfl, rfl, qh, small (by omega), ?_⟩
        have kq : KM [q] Hh (upd Hh q (.lst (ys ++ [.ref tt]))) := .put (List.mem_singleton.mpr rfl)
        have q1 : upd Hh q (.lst (ys ++ [.ref tt])) q = some (.lst (ys ++ [.ref tt])) := upd_same
        generalize upd Hh q (.lst (ys ++ [.ref tt])) = Hi at kq q1 ⊢
        have offq : ∀ H, Off [q] (pp :: q :: ls :: lp :: M) H := fun H => .sub fun x hx => by rw [List.mem_singleton.mp hx]; exact Wd.mq
        have TAi := TAh.km kq (offq _) ((MutL.nil _).cons q1) (by simp [Wd.nq.1.symm]) (by simp [Wd.nq.2.1.symm])
        have ph1 := kq _ _ ph (by simp [Wd.nq.2.2.symm])
        have tki : Tk K Hh Hi := kq.tk TAh.mu (offq _)
        have hxz : ixN (nI stz).length (hd : Int) = some hd := by
          unfold ixN
          rw [nI_len, if_pos (by omega), if_pos (by omega)]
          rfl
        have eyl : (((ys ++ [V.ref tt]).length : Nat) : Int) - 1 = (pts.length : Int) := by
          rw [List.length_append, List.length_singleton, yl]
          omega
        refine ⟨_, rfl, q, _, rfl, .inl (SqL.of q1), _, _, rfl, rfl, _, rfl, _, rfl, pp, _, _, hd, rfl, rfl, ph1, hxz, ?_⟩
        have e7 : (nI stz).set hd (.int ((((ys ++ [V.ref tt]).length : Nat) : Int) - 1)) = nI (stz.set hd pts.length) := by unfold nI; rw [eyl, List.map_set]
        rw [e7]
        have kp : KM [pp] Hi (upd Hi pp (.lst (nI (stz.set hd pts.length)))) := .put (List.mem_singleton.mpr rfl)
        have p2 : upd Hi pp (.lst (nI (stz.set hd pts.length))) pp = some (.lst (nI (stz.set hd pts.length))) := upd_same
        generalize upd Hi pp (.lst (nI (stz.set hd pts.length))) = Hj at kp p2 ⊢
        have offp : ∀ H, Off [pp] (pp :: q :: ls :: lp :: M) H := fun H => .sub fun x hx => by rw [List.mem_singleton.mp hx]; exact Wd.mp
        have TAj := TAi.km kp (offp _) ((MutL.nil _).cons p2) (by simp [Wd.np.1.symm]) (by simp [Wd.np.2.symm])
        have q2 := kp _ _ q1 (by simp [Wd.nq.2.2])
        have tkj : Tk K Hi Hj := kp.tk TAi.mu (offp _)
        have plj := (plh.km kq TAh.mu (offq _)).km kp TAi.mu (offp _)
        have objj : ∀ {c : Addr} {o : HO}, Hh c = some o → (∀ xs, o ≠ .lst xs) → (∀ ps, o ≠ .tbl ps) → Hj c = some o := fun e n1 n2 => kp.obj TAi.mu (offp _) (kq.obj TAh.mu (offq _) e n1 n2) n1 n2
        have rj : Hj rr = some (.lst xs) := kp.off (offp _) (kq.off (offq _) rh hrrM) hrrM
        have pnew : PtL K (pp :: q :: ls :: lp :: M) Hj ⟨og, hd, some D, rep p.cs (rN rs), rs⟩ (.ref tt) :=
          ⟨withL lc rs, tt, og, dv, wq, rr, tabw, xs, rfl, tkj _ _ (tki _ _ gtt), .mk' rfl rfl, (dah.tk tki).tk tkj, objj gww (fun _ z => by cases z) (fun _ z => by cases z), aww.mono fun _ _ z => PA.tk tkj (PA.tk tki z), withL_ok lok ro, withL_h3 lh h3r, rw_next sm pok lok okL erw, rj, (rah.tk tki).tk tkj, hrrM⟩
        have kHj : KM [b, l] H Hj := ((kHf.trans (.of sgt)).fr kq fun x hx => by
          rw [List.mem_singleton.mp hx]
          exact .inr hq0).fr kp fun x hx => by
          rw [List.mem_singleton.mp hx]
          exact .inr hpp0
        have BXj : Bx Hj (pp :: q :: ls :: lp :: M) b l ls lp q pp := (((BXd.same se).km kf.km (by simp [BXd.n1.1.symm, BXd.n2.1.symm]) (by simp [BXd.n1.2.symm, BXd.n2.2.symm])).same sgt).km kq (by simp [BXd.n3.1.symm]) (by simp [BXd.n3.2.symm]) |>.km kp (by simp [BXd.n4.1.symm]) (by simp [BXd.n4.2.symm])
        refine ⟨_, _, _, _, _, stz.set hd pts.length, pts ++ [⟨og, hd, some D, rep p.cs (rN rs), rs⟩], ys ++ [.ref tt], rfl, kHj.keep, BXj, ⟨TAj, q2, plj.snoc pnew, p2, Wd.mq, Wd.mp, Wd.nq, Wd.np⟩, wfz.do_ (by omega) hpt okL erwp, fun x hx D' e => ?_, by rw [List.length_set]; exact stzl, by rw [List.length_append, List.length_singleton]; omega⟩
        rcases List.mem_append.mp hx with hx | hx
        · exact g3 x hx D' e
        · rw [List.mem_singleton.mp hx] at e
          cases e
          exact g3d
      · refine ⟨_, rfl, _, _, .str _, .str _, off_shaped, off_shaped, ?_⟩
        rw [evS, decide_eq_true rfl]
        exact ⟨_, rfl, iteF ⟨_, _, _, _, _, stz, pts, ys, rfl, kd.trans (.of se), BXd.same se, Wd.same se, wfz, g3, stzl, by omega⟩⟩
  · rintro σ HA ⟨u6, u7, u8, u9, u10, st, pts, ys, rfl, kA, BA, WA_, wf, g3, stl, ptl⟩
    refine ⟨_, rfl, _, rfl, _, rfl, small (by show 3 ≤ 1000; decide), fun r hr4 => ?_⟩
    have s4 := same_new hr4 (.tup [.ref t, .ref q, .ref pp])
    have hr0 : H r = none := by
      cases z : H r with
      | none => rfl
      | some o =>
        exfalso
        by_cases y : r = b ∨ r = l
        · obtain ⟨z1, ns1, e1, e2, _⟩ := BA.B.ex
          rcases y with rfl | rfl
          · rw [e1] at hr4; cases hr4
          · rw [e2] at hr4; cases hr4
        · rw [not_or] at y
          rw [kA _ _ z y.1 y.2] at hr4
          cases hr4
    exact kk r t ls lp q pp st pts ys _ hr0 hls0 hlp0 hq0 hpp0 (kA.trans (.of s4)) (SqT.of upd_same) (BA.same s4) (WA_.same s4) wf g3 stl ptl
end
end U

namespace U
open PySem L2 PyProof.Rows
section
variable {P : Program} {w : World} {K : PySem.W.Frag} {mg : Str → Option Value} {base : Heap}
/-! ### what is refused, and only that -/
theorem FnOk.none {CX : CXT} {k : Nat} {f : Addr} {fd : FuncData} {ps : List Str} : FnOk P w K mg base CX k f fd ps (fun _ _ _ _ => False) := ⟨fun _ _ _ _ h => h.elim, fun _ _ _ _ _ _ _ _ _ _ _ _ _ h => h.elim⟩
def spAskR (K : PySem.W.Frag) (C CP CN : Addr) (z : Bool) : Sp := fun vs H _ E => ∃ (M : List Addr) (t ls lp : Addr) (st : List Nat) (pts : List Pt) (h : Int), vs = [.ref t, .int h] ∧ TreeA K C CP M H t ls lp st pts ∧ WP pts ∧ (z = true ∧ h = 0 ∨ BadN pts.length h) ∧ Bnd h ∧ ∀ H', Same H H' → E (.ref CN) none H'
theorem ok_leansR {f C CP CN : Addr} {fd : FuncData} (F : Fun K "leans" "leans" s_leans f fd) (C_told : CM (L2N.CX P w) P w K mg base 18 C "told" ["self", "point"] (spTold K C CP CN)) : FnOk P w K mg base (L2N.CX P w) 19 f fd ["tree", "point"] (spAskR K C CP CN true) := by
  refine F.okN sc_leans (fun vs H Q E h => ?_) (fun cdv A outer s H vs Q E hr h => ?_)
  · obtain ⟨M, t, ls, lp, st, pts, h, rfl, _⟩ := h
    rfl
  obtain ⟨M, t, ls, lp, st, pts, h, rfl, TA, wp, bad, bd, kx⟩ := h
  obtain ⟨dx, ht⟩ := TA.ob
  refine ⟨_, (pss_cons (ps_asg (pm_x C_told (hr.mono (by first | exact Nat.le_refl _ | decide | omega)) (L2N.passes_call (L2N.takes_of rfl rfl rfl rfl) (fun _ _ _ _ h => h)) (pv 0) (pa_cons (pv 1) pa_nil)) (pg_tup (by rfl) (pgs_cons (pg_name (i := 2) sc_leans.nd rfl (Or.inl rfl)) (pgs_cons (pg_name (i := 3) sc_leans.nd rfl (Or.inl rfl)) (pgs_cons (pg_name (i := 4) sc_leans.nd rfl (Or.inl rfl)) pgs_nil)))))
      (pss_one ps_never)), ?_⟩
  exact ⟨_, rfl, t, dx, _, rfl, ht, ft_no m_to.1 m_to.2, _, rfl, M, t, ls, lp, st, pts, _, rfl, TA, .inr ⟨bad.imp (fun z => ⟨z.2, wp.pos⟩) (fun z => z), bd, kx⟩⟩
theorem ok_readsR {f C CP CN : Addr} {fd : FuncData} (F : Fun K "reads" "reads" s_reads f fd) (e_NoPoint : ExcF K mg "NoPoint" CN) (C_table : CM (L2N.CX P w) P w K mg base 18 C "table" ["self", "point"] (spTable K C CP CN)) (C_reads_of : Cal P w K mg base 18 "reads_of" ["contents"] (fun _ _ _ _ => False)) : FnOk P w K mg base (L2N.CX P w) 19 f fd ["tree", "point"] (spAskR K C CP CN true) := by
  refine F.okN sc_reads (fun vs H Q E h => ?_) (fun cdv A outer s H vs Q E hr h => ?_)
  · obtain ⟨M, t, ls, lp, st, pts, h, rfl, _⟩ := h
    rfl
  obtain ⟨M, t, ls, lp, st, pts, h, rfl, TA, wp, bad, bd, kx⟩ := h
  obtain ⟨dx, ht⟩ := TA.ob
  refine ⟨_, (pss_cons (ps_if (pt_cmpR op_eq (pv 1) pe_int (nomark _)) (pss_one (L2N.ps_raise rfl (L2N.takes_of rfl rfl rfl rfl) (pmk_x e_NoPoint (by rfl) pe_str))) pss_nil)
      (pss_cons (ps_set (i := 2) sc_reads.nd rfl (Or.inr rfl) (pc_c C_reads_of (hr.mono (by first | exact Nat.le_refl _ | decide | omega)) (by rfl) (pa_cons (pm_x C_table (hr.mono (by first | exact Nat.le_refl _ | decide | omega)) (L2N.passes_call (L2N.takes_of rfl rfl rfl rfl) (fun _ _ _ _ h => h)) (pv 0) (pa_cons (pv 1) pa_nil)) pa_nil)))
      (pss_cons ps_never
      (pss_cons ps_never
      (pss_one ps_never))))), ?_⟩
  refine ⟨_, rfl, rfl, _, rfl, ?_⟩
  by_cases z : h = 0
  · rw [show decide (V.int h = V.int 0) = true from decide_eq_true (by rw [z])]
    exact iteT (kx H (.refl _))
  · rw [show decide (V.int h = V.int 0) = false from decide_eq_false (fun y => z (V.int.inj y))]
    exact iteF ⟨_, rfl, t, dx, _, rfl, ht, ft_no m_ta.1 m_ta.2, _, rfl, M, t, ls, lp, st, pts, _, rfl, TA, .inr ⟨bad.resolve_left fun y => z y.2, bd, kx⟩⟩
theorem ok_worthsR {f C CP CN : Addr} {fd : FuncData} (F : Fun K "worths" "Tree.worths" s_Tree_worths f fd) (T : TrF K C CP) (C_check_point : CM (L2N.CX P w) P w K mg base 18 C "check_point" ["self", "point"] (spCheckP K C CP CN)) : FnOk P w K mg base (L2N.CX P w) 19 f fd ["self", "point"] (spAskR K C CP CN false) := by
  refine F.okN sc_Tree_worths (fun vs H Q E h => ?_) (fun cdv A outer s H vs Q E hr h => ?_)
  · obtain ⟨M, t, ls, lp, st, pts, h, rfl, _⟩ := h
    rfl
  obtain ⟨M, t, ls, lp, st, pts, h, rfl, TA, wp, bad, bd, kx⟩ := h
  obtain ⟨dx, ht⟩ := TA.ob
  refine ⟨_, (pss_cons (ps_expr (pm_x C_check_point (hr.mono (by first | exact Nat.le_refl _ | decide | omega)) (L2N.passes_call (L2N.takes_of rfl rfl rfl rfl) (fun _ _ _ _ h => h)) (pv 0) (pa_cons (pv 1) pa_nil)))
      (pss_one ps_never)), ?_⟩
  exact ⟨_, rfl, t, dx, _, rfl, ht, ft_no m_cp.1 m_cp.2, _, rfl, M, t, ls, lp, st, pts, _, rfl, TA, .inr ⟨bad.resolve_left (fun y => by cases y.1), bd, kx⟩⟩
def spWithoutR (K : PySem.W.Frag) (C CP CH CN : Addr) : Sp := fun vs H _ E => ∃ (M : List Addr) (t ls lp : Addr) (st : List Nat) (pts : List Pt) (h g p : Int) (fl : Bool), vs = [.ref t, .int h, .int g, .int p, .bl fl] ∧ TreeA K C CP M H t ls lp st pts ∧ WF st pts ∧
  ((BadN st.length h ∧ Bnd h ∧ ∀ H', Same H H' → E (.ref CH) none H') ∨
   (∃ n : Nat, h = n ∧ n < st.length ∧ BadN pts.length p ∧ Bnd p ∧ ∀ H', Same H H' → E (.ref CN) none H') ∨
   (∃ (n m : Nat) (l : List Nat), h = n ∧ n < st.length ∧ p = m ∧ m < pts.length ∧ Tr pts m l ∧ Bnd g ∧ (∀ k : Nat, g = k → k = 0 ∨ k ∉ l) ∧ ∀ H', Same H H' → E (.ref CN) none H'))
theorem ok_withoutR {f C CP CH CN : Addr} {fd : FuncData} (F : Fun K "without" "without" s_without f fd) (e_NoPoint : ExcF K mg "NoPoint" CN)
    (C_check_hand : CM (L2N.CX P w) P w K mg base 21 C "check_hand" ["self", "hand"] (spCheckH K C CP CH)) (C_trail : CM (L2N.CX P w) P w K mg base 21 C "trail" ["self", "point"] (spTrail K C CP CN)) :
    FnOk P w K mg base (L2N.CX P w) 24 f fd ["tree", "hand", "gone", "point", "falls"] (spWithoutR K C CP CH CN) := by
  refine F.okN sc_without (fun vs H Q E h => ?_) (fun cdv A outer s H vs Q E hr h => ?_)
  · obtain ⟨M, t, ls, lp, st, pts, h, g, p, fl, rfl, _⟩ := h
    rfl
  obtain ⟨M, t, ls, lp, st, pts, h, g', p, fl, rfl, TA, wf, h2⟩ := h
  obtain ⟨dx, ht⟩ := TA.ob
  refine ⟨_, (pss_cons (ps_expr (pm_x C_check_hand (hr.mono (by first | exact Nat.le_refl _ | decide | omega)) (L2N.passes_call (L2N.takes_of rfl rfl rfl rfl) (fun _ _ _ _ h => h)) (pv 0) (pa_cons (pv 1) pa_nil)))
      (pss_cons (ps_set (i := 5) sc_without.nd rfl (Or.inl rfl) (pm_x C_trail (hr.mono (by first | exact Nat.le_refl _ | decide | omega)) (L2N.passes_call (L2N.takes_of rfl rfl rfl rfl) (fun _ _ _ _ h => h)) (pv 0) (pa_cons (pv 3) pa_nil)))
      (pss_cons (ps_if (PW.pt (pw_or (pt_cmpR op_eq (pv 2) pe_int (nomark _)) (pw_or1 (pt_cmpR op_notIn_seq (pv 2) (pv 5) (nomarkIn _))))) (pss_one (L2N.ps_raise rfl (L2N.takes_of rfl rfl rfl rfl) (pmk_x e_NoPoint (by rfl) (pe_joined (.cons pe_str (.cons (pe_fmt (pv 3)) (.cons pe_str (.cons (pe_fmt (pv 2)) .nil)))))))) pss_nil)
      (pss_cons ps_never
      (pss_cons ps_never
      (pss_cons ps_never
      (pss_one ps_never))))))), ?_⟩
  rcases h2 with ⟨bad, bd, kx⟩ | ⟨n, rfl, hn, bad, bd, kx⟩ | ⟨n, m, l, rfl, hn, rfl, hm, tr, bg, bad, kx⟩
  · exact ⟨_, rfl, t, dx, _, rfl, ht, ft_no m_ch.1 m_ch.2, _, rfl, M, t, ls, lp, st, pts, _, rfl, TA, .inr ⟨bad, bd, kx⟩⟩
  · refine ⟨_, rfl, t, dx, _, rfl, ht, ft_no m_ch.1 m_ch.2, _, rfl, M, t, ls, lp, st, pts, _, rfl, TA, .inl ⟨n, rfl, hn, ?_⟩⟩
    exact ⟨_, rfl, t, dx, _, rfl, ht, ft_no m_tr.1 m_tr.2, _, rfl, M, t, ls, lp, st, pts, _, rfl, TA, .inr ⟨bad, bd, kx⟩⟩
  · refine ⟨_, rfl, t, dx, _, rfl, ht, ft_no m_ch.1 m_ch.2, _, rfl, M, t, ls, lp, st, pts, _, rfl, TA, .inl ⟨n, rfl, hn, ?_⟩⟩
    refine ⟨_, rfl, t, dx, _, rfl, ht, ft_no m_tr.1 m_tr.2, _, rfl, M, t, ls, lp, st, pts, _, rfl, TA, .inl ⟨m, _, rfl, wf.wp, hm, tr, fun a H1 ha s1 g1 => ?_⟩⟩
    have hm200 : (m : Int) < 1000000000 := by have := wf.wp.pl; omega
    have rz : tJs [tC (V.str "no deed on the trail to "), tFmt (tVar 3), tC (V.str ": "), tFmt (tVar 2)] Str.empty ((L2.start ["tree", "hand", "gone", "point", "falls", "trail", "origin", "behind"] [V.ref t, V.int (n : Int), V.int g', V.int (m : Int), V.bl fl]).set 5 (some (V.ref a))) H1 fun _ H1 => E (.ref CN) none H1 := by
      have l1 : ("no deed on the trail to " : Str).length = 24 := by decide +kernel
      have l2 : (": " : Str).length = 2 := by decide +kernel
      have a1 := slen_num9 (n := (m : Int)) (by omega) hm200
      have a2 := slen_num9 bg.1 bg.2
      have q1 : ((m : Int)).natAbs.log2 < 1920 := log_num (by omega) hm200
      have q2 : g'.natAbs.log2 < 1920 := log_num bg.1 bg.2
      refine ⟨_, rfl, small (by decide), _, rfl, .inr ⟨_, rfl, q1, ?_⟩⟩
      refine ⟨_, rfl, ?_, _, rfl, ?_, _, rfl, .inr ⟨_, rfl, q2, ?_⟩⟩
      rotate_left 2
      · refine ⟨_, rfl, ?_, kx H1 s1⟩
        rw [slen_app, slen_app, slen_app, slen_app, slen_empty, l1, l2, sizeLine_eq]
        omega
      · rw [slen_app, slen_app, slen_empty, l1, sizeLine_eq]
        omega
      · rw [slen_app, slen_app, slen_app, slen_empty, l1, l2, sizeLine_eq]
        omega
    refine ⟨_, rfl, rfl, _, rfl, ?_⟩
    by_cases z : g' = 0
    · rw [show decide (V.int g' = V.int 0) = true from decide_eq_true (by rw [z])]
      exact iteT (iteT rz)
    · rw [show decide (V.int g' = V.int 0) = false from decide_eq_false (fun y => z (V.int.inj y))]
      refine iteF ⟨_, rfl, _, rfl, a, _, rfl, .inl (SqL.of g1), rfl, nI_flat _, ?_⟩
      rw [if_pos rfl]
      refine ⟨_, rfl, ?_⟩
      have e : inV (.int g') (nI l) = false := by
        rw [Bool.eq_false_iff]
        intro y
        obtain ⟨v, hv, e⟩ := List.any_eq_true.mp (show ((nI l).any fun y => eqV y (.int g')) = true from y)
        obtain ⟨i, hi, rfl⟩ := List.mem_map.mp hv
        have e2 : (i : Int) = g' := by simpa [eqV] using e
        rcases bad i e2.symm with q | q
        · omega
        · exact q hi
      rw [e]
      exact iteT rz
def spJoinedR (K : PySem.W.Frag) (C CP CH CN : Addr) : Sp := fun vs H _ E => ∃ (M : List Addr) (t ls lp : Addr) (st : List Nat) (pts : List Pt) (h a b : Int), vs = [.ref t, .int h, .int a, .int b] ∧ TreeA K C CP M H t ls lp st pts ∧ WF st pts ∧
  ((BadN st.length h ∧ Bnd h ∧ ∀ H', Same H H' → E (.ref CH) none H') ∨
   (∃ n : Nat, h = n ∧ n < st.length ∧ (BadN pts.length a ∧ Bnd a ∨ a = 0 ∧ BadN pts.length b ∧ Bnd b) ∧ ∀ H', Same H H' → E (.ref CN) none H'))
theorem ok_joinedR {f C CP CH CN : Addr} {fd : FuncData} (F : Fun K "joined" "joined" s_joined f fd)
    (C_check_hand : CM (L2N.CX P w) P w K mg base 21 C "check_hand" ["self", "hand"] (spCheckH K C CP CH)) (C_trail : CM (L2N.CX P w) P w K mg base 21 C "trail" ["self", "point"] (spTrail K C CP CN)) :
    FnOk P w K mg base (L2N.CX P w) 24 f fd ["tree", "hand", "one", "other"] (spJoinedR K C CP CH CN) := by
  refine F.okN sc_joined (fun vs H Q E h => ?_) (fun cdv A outer s H vs Q E hr h => ?_)
  · obtain ⟨M, t, ls, lp, st, pts, h, a, b, rfl, _⟩ := h
    rfl
  obtain ⟨M, t, ls, lp, st, pts, h, a, b, rfl, TA, wf, h2⟩ := h
  obtain ⟨dx, ht⟩ := TA.ob
  refine ⟨_, (pss_cons (ps_expr (pm_x C_check_hand (hr.mono (by first | exact Nat.le_refl _ | decide | omega)) (L2N.passes_call (L2N.takes_of rfl rfl rfl rfl) (fun _ _ _ _ h => h)) (pv 0) (pa_cons (pv 1) pa_nil)))
      (pss_cons (ps_set (i := 4) sc_joined.nd rfl (Or.inr rfl) (pm_x C_trail (hr.mono (by first | exact Nat.le_refl _ | decide | omega)) (L2N.passes_call (L2N.takes_of rfl rfl rfl rfl) (fun _ _ _ _ h => h)) (pv 0) (pa_cons (pv 2) pa_nil)))
      (pss_cons (ps_set (i := 5) sc_joined.nd rfl (Or.inl rfl) (pm_x C_trail (hr.mono (by first | exact Nat.le_refl _ | decide | omega)) (L2N.passes_call (L2N.takes_of rfl rfl rfl rfl) (fun _ _ _ _ h => h)) (pv 0) (pa_cons (pv 3) pa_nil)))
      (pss_cons ps_never
      (pss_cons ps_never
      (pss_cons ps_never
      (pss_cons ps_never
      (pss_one ps_never)))))))), ?_⟩
  rcases h2 with ⟨bad, bd, kx⟩ | ⟨n, rfl, hn, z, kx⟩
  · exact ⟨_, rfl, t, dx, _, rfl, ht, ft_no m_ch.1 m_ch.2, _, rfl, M, t, ls, lp, st, pts, _, rfl, TA, .inr ⟨bad, bd, kx⟩⟩
  · refine ⟨_, rfl, t, dx, _, rfl, ht, ft_no m_ch.1 m_ch.2, _, rfl, M, t, ls, lp, st, pts, _, rfl, TA, .inl ⟨n, rfl, hn, ?_⟩⟩
    rcases z with ⟨bad, bd⟩ | ⟨rfl, bad, bd⟩
    · exact ⟨_, rfl, t, dx, _, rfl, ht, ft_no m_tr.1 m_tr.2, _, rfl, M, t, ls, lp, st, pts, _, rfl, TA, .inr ⟨bad, bd, kx⟩⟩
    · refine ⟨_, rfl, t, dx, _, rfl, ht, ft_no m_tr.1 m_tr.2, _, rfl, M, t, ls, lp, st, pts, _, rfl, TA, .inl ⟨0, [0], rfl, wf.wp, wf.wp.pos, .zero, fun r H1 hr1 s1 g1 => ?_⟩⟩
      exact ⟨_, rfl, t, dx, _, rfl, s1 _ _ ht, ft_no m_tr.1 m_tr.2, _, rfl, M, t, ls, lp, st, pts, _, rfl, TA.same s1, .inr ⟨bad, bd, fun H' s' => kx H' (s1.trans s')⟩⟩
end
end U

namespace U
open PySem PySem.Spec L2 PyProof.Rows
/-! ### a def out of a list, called -/
theorem iteT_of {b : Bool} {A B : Prop} (h : b = true) (q : A) : if b = true then A else B := by
  rw [h, if_pos rfl]
  exact q
theorem iteF_of {b : Bool} {A B : Prop} (h : b = false) (q : B) : if b = true then A else B := by
  rw [h, if_neg Bool.false_ne_true]
  exact q
theorem pe_fn {X : Cx} {x : Str} {f : Addr} {p : Pos} (hg : Gl X x) (hm : X.mg x = some (.ref f)) (hdb : (x == ("__debug__" : Str)) = false := by decide) : PE X (.Name x p) (tC (.ref f)) :=
  ⟨fun pins s σ H Q I h => ld_glob I hg hm ⟨.ref f, H, I, rfl, h⟩ hdb⟩
def tCallIx (X : Cx) (k : Nat) (E : XK) (t : TE) (ta : TA) : TE := fun σ H Q => t σ H fun v H1 => ∃ (f : Addr) (fd : FuncData) (ps : List Str) (sp : Sp), v = .ref f ∧ FnOk X.prog X.w X.K X.mg X.base (L2N.CX X.prog X.w) k f fd ps sp ∧ PySem.W.keepIn X.K (.ref f) = true ∧ Binds X.K fd ps [] ∧ ta σ H1 fun vs H2 => sp vs H2 Q E
theorem pe_callIx {X : Cx} {k : Nat} {a b e : Expr} {es : List Expr} {p pos : Pos} {t : TE} {ta : TA} {E : XK} (hr : Room k X.A) (hf : PE X (.Subscript a b p) t) (hx : Passes (L2N.CX X.prog X.w) X E) (ha : L2.PA X (e :: es) ta)
    (he : starEach (e :: es) X.env = (false, eval e X.env) :: starEach es X.env := by rfl) (hpl : (backTo pos (starEach es X.env)).any (·.1) = false := by rfl) : PE X (.Call (.Subscript a b p) (e :: es) [] pos) (tCallIx X k E t ta) := by
  refine ⟨fun pins s σ H Q I h => ?_⟩
  show wpAny _ _ (do callWith pos (← eval (.Subscript a b p) X.env) [] (backTo pos (starEach (e :: es) X.env)) (backToKw pos (keywordEach [] X.env))) _ _ s
  refine wpAny_bind (thn (hf.run pins s σ H _ I h) fun u s1 ⟨v, H1, I1, r1, q⟩ => ?_)
  obtain ⟨f, fd, ps, sp, rfl, F, hk, hb, q⟩ := q
  obtain rfl : u = Value.ref f := r1
  refine PySem.W.callWith_K (h₀ := X.base) I.ok.mod.kin hk (thn (ha.run pos pins s1 σ H1 _ I1 q) fun us s2 ⟨vs, H2, I2, r, q2⟩ => ⟨I2.kIn, ?_⟩) he hpl
  exact run_fn F hr hb .nil hx I2 r (by rw [List.append_nil]; exact q2)
theorem CalX.call {P : Program} {w : World} {K : PySem.W.Frag} {mg : Str → Option Value} {base : Heap} {j k : Nat} {x : Str} {ps : List Str} {sp : Sp} (c : CalX P w K mg base j x ps sp) (h : j ≤ k) : ∃ (f : Addr) (fd : FuncData), mg x = some (.ref f) ∧ FnOk P w K mg base (L2N.CX P w) k f fd ps sp ∧ PySem.W.keepIn K (.ref f) = true ∧ Binds K fd ps [] := by
  obtain ⟨f, fd, F, a, b, d⟩ := c.ex
  exact ⟨f, fd, a, F.mono h, b, d⟩
end U

namespace U
open PySem L2 PyProof.Rows
section
variable {P : Program} {w : World} {K : PySem.W.Frag} {mg : Str → Option Value} {base : Heap}
/-! ### which refusal it was -/
theorem takes_len {X : Cx} {W : WX} (tk : L2N.Takes X W) : L2N.Takes X (fun cls d σ H => σ.length = X.N.length → W cls d σ H) := by
  intro e s' x
  obtain ⟨a, B, sI, pins, σ, H, cls, d, e0, I, r⟩ := x
  apply tk
  obtain ⟨h1, h2, h3, h4, h5, h6, h7⟩ := r
  exact ⟨a, B, sI, pins, σ, H, cls, d, e0, I, h1, h2, h3, h4, h5, h6, h7 I.len⟩
def wds : List Str := ["hand", "point", "cell", "formula", "off", "note"]
def wdv (i : Nat) : V := ((wds.map V.str)[i]?).getD .non
def TRf (D : Addr) (i : Nat) : (XK → Hp → VK → Prop) → Hp → VK → Prop := fun tl H Q => tl (fun cls d H' => cls = .ref D ∧ d = none ∧ ∀ (r : Addr) (H'' : Hp), H' r = none → Same H' H'' → H'' r = some (.lst [wdv i, .bl true]) → Q (.ref r) H'') H (fun _ H1 => ([] : List V).length ≤ sizeLine ∧ ∀ p, H1 p = none → Q (.ref p) (upd H1 p (.lst [])))
structure RefF (K : PySem.W.Frag) (mg : Str → Option Value) (CT CH CP CN CB CF CX D : Addr) (i : Nat) : Prop where
  B : Bt mg
  e_TableError : ExcF K mg "TableError" CT
  e_NoHand : ExcF K mg "NoHand" CH
  e_NoPoint : ExcF K mg "NoPoint" CP
  e_NoCell : ExcF K mg "NoCell" CN
  e_BadFormula : ExcF K mg "BadFormula" CB
  e_OffTable : ExcF K mg "OffTable" CF
  e_BadNote : GRef mg "BadNote" CX
  c_D : ExcC K D
  x1 : PySem.W.exmOne K (.ref D) (.ref CT) = some true
  k0 : PySem.W.kitOne K (.ref D) (.ref CH) = some (decide (i = 0))
  k1 : PySem.W.kitOne K (.ref D) (.ref CP) = some (decide (i = 1))
  k2 : PySem.W.kitOne K (.ref D) (.ref CN) = some (decide (i = 2))
  k3 : PySem.W.kitOne K (.ref D) (.ref CB) = some (decide (i = 3))
  k4 : PySem.W.kitOne K (.ref D) (.ref CF) = some (decide (i = 4))
  k5 : PySem.W.kitOne K (.ref D) (.ref CX) = some (decide (i = 5))
  kV : PySem.W.kitOne K (.ref D) (.type "ValueError") = some true
  il : i < 6
theorem gives_refusal {X : Cx} {g CT CH CP CN CB CF CX D : Addr} {i : Nat} {cdv : Value} {q : Str} (T : RefF X.K X.mg CT CH CP CN CB CF CX D i) : GivesN X ["_law_work", "e", "_law_kinds", "_law_words", "_law_k"] "_law_refusal" (defScope s_l_refusal) g cdv (defBody s_l_refusal) "_law_work" q (TRf D i) := by
  obtain ⟨B, e_TableError, e_NoHand, e_NoPoint, e_NoCell, e_BadFormula, e_OffTable, e_BadNote, c_D, x1, k0, k1, k2, k3, k4, k5, kV, il⟩ := T
  intro f c' s H Q tl act0 hc h
  have act : ∀ (W : WX) (pn : List (Addr × Obj)) (xe : Value → Shared → Prop) (p1 p2 : Pos), L2N.Takes ((cxOf CX0 X.prog X.w X.K X.mg X.base ["_law_work", "e", "_law_kinds", "_law_words", "_law_k"] "_law_refusal" (defScope s_l_refusal) g cdv X.A X.stack s H E0).nox.tr pn xe) W →
      PE ((cxOf CX0 X.prog X.w X.K X.mg X.base ["_law_work", "e", "_law_kinds", "_law_words", "_law_k"] "_law_refusal" (defScope s_l_refusal) g cdv X.A X.stack s H E0).nox.tr pn xe) (.Call (.Name "_law_work" p1) [] [] p2)
        (fun σZ HZ Q => ∃ Ech : XK, (∀ cls d σ' H', Ech cls d H' → σ'.length = 5 → W cls d σ' H') ∧ σZ[0]? = some (some (.ref f)) ∧ HZ c' = some (LamX.CodeO c' q) ∧ tl Ech HZ Q) := fun W pn xe p1 p2 tk =>
    ⟨fun pins s σ H Q I hh => by
      obtain ⟨Ech, hW, h1, h2, h3⟩ := hh
      exact (act0 (fun cls d σ H => σ.length = 5 → W cls d σ H) pn xe Ech p1 p2 (takes_len tk) hW).run pins s σ H Q I ⟨h1, h2, h3⟩⟩
  refine ⟨_, (pss_cons (L2N.ps_try_as (i := 1) (Wout := fun _ _ _ _ => False) rfl rfl sc_l_refusal.nd rfl rfl ⟨(by rfl), by decide, Or.inl e_TableError.g⟩ takes0N (fun W pn xe tk _ => (pss_one (ps_expr (act W pn xe _ _ tk))))
      (fun a oe cls d pn hz hf => (pss_cons (ps_set (i := 2) sc_l_refusal.nd rfl (Or.inr rfl) (pe_lst (pa_cons (pe_callB (call_isX c_D hz.zc hf) (by rfl) B.isinstance boot_isinstance (pa_cons (pv 1) (pa_cons (pe_gr e_NoHand.g (by rfl)) pa_nil))) (pa_cons (pe_callB (call_isX c_D hz.zc hf) (by rfl) B.isinstance boot_isinstance (pa_cons (pv 1) (pa_cons (pe_gr e_NoPoint.g (by rfl)) pa_nil))) (pa_cons (pe_callB (call_isX c_D hz.zc hf) (by rfl) B.isinstance boot_isinstance (pa_cons (pv 1) (pa_cons (pe_gr e_NoCell.g (by rfl)) pa_nil))) (pa_cons (pe_callB (call_isX c_D hz.zc hf) (by rfl) B.isinstance boot_isinstance (pa_cons (pv 1) (pa_cons (pe_gr e_BadFormula.g (by rfl)) pa_nil))) pa_nil))))))
      (pss_cons (ps_set (i := 2) sc_l_refusal.nd rfl (Or.inr rfl) (pe_op op_cat (pv 2) (pe_lst (pa_cons (pe_callB (call_isX c_D hz.zc hf) (by rfl) B.isinstance boot_isinstance (pa_cons (pv 1) (pa_cons (pe_gr e_OffTable.g (by rfl)) pa_nil))) (pa_cons (pe_callB (call_isX c_D hz.zc hf) (by rfl) B.isinstance boot_isinstance (pa_cons (pv 1) (pa_cons (pe_gr e_BadNote.g (by rfl)) pa_nil))) pa_nil)))))
      (pss_cons (ps_set (i := 3) sc_l_refusal.nd rfl (Or.inr rfl) (pe_lst (pa_cons pe_str (pa_cons pe_str (pa_cons pe_str (pa_cons pe_str (pa_cons pe_str (pa_cons pe_str pa_nil))))))))
      (pss_one (ps_ret (pe_op op_cat (pe_lcH (own := [("_law_k", 4)]) (let ⟨vs0, ev0⟩ := hf; ⟨(a, oe), ⟨rfl, vs0, ev0, hz.2.2 vs0 ev0⟩, List.mem_cons_self⟩) sc_l_refusal.nd (L2H.pi_range1H (by rfl) B.range (pa_cons pe_int pa_nil)) (blkOk_by (N := ["_law_work", "e", "_law_kinds", "_law_words", "_law_k"]) (sc := defScope s_l_refusal) (by decide +kernel)) (fun _ _ _ _ _ => pg_name (i := 4) sc_l_refusal.nd rfl (Or.inl rfl)) (fun _ _ _ _ _ => (pts_one (pt_val (pe_ix (ix_listK (K := X.K) rfl) (pv 2) (pv 4) (fun _ _ => rfl))))) (fun _ _ _ _ _ => (pe_ix (ix_listK (K := X.K) rfl) (pv 3) (pv 4) (fun _ _ => rfl)))) (pe_lst (pa_cons (pe_callB (call_isX c_D hz.zc hf) (by rfl) B.isinstance boot_isinstance (pa_cons (pv 1) (pa_cons (pe_bltn (v := .ty "ValueError") (by rfl) B.ValueError boot_ValueError rfl) pa_nil))) pa_nil))))))))))
      (pss_one (ps_ret (pe_lst pa_nil)))), ?_⟩
  refine ⟨fun cls d H' => cls = .ref D ∧ d = none ∧ ∀ (r : Addr) (H'' : Hp), H' r = none → Same H' H'' → H'' r = some (.lst [wdv i, .bl true]) → Q (.ref r) H'', ?_, rfl, hc, h⟩
  rintro cls d σ' H' ⟨rfl, rfl, kk⟩ hl
  refine ⟨true, x1, fun _ ea hea => ?_, fun z => by cases z⟩
  match σ', hl with
  | [u0, u1, u2, u3, u4], _ =>
    refine ⟨_, rfl, isX_ref k0 ⟨_, rfl, isX_ref k1 ⟨_, rfl, isX_ref k2 ⟨_, rfl, isX_ref k3 ⟨small (by show 4 ≤ 1000; decide), fun p1 hp1 => ?_⟩⟩⟩⟩⟩
    have s1 := same_new hp1 (.lst [.bl (decide (i = 0)), .bl (decide (i = 1)), .bl (decide (i = 2)), .bl (decide (i = 3))])
    have g1 : upd H' p1 (.lst [.bl (decide (i = 0)), .bl (decide (i = 1)), .bl (decide (i = 2)), .bl (decide (i = 3))]) p1 = some (.lst [.bl (decide (i = 0)), .bl (decide (i = 1)), .bl (decide (i = 2)), .bl (decide (i = 3))]) := upd_same
    generalize upd H' p1 (.lst [.bl (decide (i = 0)), .bl (decide (i = 1)), .bl (decide (i = 2)), .bl (decide (i = 3))]) = H1 at s1 g1 ⊢
    refine ⟨_, rfl, _, rfl, isX_ref k4 ⟨_, rfl, isX_ref k5 ⟨small (by show 2 ≤ 1000; decide), fun p2 hp2 => ?_⟩⟩⟩
    have s2 := s1.trans (same_new hp2 (.lst [.bl (decide (i = 4)), .bl (decide (i = 5))]))
    have g2 : upd H1 p2 (.lst [.bl (decide (i = 4)), .bl (decide (i = 5))]) p2 = some (.lst [.bl (decide (i = 4)), .bl (decide (i = 5))]) := upd_same
    have g12 := same_new hp2 (.lst [.bl (decide (i = 4)), .bl (decide (i = 5))]) _ _ g1
    generalize upd H1 p2 (.lst [.bl (decide (i = 4)), .bl (decide (i = 5))]) = H2 at s2 g2 g12 ⊢
    simp only [List.set_cons_zero, List.set_cons_succ]
    refine ⟨p1, p2, _, _, rfl, rfl, g12, g2, small (by show 6 ≤ 1000; decide), fun p3 hp3 => ?_⟩
    have s3 := s2.trans (same_new hp3 (.lst ((List.range 6).map fun j => V.bl (decide (i = j)))))
    have g3 : upd H2 p3 (.lst ((List.range 6).map fun j => V.bl (decide (i = j)))) p3 = some (.lst ((List.range 6).map fun j => V.bl (decide (i = j)))) := upd_same
    have e6 : [V.bl (decide (i = 0)), V.bl (decide (i = 1)), V.bl (decide (i = 2)), V.bl (decide (i = 3))] ++ [V.bl (decide (i = 4)), V.bl (decide (i = 5))] = (List.range 6).map fun j => V.bl (decide (i = j)) := rfl
    rw [e6]
    generalize upd H2 p3 (.lst ((List.range 6).map fun j => V.bl (decide (i = j)))) = H3 at s3 g3 ⊢
    refine ⟨small (by show 6 ≤ 1000; decide), fun p4 hp4 => ?_⟩
    have s4 := s3.trans (same_new hp4 (.lst (wds.map V.str)))
    have g4 : upd H3 p4 (.lst (wds.map V.str)) p4 = some (.lst (wds.map V.str)) := upd_same
    have g34 := same_new hp4 (.lst (wds.map V.str)) _ _ g3
    have e7 : [V.str "hand", V.str "point", V.str "cell", V.str "formula", V.str "off", V.str "note"] = wds.map V.str := rfl
    rw [e7]
    generalize upd H3 p4 (.lst (wds.map V.str)) = H4 at s4 g4 g34 ⊢
    simp only [List.set_cons_zero, List.set_cons_succ]
    refine ⟨6, rfl, by omega, by omega, fun D5 hD5 => ?_⟩
    refine lc_range (lo := 0) (n := 6) (fun j Hj => Same H4 Hj ∧ Hj D5 = some (.lst (if i < j then [wdv i] else []))) ⟨same_new hD5 _, by rw [upd_same]; rfl⟩ ?_ ?_
    · rintro j Hj hj ⟨sj, gj⟩
      rw [show (0 : Int) + (j : Int) = (j : Int) by omega]
      have k3 : ((List.range 6).map fun j => V.bl (decide (i = j)))[j]? = some (.bl (decide (i = j))) := by
        rw [List.getElem?_map, List.getElem?_range hj]
        rfl
      refine ⟨wipe_in (by decide), _, rfl, _, rfl, p3, _, _, _, rfl, rfl, SqL.of (sj _ _ g34), atI_nat k3, _, rfl, ?_⟩
      by_cases z : i = j
      · subst z
        rw [decide_eq_true rfl]
        have k4 : (wds.map V.str)[i]? = some (wdv i) := by
          unfold wdv
          rw [List.getElem?_eq_getElem (by rw [List.length_map]; exact il)]
          rfl
        rw [if_neg (Nat.lt_irrefl i)] at gj
        refine iteT ⟨_, rfl, _, rfl, p4, _, _, _, rfl, rfl, SqL.of (sj _ _ g4), atI_nat k4, [], gj, small (by decide), fun c o e => ?_, ?_⟩
        · rw [upd_ne (ne_of_none e hD5)]
          exact sj _ _ e
        · rw [upd_same, if_pos (Nat.lt_succ_self i)]
          rfl
      · rw [decide_eq_false z]
        refine iteF ⟨sj, ?_⟩
        rw [gj]
        by_cases y : i < j
        · rw [if_pos y, if_pos (by omega)]
        · rw [if_neg y, if_neg (by omega)]
    · rintro H5 ⟨s5, g5⟩
      rw [if_pos il] at g5
      refine ⟨_, rfl, isX_val kV ⟨small (by show 1 ≤ 1000; decide), fun p6 hp6 => ?_⟩⟩
      have s6 := (s4.trans s5).trans (same_new hp6 (.lst [.bl true]))
      refine ⟨D5, p6, _, _, rfl, rfl, same_new hp6 _ _ _ g5, upd_same, small (by show 2 ≤ 1000; decide), fun p7 hp7 => ?_⟩
      exact kk p7 _ (s6.free hp7) (s6.trans (same_new hp7 _)) upd_same
end
end U

namespace U
open PySem L2 PyProof.Rows
section
variable {P : Program} {w : World} {K : PySem.W.Frag} {mg : Str → Option Value} {base : Heap}
/-! ### what the law asks for in vain -/
theorem bnd0 : Bnd 0 := ⟨by omega, by omega⟩
def spAtH (K : PySem.W.Frag) (C CP CH : Addr) : Sp := fun vs H _ E => ∃ (M : List Addr) (t ls lp : Addr) (st : List Nat) (pts : List Pt) (bad far : Int) (way : Nat), vs = [.ref t, .int bad, .int far, .int (way : Int)] ∧ TreeA K C CP M H t ls lp st pts ∧ WF st pts ∧ BadN st.length bad ∧ Bnd bad ∧ way < 5 ∧ ∀ H', Same H H' → E (.ref CH) none H'
theorem ok_lat_hands {f C CP CF CH CN : Addr} {fd : FuncData} (F : Fun K "_law_at_hands" "_law_at_hands" s_l_at_hands f fd) (C_do : CM (L2N.CX P w) P w K mg base 29 C "do" ["self", "hand", "deed"] (spDo K C CP CF CH)) (C_here : CM (L2N.CX P w) P w K mg base 29 C "here" ["self", "hand"] (spHere K C CP CH)) (C_go : CM (L2N.CX P w) P w K mg base 29 C "go" ["self", "hand", "point"] (spGo K C CP CH CN))
    (C_without : CalX P w K mg base 29 "without" ["tree", "hand", "gone", "point", "falls"] (spWithoutR K C CP CH CN)) (C_joined : CalX P w K mg base 29 "joined" ["tree", "hand", "one", "other"] (spJoinedR K C CP CH CN)) :
    FnOk P w K mg base (L2N.CX P w) 30 f fd ["_law_tree", "_law_bad", "_law_far", "_law_way"] (spAtH K C CP CH) := by
  refine F.okN sc_l_at_hands (fun vs H Q E h => ?_) (fun cdv A outer s H vs Q E hr h => ?_)
  · obtain ⟨M, t, ls, lp, st, pts, bad, far, way, rfl, _⟩ := h
    rfl
  obtain ⟨M, t, ls, lp, st, pts, bad, far, way, rfl, TA, wf, hb, bd, hw, kx⟩ := h
  obtain ⟨dx, ht⟩ := TA.ob
  refine ⟨_, (pss_one (ps_if (pt_cmpR op_eq (pv 3) pe_int (nomark _)) (pss_one (ps_expr (pm_x C_do (hr.mono (by first | exact Nat.le_refl _ | decide | omega)) (L2N.passes_call (L2N.takes_of rfl rfl rfl rfl) (fun _ _ _ _ h => h)) (pv 0) (pa_cons (pv 1) (pa_cons (pe_tup (pa_cons pe_str (pa_cons pe_str (pa_cons pe_str pa_nil)))) pa_nil))))) (pss_one (ps_if (pt_cmpR op_eq (pv 3) pe_int (nomark _)) (pss_one (ps_expr (pm_x C_here (hr.mono (by first | exact Nat.le_refl _ | decide | omega)) (L2N.passes_call (L2N.takes_of rfl rfl rfl rfl) (fun _ _ _ _ h => h)) (pv 0) (pa_cons (pv 1) pa_nil)))) (pss_one (ps_if (pt_cmpR op_eq (pv 3) pe_int (nomark _)) (pss_one (ps_expr (pm_x C_go (hr.mono (by first | exact Nat.le_refl _ | decide | omega)) (L2N.passes_call (L2N.takes_of rfl rfl rfl rfl) (fun _ _ _ _ h => h)) (pv 0) (pa_cons (pv 1) (pa_cons (pv 2) pa_nil))))) (pss_one (ps_if (pt_cmpR op_eq (pv 3) pe_int (nomark _)) (pss_one (ps_expr (pc_x C_without (hr.mono (by first | exact Nat.le_refl _ | decide | omega)) (by rfl) (L2N.passes_call (L2N.takes_of rfl rfl rfl rfl) (fun _ _ _ _ h => h)) (pa_cons (pv 0) (pa_cons (pv 1) (pa_cons (pv 2) (pa_cons (pv 2) (pa_cons pe_bl pa_nil)))))))) (pss_one (ps_expr (pc_x C_joined (hr.mono (by first | exact Nat.le_refl _ | decide | omega)) (by rfl) (L2N.passes_call (L2N.takes_of rfl rfl rfl rfl) (fun _ _ _ _ h => h)) (pa_cons (pv 0) (pa_cons (pv 1) (pa_cons (pv 2) (pa_cons pe_int pa_nil))))))))))))))), ?_⟩
  obtain rfl | rfl | rfl | rfl | rfl : way = 0 ∨ way = 1 ∨ way = 2 ∨ way = 3 ∨ way = 4 := by omega
  · refine ⟨_, rfl, rfl, _, rfl, iteT_of (by decide +kernel) ?_⟩
    refine ⟨_, rfl, t, dx, _, rfl, ht, ft_no m_do.1 m_do.2, _, rfl, small (by show 3 ≤ 1000; decide), fun p hp => ?_⟩
    have s1 := same_new hp (.tup [.str "set", .str "z9", .str "x"])
    exact ⟨M, t, ls, lp, st, pts, _, _, rfl, TA.same s1, wf, .inr ⟨hb, bd, fun H' s' => kx H' (s1.trans s')⟩⟩
  · refine ⟨_, rfl, rfl, _, rfl, iteF_of (by decide +kernel) ⟨_, rfl, rfl, _, rfl, iteT_of (by decide +kernel) ?_⟩⟩
    exact ⟨_, rfl, t, dx, _, rfl, ht, ft_no m_he.1 m_he.2, _, rfl, M, t, ls, lp, st, pts, _, rfl, TA, .inr ⟨hb, bd, kx⟩⟩
  · refine ⟨_, rfl, rfl, _, rfl, iteF_of (by decide +kernel) ⟨_, rfl, rfl, _, rfl, iteF_of (by decide +kernel) ⟨_, rfl, rfl, _, rfl, iteT_of (by decide +kernel) ?_⟩⟩⟩
    exact ⟨_, rfl, t, dx, _, rfl, ht, ft_no m_go.1 m_go.2, _, rfl, _, rfl, M, t, ls, lp, st, pts, _, _, rfl, TA, wf, .inr (.inl ⟨hb, bd, kx⟩)⟩
  · refine ⟨_, rfl, rfl, _, rfl, iteF_of (by decide +kernel) ⟨_, rfl, rfl, _, rfl, iteF_of (by decide +kernel) ⟨_, rfl, rfl, _, rfl, iteF_of (by decide +kernel) ⟨_, rfl, rfl, _, rfl, iteT_of (by decide +kernel) ?_⟩⟩⟩⟩
    exact ⟨_, rfl, _, rfl, _, rfl, _, rfl, M, t, ls, lp, st, pts, _, _, _, _, rfl, TA, wf, .inl ⟨hb, bd, kx⟩⟩
  · refine ⟨_, rfl, rfl, _, rfl, iteF_of (by decide +kernel) ⟨_, rfl, rfl, _, rfl, iteF_of (by decide +kernel) ⟨_, rfl, rfl, _, rfl, iteF_of (by decide +kernel) ⟨_, rfl, rfl, _, rfl, iteF_of (by decide +kernel) ?_⟩⟩⟩⟩
    exact ⟨_, rfl, _, rfl, _, rfl, M, t, ls, lp, st, pts, _, _, _, rfl, TA, wf, .inl ⟨hb, bd, kx⟩⟩
def spAtF (K : PySem.W.Frag) (C CP CN : Addr) : Sp := fun vs H _ E => ∃ (M : List Addr) (t ls lp : Addr) (st : List Nat) (pts : List Pt) (way : Nat), vs = [.ref t, .int (way : Int)] ∧ TreeA K C CP M H t ls lp st pts ∧ WF st pts ∧ 0 < st.length ∧ way < 4 ∧ ∀ H', Same H H' → E (.ref CN) none H'
theorem ok_lat_first {f fl fe C CP CH CN : Addr} {fd fld fed : FuncData} (F : Fun K "_law_at_first" "_law_at_first" s_l_at_first f fd) (m_leans : mg "leans" = some (.ref fl)) (O_leans : FnOk P w K mg base (L2N.CX P w) 25 fl fld ["tree", "point"] (spAskR K C CP CN true)) (k_leans : PySem.W.keepIn K (.ref fl) = true) (b_leans : Binds K fld ["tree", "point"] [])
    (m_reads : mg "reads" = some (.ref fe)) (O_reads : FnOk P w K mg base (L2N.CX P w) 25 fe fed ["tree", "point"] (spAskR K C CP CN true)) (k_reads : PySem.W.keepIn K (.ref fe) = true) (b_reads : Binds K fed ["tree", "point"] [])
    (C_told : CM (L2N.CX P w) P w K mg base 29 C "told" ["self", "point"] (spTold K C CP CN)) (C_without : CalX P w K mg base 29 "without" ["tree", "hand", "gone", "point", "falls"] (spWithoutR K C CP CH CN)) :
    FnOk P w K mg base (L2N.CX P w) 30 f fd ["_law_tree", "_law_way"] (spAtF K C CP CN) := by
  refine F.okN sc_l_at_first (fun vs H Q E h => ?_) (fun cdv A outer s H vs Q E hr h => ?_)
  · obtain ⟨M, t, ls, lp, st, pts, way, rfl, _⟩ := h
    rfl
  obtain ⟨M, t, ls, lp, st, pts, way, rfl, TA, wf, st0, hw, kx⟩ := h
  obtain ⟨dx, ht⟩ := TA.ob
  have pos := wf.wp.pos
  refine ⟨_, (pss_one (ps_if (pt_cmpR op_eq (pv 1) pe_int (nomark _)) (pss_one (ps_expr (pm_x C_told (hr.mono (by first | exact Nat.le_refl _ | decide | omega)) (L2N.passes_call (L2N.takes_of rfl rfl rfl rfl) (fun _ _ _ _ h => h)) (pv 0) (pa_cons pe_int pa_nil)))) (pss_one (ps_if (pt_cmpR op_lt (pv 1) pe_int (nomark _)) (pss_one (ps_expr (pe_callIx (k := 25) (hr.mono (by decide)) (pe_ix ix_list (pe_lst (pa_cons (pe_fn (by rfl) m_leans) (pa_cons (pe_fn (by rfl) m_reads) pa_nil))) (pe_op op_sub (pv 1) pe_int) (fun _ _ => rfl)) (L2N.passes_call (L2N.takes_of rfl rfl rfl rfl) (fun _ _ _ _ h => h)) (pa_cons (pv 0) (pa_cons pe_int pa_nil))))) (pss_one (ps_expr (pc_x C_without (hr.mono (by first | exact Nat.le_refl _ | decide | omega)) (by rfl) (L2N.passes_call (L2N.takes_of rfl rfl rfl rfl) (fun _ _ _ _ h => h)) (pa_cons (pv 0) (pa_cons pe_int (pa_cons pe_int (pa_cons pe_int (pa_cons pe_bl pa_nil)))))))))))), ?_⟩
  have ask : ∀ {q : Addr} {o : HO}, H q = none → spAskR K C CP CN true [.ref t, .int 0] (upd H q o) (fun _ _ => True) (fun c d H' => E c d H') := fun {q o} hq =>
    ⟨M, t, ls, lp, st, pts, 0, rfl, TA.same (same_new hq o), wf.wp, .inl ⟨rfl, rfl⟩, bnd0, fun H' s' => kx H' ((same_new hq o).trans s')⟩
  obtain rfl | rfl | rfl | rfl : way = 0 ∨ way = 1 ∨ way = 2 ∨ way = 3 := by omega
  · refine ⟨_, rfl, rfl, _, rfl, iteT_of (by decide +kernel) ?_⟩
    exact ⟨_, rfl, t, dx, _, rfl, ht, ft_no m_to.1 m_to.2, M, t, ls, lp, st, pts, _, rfl, TA, .inr ⟨.inl ⟨rfl, pos⟩, bnd0, kx⟩⟩
  · refine ⟨_, rfl, rfl, _, rfl, iteF_of (by decide +kernel) ⟨_, rfl, _, _, rfl, rfl, _, rfl, iteT_of (by decide +kernel) ?_⟩⟩
    refine ⟨small (by show 2 ≤ 1000; decide), fun q hq => ?_⟩
    exact ⟨_, rfl, _, _, rfl, rfl, q, _, _, _, rfl, rfl, SqL.of upd_same, rfl, fl, fld, _, _, rfl, O_leans, k_leans, b_leans, _, rfl, ask hq⟩
  · refine ⟨_, rfl, rfl, _, rfl, iteF_of (by decide +kernel) ⟨_, rfl, _, _, rfl, rfl, _, rfl, iteT_of (by decide +kernel) ?_⟩⟩
    refine ⟨small (by show 2 ≤ 1000; decide), fun q hq => ?_⟩
    exact ⟨_, rfl, _, _, rfl, rfl, q, _, _, _, rfl, rfl, SqL.of upd_same, rfl, fe, fed, _, _, rfl, O_reads, k_reads, b_reads, _, rfl, ask hq⟩
  · refine ⟨_, rfl, rfl, _, rfl, iteF_of (by decide +kernel) ⟨_, rfl, _, _, rfl, rfl, _, rfl, iteF_of (by decide +kernel) ?_⟩⟩
    exact ⟨_, rfl, M, t, ls, lp, st, pts, _, _, _, _, rfl, TA, wf, .inr (.inr ⟨0, 0, [0], rfl, st0, rfl, pos, .zero, bnd0, fun k hk => .inl (by omega), kx⟩)⟩
end
end U

namespace U
open PySem L2 PyProof.Rows
section
variable {P : Program} {w : World} {K : PySem.W.Frag} {mg : Str → Option Value} {base : Heap}
/-! ### thirteen ways to ask of a point that there is not -/
def spAtP (K : PySem.W.Frag) (C CP CN : Addr) : Sp := fun vs H _ E => ∃ (M : List Addr) (t ls lp : Addr) (st : List Nat) (pts : List Pt) (hv : V) (bad : Int) (way : Nat), vs = [.ref t, hv, .int bad, .int (way : Int)] ∧ TreeA K C CP M H t ls lp st pts ∧ WF st pts ∧ 0 < st.length ∧ BadN pts.length bad ∧ Bnd bad ∧ way < 13 ∧ ∀ H', Same H H' → E (.ref CN) none H'
theorem ok_lat_points {f fl fe C CP CH CN : Addr} {fd fld fed : FuncData} (F : Fun K "_law_at_points" "_law_at_points" s_l_at_points f fd) (m_leans : mg "leans" = some (.ref fl)) (O_leans : FnOk P w K mg base (L2N.CX P w) 25 fl fld ["tree", "point"] (spAskR K C CP CN true)) (k_leans : PySem.W.keepIn K (.ref fl) = true) (b_leans : Binds K fld ["tree", "point"] [])
    (m_reads : mg "reads" = some (.ref fe)) (O_reads : FnOk P w K mg base (L2N.CX P w) 25 fe fed ["tree", "point"] (spAskR K C CP CN true)) (k_reads : PySem.W.keepIn K (.ref fe) = true) (b_reads : Binds K fed ["tree", "point"] [])
    (C_go : CM (L2N.CX P w) P w K mg base 29 C "go" ["self", "hand", "point"] (spGo K C CP CH CN)) (C_table : CM (L2N.CX P w) P w K mg base 29 C "table" ["self", "point"] (spTable K C CP CN)) (C_worths : CM (L2N.CX P w) P w K mg base 29 C "worths" ["self", "point"] (spAskR K C CP CN false)) (C_told : CM (L2N.CX P w) P w K mg base 29 C "told" ["self", "point"] (spTold K C CP CN))
    (C_trail : CM (L2N.CX P w) P w K mg base 29 C "trail" ["self", "point"] (spTrail K C CP CN)) (C_road : CM (L2N.CX P w) P w K mg base 29 C "road" ["self", "one", "other"] (spRoad K C CP CN)) (C_without : CalX P w K mg base 29 "without" ["tree", "hand", "gone", "point", "falls"] (spWithoutR K C CP CH CN)) (C_joined : CalX P w K mg base 29 "joined" ["tree", "hand", "one", "other"] (spJoinedR K C CP CH CN)) :
    FnOk P w K mg base (L2N.CX P w) 30 f fd ["_law_tree", "_law_hands", "_law_bad", "_law_way"] (spAtP K C CP CN) := by
  refine F.okN sc_l_at_points (fun vs H Q E h => ?_) (fun cdv A outer s H vs Q E hr h => ?_)
  · obtain ⟨M, t, ls, lp, st, pts, hv, bad, way, rfl, _⟩ := h
    rfl
  obtain ⟨M, t, ls, lp, st, pts, hv, bad, way, rfl, TA, wf, st0, hb, bd, hw, kx⟩ := h
  obtain ⟨dx, ht⟩ := TA.ob
  have pos := wf.wp.pos
  refine ⟨_, (pss_one (ps_if (pt_cmpR op_eq (pv 3) pe_int (nomark _)) (pss_one (ps_expr (pm_x C_go (hr.mono (by first | exact Nat.le_refl _ | decide | omega)) (L2N.passes_call (L2N.takes_of rfl rfl rfl rfl) (fun _ _ _ _ h => h)) (pv 0) (pa_cons pe_int (pa_cons (pv 2) pa_nil))))) (pss_one (ps_if (pt_cmpR op_eq (pv 3) pe_int (nomark _)) (pss_one (ps_expr (pm_x C_table (hr.mono (by first | exact Nat.le_refl _ | decide | omega)) (L2N.passes_call (L2N.takes_of rfl rfl rfl rfl) (fun _ _ _ _ h => h)) (pv 0) (pa_cons (pv 2) pa_nil)))) (pss_one (ps_if (pt_cmpR op_eq (pv 3) pe_int (nomark _)) (pss_one (ps_expr (pm_x C_worths (hr.mono (by first | exact Nat.le_refl _ | decide | omega)) (L2N.passes_call (L2N.takes_of rfl rfl rfl rfl) (fun _ _ _ _ h => h)) (pv 0) (pa_cons (pv 2) pa_nil)))) (pss_one (ps_if (pt_cmpR op_eq (pv 3) pe_int (nomark _)) (pss_one (ps_expr (pm_x C_told (hr.mono (by first | exact Nat.le_refl _ | decide | omega)) (L2N.passes_call (L2N.takes_of rfl rfl rfl rfl) (fun _ _ _ _ h => h)) (pv 0) (pa_cons (pv 2) pa_nil)))) (pss_one (ps_if (pt_cmpR op_eq (pv 3) pe_int (nomark _)) (pss_one (ps_expr (pm_x C_trail (hr.mono (by first | exact Nat.le_refl _ | decide | omega)) (L2N.passes_call (L2N.takes_of rfl rfl rfl rfl) (fun _ _ _ _ h => h)) (pv 0) (pa_cons (pv 2) pa_nil)))) (pss_one (ps_if (pt_cmpR op_lt (pv 3) pe_int (nomark _)) (pss_one (ps_expr (pm_x C_road (hr.mono (by first | exact Nat.le_refl _ | decide | omega)) (L2N.passes_call (L2N.takes_of rfl rfl rfl rfl) (fun _ _ _ _ h => h)) (pv 0) (pa_cons (pe_ix ix_list (pe_lst (pa_cons pe_int (pa_cons (pv 2) pa_nil))) (pe_op op_sub (pv 3) pe_int) (fun _ _ => rfl)) (pa_cons (pe_ix ix_list (pe_lst (pa_cons (pv 2) (pa_cons pe_int pa_nil))) (pe_op op_sub (pv 3) pe_int) (fun _ _ => rfl)) pa_nil))))) (pss_one (ps_if (pt_cmpR op_lt (pv 3) pe_int (nomark _)) (pss_one (ps_expr (pe_callIx (k := 25) (hr.mono (by decide)) (pe_ix ix_list (pe_lst (pa_cons (pe_fn (by rfl) m_leans) (pa_cons (pe_fn (by rfl) m_reads) pa_nil))) (pe_op op_sub (pv 3) pe_int) (fun _ _ => rfl)) (L2N.passes_call (L2N.takes_of rfl rfl rfl rfl) (fun _ _ _ _ h => h)) (pa_cons (pv 0) (pa_cons (pv 2) pa_nil))))) (pss_one (ps_if (pt_cmpR op_lt (pv 3) pe_int (nomark _)) (pss_one (ps_expr (pc_x C_joined (hr.mono (by first | exact Nat.le_refl _ | decide | omega)) (by rfl) (L2N.passes_call (L2N.takes_of rfl rfl rfl rfl) (fun _ _ _ _ h => h)) (pa_cons (pv 0) (pa_cons pe_int (pa_cons (pe_ix ix_list (pe_lst (pa_cons pe_int (pa_cons (pv 2) pa_nil))) (pe_op op_sub (pv 3) pe_int) (fun _ _ => rfl)) (pa_cons (pe_ix ix_list (pe_lst (pa_cons (pv 2) (pa_cons pe_int pa_nil))) (pe_op op_sub (pv 3) pe_int) (fun _ _ => rfl)) pa_nil))))))) (pss_one (ps_expr (pc_x C_without (hr.mono (by first | exact Nat.le_refl _ | decide | omega)) (by rfl) (L2N.passes_call (L2N.takes_of rfl rfl rfl rfl) (fun _ _ _ _ h => h)) (pa_cons (pv 0) (pa_cons pe_int (pa_cons (pe_ix ix_list (pe_lst (pa_cons pe_int (pa_cons (pv 2) pa_nil))) (pe_op op_sub (pv 3) pe_int) (fun _ _ => rfl)) (pa_cons (pe_ix ix_list (pe_lst (pa_cons (pv 2) (pa_cons pe_int pa_nil))) (pe_op op_sub (pv 3) pe_int) (fun _ _ => rfl)) (pa_cons pe_bl pa_nil)))))))))))))))))))))))), ?_⟩
  obtain rfl | rfl | rfl | rfl | rfl | rfl | rfl | rfl | rfl | rfl | rfl | rfl | rfl : way = 0 ∨ way = 1 ∨ way = 2 ∨ way = 3 ∨ way = 4 ∨ way = 5 ∨ way = 6 ∨ way = 7 ∨ way = 8 ∨ way = 9 ∨ way = 10 ∨ way = 11 ∨ way = 12 := by omega
  · refine ⟨_, rfl, rfl, _, rfl, iteT_of (by decide +kernel) ?_⟩
    exact ⟨_, rfl, t, dx, _, rfl, ht, ft_no m_go.1 m_go.2, _, rfl, M, t, ls, lp, st, pts, _, _, rfl, TA, wf, .inr (.inr ⟨0, rfl, st0, hb, bd, kx⟩)⟩
  · refine ⟨_, rfl, rfl, _, rfl, iteF_of (by decide +kernel) ⟨_, rfl, rfl, _, rfl, iteT_of (by decide +kernel) ?_⟩⟩
    exact ⟨_, rfl, t, dx, _, rfl, ht, ft_no m_ta.1 m_ta.2, _, rfl, M, t, ls, lp, st, pts, _, rfl, TA, .inr ⟨hb, bd, kx⟩⟩
  · refine ⟨_, rfl, rfl, _, rfl, iteF_of (by decide +kernel) ⟨_, rfl, rfl, _, rfl, iteF_of (by decide +kernel) ⟨_, rfl, rfl, _, rfl, iteT_of (by decide +kernel) ?_⟩⟩⟩
    exact ⟨_, rfl, t, dx, _, rfl, ht, ft_no m_wo.1 m_wo.2, _, rfl, M, t, ls, lp, st, pts, _, rfl, TA, wf.wp, .inr hb, bd, kx⟩
  · refine ⟨_, rfl, rfl, _, rfl, iteF_of (by decide +kernel) ⟨_, rfl, rfl, _, rfl, iteF_of (by decide +kernel) ⟨_, rfl, rfl, _, rfl, iteF_of (by decide +kernel) ⟨_, rfl, rfl, _, rfl, iteT_of (by decide +kernel) ?_⟩⟩⟩⟩
    exact ⟨_, rfl, t, dx, _, rfl, ht, ft_no m_to.1 m_to.2, _, rfl, M, t, ls, lp, st, pts, _, rfl, TA, .inr ⟨.inr hb, bd, kx⟩⟩
  · refine ⟨_, rfl, rfl, _, rfl, iteF_of (by decide +kernel) ⟨_, rfl, rfl, _, rfl, iteF_of (by decide +kernel) ⟨_, rfl, rfl, _, rfl, iteF_of (by decide +kernel) ⟨_, rfl, rfl, _, rfl, iteF_of (by decide +kernel) ⟨_, rfl, rfl, _, rfl, iteT_of (by decide +kernel) ?_⟩⟩⟩⟩⟩
    exact ⟨_, rfl, t, dx, _, rfl, ht, ft_no m_tr.1 m_tr.2, _, rfl, M, t, ls, lp, st, pts, _, rfl, TA, .inr ⟨hb, bd, kx⟩⟩
  · refine ⟨_, rfl, rfl, _, rfl, iteF_of (by decide +kernel) ⟨_, rfl, rfl, _, rfl, iteF_of (by decide +kernel) ⟨_, rfl, rfl, _, rfl, iteF_of (by decide +kernel) ⟨_, rfl, rfl, _, rfl, iteF_of (by decide +kernel) ⟨_, rfl, rfl, _, rfl, iteF_of (by decide +kernel) ⟨_, rfl, _, _, rfl, rfl, _, rfl, iteT_of (by decide +kernel) ?_⟩⟩⟩⟩⟩⟩
    refine ⟨_, rfl, t, dx, _, rfl, ht, ft_no m_rd.1 m_rd.2, ?_⟩
    refine ⟨_, rfl, small (by show 2 ≤ 1000; decide), fun q1 h1 => ⟨_, rfl, _, _, rfl, rfl, q1, _, _, _, rfl, rfl, SqL.of upd_same, rfl, ?_⟩⟩
    have s1 := same_new h1 (.lst [.int 0, .int bad])
    generalize upd H q1 (.lst [.int 0, .int bad]) = H1 at s1 ⊢
    refine ⟨_, rfl, small (by show 2 ≤ 1000; decide), fun q2 h2 => ⟨_, rfl, _, _, rfl, rfl, q2, _, _, _, rfl, rfl, SqL.of upd_same, rfl, ?_⟩⟩
    have s2 := s1.trans (same_new h2 (.lst [.int bad, .int 0]))
    generalize upd H1 q2 (.lst [.int bad, .int 0]) = H2 at s2 ⊢
    have k2 : ∀ H', Same H2 H' → E (.ref CN) none H' := fun H' s' => kx H' (s2.trans s')
    exact ⟨M, t, ls, lp, st, pts, _, _, rfl, TA.same s2, .inr ⟨.inr ⟨0, rfl, wf.wp, pos, hb, bd⟩, k2⟩⟩
  · refine ⟨_, rfl, rfl, _, rfl, iteF_of (by decide +kernel) ⟨_, rfl, rfl, _, rfl, iteF_of (by decide +kernel) ⟨_, rfl, rfl, _, rfl, iteF_of (by decide +kernel) ⟨_, rfl, rfl, _, rfl, iteF_of (by decide +kernel) ⟨_, rfl, rfl, _, rfl, iteF_of (by decide +kernel) ⟨_, rfl, _, _, rfl, rfl, _, rfl, iteT_of (by decide +kernel) ?_⟩⟩⟩⟩⟩⟩
    refine ⟨_, rfl, t, dx, _, rfl, ht, ft_no m_rd.1 m_rd.2, ?_⟩
    refine ⟨_, rfl, small (by show 2 ≤ 1000; decide), fun q1 h1 => ⟨_, rfl, _, _, rfl, rfl, q1, _, _, _, rfl, rfl, SqL.of upd_same, rfl, ?_⟩⟩
    have s1 := same_new h1 (.lst [.int 0, .int bad])
    generalize upd H q1 (.lst [.int 0, .int bad]) = H1 at s1 ⊢
    refine ⟨_, rfl, small (by show 2 ≤ 1000; decide), fun q2 h2 => ⟨_, rfl, _, _, rfl, rfl, q2, _, _, _, rfl, rfl, SqL.of upd_same, rfl, ?_⟩⟩
    have s2 := s1.trans (same_new h2 (.lst [.int bad, .int 0]))
    generalize upd H1 q2 (.lst [.int bad, .int 0]) = H2 at s2 ⊢
    have k2 : ∀ H', Same H2 H' → E (.ref CN) none H' := fun H' s' => kx H' (s2.trans s')
    exact ⟨M, t, ls, lp, st, pts, _, _, rfl, TA.same s2, .inr ⟨.inl ⟨hb, bd⟩, k2⟩⟩
  · refine ⟨_, rfl, rfl, _, rfl, iteF_of (by decide +kernel) ⟨_, rfl, rfl, _, rfl, iteF_of (by decide +kernel) ⟨_, rfl, rfl, _, rfl, iteF_of (by decide +kernel) ⟨_, rfl, rfl, _, rfl, iteF_of (by decide +kernel) ⟨_, rfl, rfl, _, rfl, iteF_of (by decide +kernel) ⟨_, rfl, _, _, rfl, rfl, _, rfl, iteF_of (by decide +kernel) ⟨_, rfl, _, _, rfl, rfl, _, rfl, iteT_of (by decide +kernel) ?_⟩⟩⟩⟩⟩⟩⟩
    refine ⟨small (by show 2 ≤ 1000; decide), fun q hq => ?_⟩
    exact ⟨_, rfl, _, _, rfl, rfl, q, _, _, _, rfl, rfl, SqL.of upd_same, rfl, fl, fld, _, _, rfl, O_leans, k_leans, b_leans, _, rfl, _, rfl, M, t, ls, lp, st, pts, _, rfl, TA.same (same_new hq _), wf.wp, .inr hb, bd, fun H' s' => kx H' ((same_new hq _).trans s')⟩
  · refine ⟨_, rfl, rfl, _, rfl, iteF_of (by decide +kernel) ⟨_, rfl, rfl, _, rfl, iteF_of (by decide +kernel) ⟨_, rfl, rfl, _, rfl, iteF_of (by decide +kernel) ⟨_, rfl, rfl, _, rfl, iteF_of (by decide +kernel) ⟨_, rfl, rfl, _, rfl, iteF_of (by decide +kernel) ⟨_, rfl, _, _, rfl, rfl, _, rfl, iteF_of (by decide +kernel) ⟨_, rfl, _, _, rfl, rfl, _, rfl, iteT_of (by decide +kernel) ?_⟩⟩⟩⟩⟩⟩⟩
    refine ⟨small (by show 2 ≤ 1000; decide), fun q hq => ?_⟩
    exact ⟨_, rfl, _, _, rfl, rfl, q, _, _, _, rfl, rfl, SqL.of upd_same, rfl, fe, fed, _, _, rfl, O_reads, k_reads, b_reads, _, rfl, _, rfl, M, t, ls, lp, st, pts, _, rfl, TA.same (same_new hq _), wf.wp, .inr hb, bd, fun H' s' => kx H' ((same_new hq _).trans s')⟩
  · refine ⟨_, rfl, rfl, _, rfl, iteF_of (by decide +kernel) ⟨_, rfl, rfl, _, rfl, iteF_of (by decide +kernel) ⟨_, rfl, rfl, _, rfl, iteF_of (by decide +kernel) ⟨_, rfl, rfl, _, rfl, iteF_of (by decide +kernel) ⟨_, rfl, rfl, _, rfl, iteF_of (by decide +kernel) ⟨_, rfl, _, _, rfl, rfl, _, rfl, iteF_of (by decide +kernel) ⟨_, rfl, _, _, rfl, rfl, _, rfl, iteF_of (by decide +kernel) ⟨_, rfl, _, _, rfl, rfl, _, rfl, iteT_of (by decide +kernel) ?_⟩⟩⟩⟩⟩⟩⟩⟩
    refine ⟨_, rfl, ?_⟩
    refine ⟨_, rfl, small (by show 2 ≤ 1000; decide), fun q1 h1 => ⟨_, rfl, _, _, rfl, rfl, q1, _, _, _, rfl, rfl, SqL.of upd_same, rfl, ?_⟩⟩
    have s1 := same_new h1 (.lst [.int 0, .int bad])
    generalize upd H q1 (.lst [.int 0, .int bad]) = H1 at s1 ⊢
    refine ⟨_, rfl, small (by show 2 ≤ 1000; decide), fun q2 h2 => ⟨_, rfl, _, _, rfl, rfl, q2, _, _, _, rfl, rfl, SqL.of upd_same, rfl, ?_⟩⟩
    have s2 := s1.trans (same_new h2 (.lst [.int bad, .int 0]))
    generalize upd H1 q2 (.lst [.int bad, .int 0]) = H2 at s2 ⊢
    have k2 : ∀ H', Same H2 H' → E (.ref CN) none H' := fun H' s' => kx H' (s2.trans s')
    exact ⟨M, t, ls, lp, st, pts, _, _, _, rfl, TA.same s2, wf, .inr ⟨0, rfl, st0, .inr ⟨rfl, hb, bd⟩, k2⟩⟩
  · refine ⟨_, rfl, rfl, _, rfl, iteF_of (by decide +kernel) ⟨_, rfl, rfl, _, rfl, iteF_of (by decide +kernel) ⟨_, rfl, rfl, _, rfl, iteF_of (by decide +kernel) ⟨_, rfl, rfl, _, rfl, iteF_of (by decide +kernel) ⟨_, rfl, rfl, _, rfl, iteF_of (by decide +kernel) ⟨_, rfl, _, _, rfl, rfl, _, rfl, iteF_of (by decide +kernel) ⟨_, rfl, _, _, rfl, rfl, _, rfl, iteF_of (by decide +kernel) ⟨_, rfl, _, _, rfl, rfl, _, rfl, iteT_of (by decide +kernel) ?_⟩⟩⟩⟩⟩⟩⟩⟩
    refine ⟨_, rfl, ?_⟩
    refine ⟨_, rfl, small (by show 2 ≤ 1000; decide), fun q1 h1 => ⟨_, rfl, _, _, rfl, rfl, q1, _, _, _, rfl, rfl, SqL.of upd_same, rfl, ?_⟩⟩
    have s1 := same_new h1 (.lst [.int 0, .int bad])
    generalize upd H q1 (.lst [.int 0, .int bad]) = H1 at s1 ⊢
    refine ⟨_, rfl, small (by show 2 ≤ 1000; decide), fun q2 h2 => ⟨_, rfl, _, _, rfl, rfl, q2, _, _, _, rfl, rfl, SqL.of upd_same, rfl, ?_⟩⟩
    have s2 := s1.trans (same_new h2 (.lst [.int bad, .int 0]))
    generalize upd H1 q2 (.lst [.int bad, .int 0]) = H2 at s2 ⊢
    have k2 : ∀ H', Same H2 H' → E (.ref CN) none H' := fun H' s' => kx H' (s2.trans s')
    exact ⟨M, t, ls, lp, st, pts, _, _, _, rfl, TA.same s2, wf, .inr ⟨0, rfl, st0, .inl ⟨hb, bd⟩, k2⟩⟩
  · refine ⟨_, rfl, rfl, _, rfl, iteF_of (by decide +kernel) ⟨_, rfl, rfl, _, rfl, iteF_of (by decide +kernel) ⟨_, rfl, rfl, _, rfl, iteF_of (by decide +kernel) ⟨_, rfl, rfl, _, rfl, iteF_of (by decide +kernel) ⟨_, rfl, rfl, _, rfl, iteF_of (by decide +kernel) ⟨_, rfl, _, _, rfl, rfl, _, rfl, iteF_of (by decide +kernel) ⟨_, rfl, _, _, rfl, rfl, _, rfl, iteF_of (by decide +kernel) ⟨_, rfl, _, _, rfl, rfl, _, rfl, iteF_of (by decide +kernel) ?_⟩⟩⟩⟩⟩⟩⟩⟩
    refine ⟨_, rfl, ?_⟩
    refine ⟨_, rfl, small (by show 2 ≤ 1000; decide), fun q1 h1 => ⟨_, rfl, _, _, rfl, rfl, q1, _, _, _, rfl, rfl, SqL.of upd_same, rfl, ?_⟩⟩
    have s1 := same_new h1 (.lst [.int 0, .int bad])
    generalize upd H q1 (.lst [.int 0, .int bad]) = H1 at s1 ⊢
    refine ⟨_, rfl, small (by show 2 ≤ 1000; decide), fun q2 h2 => ⟨_, rfl, _, _, rfl, rfl, q2, _, _, _, rfl, rfl, SqL.of upd_same, rfl, ?_⟩⟩
    have s2 := s1.trans (same_new h2 (.lst [.int bad, .int 0]))
    generalize upd H1 q2 (.lst [.int bad, .int 0]) = H2 at s2 ⊢
    have k2 : ∀ H', Same H2 H' → E (.ref CN) none H' := fun H' s' => kx H' (s2.trans s')
    exact ⟨M, t, ls, lp, st, pts, _, _, _, _, rfl, TA.same s2, wf, .inr (.inl ⟨0, rfl, st0, hb, bd, k2⟩)⟩
  · refine ⟨_, rfl, rfl, _, rfl, iteF_of (by decide +kernel) ⟨_, rfl, rfl, _, rfl, iteF_of (by decide +kernel) ⟨_, rfl, rfl, _, rfl, iteF_of (by decide +kernel) ⟨_, rfl, rfl, _, rfl, iteF_of (by decide +kernel) ⟨_, rfl, rfl, _, rfl, iteF_of (by decide +kernel) ⟨_, rfl, _, _, rfl, rfl, _, rfl, iteF_of (by decide +kernel) ⟨_, rfl, _, _, rfl, rfl, _, rfl, iteF_of (by decide +kernel) ⟨_, rfl, _, _, rfl, rfl, _, rfl, iteF_of (by decide +kernel) ?_⟩⟩⟩⟩⟩⟩⟩⟩
    refine ⟨_, rfl, ?_⟩
    refine ⟨_, rfl, small (by show 2 ≤ 1000; decide), fun q1 h1 => ⟨_, rfl, _, _, rfl, rfl, q1, _, _, _, rfl, rfl, SqL.of upd_same, rfl, ?_⟩⟩
    have s1 := same_new h1 (.lst [.int 0, .int bad])
    generalize upd H q1 (.lst [.int 0, .int bad]) = H1 at s1 ⊢
    refine ⟨_, rfl, small (by show 2 ≤ 1000; decide), fun q2 h2 => ⟨_, rfl, _, _, rfl, rfl, q2, _, _, _, rfl, rfl, SqL.of upd_same, rfl, ?_⟩⟩
    have s2 := s1.trans (same_new h2 (.lst [.int bad, .int 0]))
    generalize upd H1 q2 (.lst [.int bad, .int 0]) = H2 at s2 ⊢
    have k2 : ∀ H', Same H2 H' → E (.ref CN) none H' := fun H' s' => kx H' (s2.trans s')
    exact ⟨M, t, ls, lp, st, pts, _, _, _, _, rfl, TA.same s2, wf, .inr (.inr ⟨0, 0, [0], rfl, st0, rfl, pos, .zero, bd, fun k hk => .inr (fun z => by have := List.mem_singleton.mp z; rcases hb with hb | hb <;> omega), k2⟩)⟩
end
end U

namespace U
open PySem L2 PyProof.Rows
section
variable {P : Program} {w : World} {K : PySem.W.Frag} {mg : Str → Option Value} {base : Heap}
/-! ### a deed that cannot be -/
def Rfk.word : Rfk → Str
  | .cell => "cell"
  | .formula => "formula"
  | .off => "off"
def Pr (K : PySem.W.Frag) (H : Hp) (v : V) (R : RDeed) (k : Rfk) : Prop := ∃ a o, v = .ref o ∧ SqT K H o [.ref a, .str k.word] ∧ SqT K H a R.vs
theorem Pr.tk {H H' : Hp} {v : V} {R : RDeed} {k : Rfk} (t : Tk K H H') (h : Pr K H v R k) : Pr K H' v R k := let ⟨a, o, e, q1, q2⟩ := h; ⟨a, o, e, t _ _ q1, t _ _ q2⟩
theorem Pr.new {H : Hp} {a o : Addr} {xs : List V} {w : Str} {R : RDeed} {k : Rfk} (ha : H a = none) (ho : upd H a (.tup xs) o = none) (e : xs = R.vs) (ew : w = k.word) : Same H (upd (upd H a (.tup xs)) o (.tup [.ref a, .str w])) ∧ Pr K (upd (upd H a (.tup xs)) o (.tup [.ref a, .str w])) (.ref o) R k :=
  ⟨(same_new ha _).trans (same_new ho _), a, o, rfl, SqT.of (by rw [upd_same, ew]), SqT.of (by rw [upd_ne (ne_of_none upd_same ho), upd_same, e])⟩
def lng : List Nat := ("= add a1 add a1 add a1 add a1 add a1 a1" : Str).cps.toList
def spBadDeed (K : PySem.W.Frag) : Sp := fun vs H Q _ => ∃ (b l : Addr) (c : Cel), vs = [.ref b, .str c.s] ∧ Box H b l ∧ ∀ (R : RDeed) (k : Rfk) (v : V) (r : Addr) (H' : Hp), R.sm → R.refd k → Box H' b l → Keep b l H H' → SqT K H' r [v, .str k.word] → RDA K H' R v → Q (.ref r) H'
theorem bad_at {r : Int} (h0 : 0 ≤ r) (h6 : r < 6) : ∃ s : List Nat, atI [V.str "g1", V.str "a0", V.str "z", V.str "", V.str "a10", V.str "A1"] r = some (.str (SX.S s)) ∧ isCelL s = false ∧ s.length ≤ 3 := by
  obtain rfl | rfl | rfl | rfl | rfl | rfl : r = 0 ∨ r = 1 ∨ r = 2 ∨ r = 3 ∨ r = 4 ∨ r = 5 := by omega
  · exact ⟨[103, 49], by rw [show SX.S [103, 49] = ("g1" : Str) by decide +kernel]; rfl, by decide, by decide⟩
  · exact ⟨[97, 48], by rw [show SX.S [97, 48] = ("a0" : Str) by decide +kernel]; rfl, by decide, by decide⟩
  · exact ⟨[122], by rw [show SX.S [122] = ("z" : Str) by decide +kernel]; rfl, by decide, by decide⟩
  · exact ⟨[], by rw [show SX.S [] = ("" : Str) by decide +kernel]; rfl, by decide, by decide⟩
  · exact ⟨[97, 49, 48], by rw [show SX.S [97, 49, 48] = ("a10" : Str) by decide +kernel]; rfl, by decide, by decide⟩
  · exact ⟨[65, 49], by rw [show SX.S [65, 49] = ("A1" : Str) by decide +kernel]; rfl, by decide, by decide⟩
theorem ok_lbad_deed {f : Addr} {fd : FuncData} (F : Fun K "_law_bad_deed" "_law_bad_deed" s_l_bad_deed f fd) (C_l_take : Cal P w K mg base 1 "_law_take" ["_law_box", "_law_many_here"] spTake) : FnOk P w K mg base CX0 2 f fd ["_law_box", "_law_cell_here"] (spBadDeed K) := by
  refine F.ok sc_l_bad_deed (fun vs H Q E h => ?_) (fun cdv A outer s H vs Q E hr h => ?_)
  · obtain ⟨b, l, c, rfl, _⟩ := h
    rfl
  obtain ⟨b, l, c, rfl, B0, kk⟩ := h
  refine ⟨_, (pss_cons (ps_set (i := 2) sc_l_bad_deed.nd rfl (Or.inl rfl) (pe_ix ix_list (pe_lst (pa_cons pe_str (pa_cons pe_str (pa_cons pe_str (pa_cons pe_str (pa_cons pe_str (pa_cons pe_str pa_nil))))))) (pc_c C_l_take (hr.mono (by first | exact Nat.le_refl _ | decide | omega)) (by rfl) (pa_cons (pv 0) (pa_cons pe_int pa_nil))) (fun _ _ => rfl)))
      (pss_cons (ps_set (i := 3) sc_l_bad_deed.nd rfl (Or.inl rfl) (pe_lst (pa_cons (pe_tup (pa_cons (pe_tup (pa_cons pe_str (pa_cons (pv 2) (pa_cons pe_str pa_nil)))) (pa_cons pe_str pa_nil))) (pa_cons (pe_tup (pa_cons (pe_tup (pa_cons pe_str (pa_cons (pv 1) (pa_cons (pv 2) pa_nil)))) (pa_cons pe_str pa_nil))) (pa_cons (pe_tup (pa_cons (pe_tup (pa_cons pe_str (pa_cons (pv 2) (pa_cons (pv 1) pa_nil)))) (pa_cons pe_str pa_nil))) pa_nil)))))
      (pss_cons (ps_set (i := 3) sc_l_bad_deed.nd rfl (Or.inl rfl) (pe_op op_cat (pv 3) (pe_lst (pa_cons (pe_tup (pa_cons (pe_tup (pa_cons pe_str (pa_cons (pv 2) (pa_cons pe_int pa_nil)))) (pa_cons pe_str pa_nil))) (pa_cons (pe_tup (pa_cons (pe_tup (pa_cons pe_str (pa_cons (pv 2) (pa_cons pe_int pa_nil)))) (pa_cons pe_str pa_nil))) (pa_cons (pe_tup (pa_cons (pe_tup (pa_cons pe_str (pa_cons (pv 1) (pa_cons pe_str pa_nil)))) (pa_cons pe_str pa_nil))) pa_nil))))))
      (pss_cons (ps_expr (pe_bm PySem.F.plainAttrs_list PySem.F.slot_list_append PySem.F.type_list_append mt_append (pv 3) (pa_cons (pe_tup (pa_cons (pe_tup (pa_cons pe_str (pa_cons (pv 1) (pa_cons pe_str pa_nil)))) (pa_cons pe_str pa_nil))) pa_nil)))
      (pss_cons (ps_set (i := 3) sc_l_bad_deed.nd rfl (Or.inl rfl) (pe_op op_cat (pv 3) (pe_lst (pa_cons (pe_tup (pa_cons (pe_tup (pa_cons pe_str (pa_cons (pv 1) (pa_cons (pe_op op_sub pe_int (pc_c C_l_take (hr.mono (by first | exact Nat.le_refl _ | decide | omega)) (by rfl) (pa_cons (pv 0) (pa_cons pe_int pa_nil)))) pa_nil)))) (pa_cons pe_str pa_nil))) (pa_cons (pe_tup (pa_cons (pe_tup (pa_cons pe_str (pa_cons (pv 1) (pa_cons pe_int pa_nil)))) (pa_cons pe_str pa_nil))) pa_nil)))))
      (pss_one (ps_ret (pe_ix ix_list (pv 3) (pc_c C_l_take (hr.mono (by first | exact Nat.le_refl _ | decide | omega)) (by rfl) (pa_cons (pv 0) (pa_cons pe_int pa_nil))) (fun _ _ => rfl))))))))), ?_⟩
  have tx : ("x" : Str) = SX.S [120] := by decide +kernel
  have tl : ("= add a1 add a1 add a1 add a1 add a1 a1" : Str) = SX.S lng := by decide +kernel
  have nx : rd [120] = none := by decide +kernel
  have nl : rd lng = none := by decide +kernel
  have c2 : c.l.length = 2 := rfl
  refine ⟨small (by show 6 ≤ 1000; decide), fun q0 hq0 => ?_⟩
  have n0 := B0.new hq0
  have s0 := same_new hq0 (.lst [V.str "g1", V.str "a0", V.str "z", V.str "", V.str "a10", V.str "A1"])
  have g0 : upd H q0 (.lst [V.str "g1", V.str "a0", V.str "z", V.str "", V.str "a10", V.str "A1"]) q0 = some (.lst [V.str "g1", V.str "a0", V.str "z", V.str "", V.str "a10", V.str "A1"]) := upd_same
  generalize upd H q0 (.lst [V.str "g1", V.str "a0", V.str "z", V.str "", V.str "a10", V.str "A1"]) = H0 at s0 g0 ⊢
  refine ⟨_, rfl, b, l, 6, rfl, B0.keep s0, by decide, by decide, fun r1 H1 c0 c1 BX K1 => ?_⟩
  obtain ⟨s, es, hs, hl⟩ := bad_at c0 c1
  refine ⟨q0, _, _, _, rfl, rfl, SqL.of (K1 _ _ g0 n0.1 n0.2), es, ?_⟩
  have kH : Keep b l H H1 := (Keep.of s0).trans K1
  clear g0 s0 B0 K1
  simp only [List.set_cons_zero, List.set_cons_succ]
  refine ⟨_, rfl, small (by show 3 ≤ 1000; decide), fun a1 ha1 => ⟨small (by show 2 ≤ 1000; decide), fun o1 ho1 => ?_⟩⟩
  obtain ⟨s1, p1⟩ := Pr.new (K := K) (R := .set s [120]) (k := .cell) (w := "cell") ha1 ho1 (by rw [tx]; rfl) rfl
  generalize upd (upd H1 a1 (.tup [.str "set", .str (SX.S s), .str "x"])) o1 (.tup [.ref a1, .str "cell"]) = P1 at s1 p1 ⊢
  have kH := kH.trans (.of s1)
  have BX := BX.keep s1
  refine ⟨_, rfl, _, rfl, small (by show 3 ≤ 1000; decide), fun a2 ha2 => ⟨small (by show 2 ≤ 1000; decide), fun o2 ho2 => ?_⟩⟩
  obtain ⟨s2, p2⟩ := Pr.new (K := K) (R := .swap c.l s) (k := .cell) (w := "cell") ha2 ho2 (rfl) rfl
  generalize upd (upd P1 a2 (.tup [.str "swap", .str c.s, .str (SX.S s)])) o2 (.tup [.ref a2, .str "cell"]) = P2 at s2 p2 ⊢
  have p1 := p1.tk (.same s2)
  have kH := kH.trans (.of s2)
  have BX := BX.keep s2
  refine ⟨_, rfl, _, rfl, small (by show 3 ≤ 1000; decide), fun a3 ha3 => ⟨small (by show 2 ≤ 1000; decide), fun o3 ho3 => ?_⟩⟩
  obtain ⟨s3, p3⟩ := Pr.new (K := K) (R := .swap s c.l) (k := .cell) (w := "cell") ha3 ho3 (rfl) rfl
  generalize upd (upd P2 a3 (.tup [.str "swap", .str (SX.S s), .str c.s])) o3 (.tup [.ref a3, .str "cell"]) = P3 at s3 p3 ⊢
  have p1 := p1.tk (.same s3)
  have p2 := p2.tk (.same s3)
  have kH := kH.trans (.of s3)
  have BX := BX.keep s3
  refine ⟨small (by show 3 ≤ 1000; decide), fun l1 hl1 => ?_⟩
  have nl1 := BX.new hl1
  have fl1 : H l1 = none := kH.free nl1.1 nl1.2 hl1
  have sl1 := same_new hl1 (.lst [.ref o1, .ref o2, .ref o3])
  have gl1 : upd P3 l1 (.lst [.ref o1, .ref o2, .ref o3]) l1 = some (.lst [.ref o1, .ref o2, .ref o3]) := upd_same
  generalize upd P3 l1 (.lst [.ref o1, .ref o2, .ref o3]) = Ll1 at sl1 gl1 ⊢
  have p1 := p1.tk (.same sl1)
  have p2 := p2.tk (.same sl1)
  have p3 := p3.tk (.same sl1)
  have kH := kH.trans (.of sl1)
  have BX := BX.keep sl1
  refine ⟨_, rfl, ?_⟩
  refine ⟨_, rfl, small (by show 3 ≤ 1000; decide), fun a4 ha4 => ⟨small (by show 2 ≤ 1000; decide), fun o4 ho4 => ?_⟩⟩
  obtain ⟨s4, p4⟩ := Pr.new (K := K) (R := .fill s 0) (k := .cell) (w := "cell") ha4 ho4 (rfl) rfl
  generalize upd (upd Ll1 a4 (.tup [.str "fill", .str (SX.S s), .int 0])) o4 (.tup [.ref a4, .str "cell"]) = P4 at s4 p4 ⊢
  have p1 := p1.tk (.same s4)
  have p2 := p2.tk (.same s4)
  have p3 := p3.tk (.same s4)
  have gl1 := s4 _ _ gl1
  have kH := kH.trans (.of s4)
  have BX := BX.keep s4
  refine ⟨_, rfl, small (by show 3 ≤ 1000; decide), fun a5 ha5 => ⟨small (by show 2 ≤ 1000; decide), fun o5 ho5 => ?_⟩⟩
  obtain ⟨s5, p5⟩ := Pr.new (K := K) (R := .fill s 1) (k := .cell) (w := "cell") ha5 ho5 (rfl) rfl
  generalize upd (upd P4 a5 (.tup [.str "fill", .str (SX.S s), .int 1])) o5 (.tup [.ref a5, .str "cell"]) = P5 at s5 p5 ⊢
  have p1 := p1.tk (.same s5)
  have p2 := p2.tk (.same s5)
  have p3 := p3.tk (.same s5)
  have p4 := p4.tk (.same s5)
  have gl1 := s5 _ _ gl1
  have kH := kH.trans (.of s5)
  have BX := BX.keep s5
  refine ⟨_, rfl, small (by show 3 ≤ 1000; decide), fun a6 ha6 => ⟨small (by show 2 ≤ 1000; decide), fun o6 ho6 => ?_⟩⟩
  obtain ⟨s6, p6⟩ := Pr.new (K := K) (R := .set c.l [120]) (k := .formula) (w := "formula") ha6 ho6 (by rw [tx]; rfl) rfl
  generalize upd (upd P5 a6 (.tup [.str "set", .str c.s, .str "x"])) o6 (.tup [.ref a6, .str "formula"]) = P6 at s6 p6 ⊢
  have p1 := p1.tk (.same s6)
  have p2 := p2.tk (.same s6)
  have p3 := p3.tk (.same s6)
  have p4 := p4.tk (.same s6)
  have p5 := p5.tk (.same s6)
  have gl1 := s6 _ _ gl1
  have kH := kH.trans (.of s6)
  have BX := BX.keep s6
  refine ⟨small (by show 3 ≤ 1000; decide), fun l2 hl2 => ?_⟩
  have nl2 := BX.new hl2
  have fl2 : H l2 = none := kH.free nl2.1 nl2.2 hl2
  have sl2 := same_new hl2 (.lst [.ref o4, .ref o5, .ref o6])
  have gl2 : upd P6 l2 (.lst [.ref o4, .ref o5, .ref o6]) l2 = some (.lst [.ref o4, .ref o5, .ref o6]) := upd_same
  generalize upd P6 l2 (.lst [.ref o4, .ref o5, .ref o6]) = Ll2 at sl2 gl2 ⊢
  have p1 := p1.tk (.same sl2)
  have p2 := p2.tk (.same sl2)
  have p3 := p3.tk (.same sl2)
  have p4 := p4.tk (.same sl2)
  have p5 := p5.tk (.same sl2)
  have p6 := p6.tk (.same sl2)
  have gl1 := sl2 _ _ gl1
  have kH := kH.trans (.of sl2)
  have BX := BX.keep sl2
  refine ⟨l1, l2, _, _, rfl, rfl, gl1, gl2, small (by show 6 ≤ 1000; decide), fun l3 hl3 => ?_⟩
  show tSeq _ _ _ _ _
  have nl3 := BX.new hl3
  have fl3 : H l3 = none := kH.free nl3.1 nl3.2 hl3
  have sl3 := same_new hl3 (.lst ([.ref o1, .ref o2, .ref o3] ++ [.ref o4, .ref o5, .ref o6]))
  have gl3 : upd Ll2 l3 (.lst ([.ref o1, .ref o2, .ref o3] ++ [.ref o4, .ref o5, .ref o6])) l3 = some (.lst ([.ref o1, .ref o2, .ref o3] ++ [.ref o4, .ref o5, .ref o6])) := upd_same
  generalize upd Ll2 l3 (.lst ([.ref o1, .ref o2, .ref o3] ++ [.ref o4, .ref o5, .ref o6])) = Ll3 at sl3 gl3 ⊢
  have p1 := p1.tk (.same sl3)
  have p2 := p2.tk (.same sl3)
  have p3 := p3.tk (.same sl3)
  have p4 := p4.tk (.same sl3)
  have p5 := p5.tk (.same sl3)
  have p6 := p6.tk (.same sl3)
  have gl1 := sl3 _ _ gl1
  have gl2 := sl3 _ _ gl2
  have kH := kH.trans (.of sl3)
  have BX := BX.keep sl3
  refine ⟨_, rfl, .inl ⟨rfl, _, SqL.of gl3⟩, ?_⟩
  refine ⟨_, rfl, small (by show 3 ≤ 1000; decide), fun a7 ha7 => ⟨small (by show 2 ≤ 1000; decide), fun o7 ho7 => ?_⟩⟩
  obtain ⟨s7, p7⟩ := Pr.new (K := K) (R := .set c.l lng) (k := .formula) (w := "formula") ha7 ho7 (by rw [tl]; rfl) rfl
  generalize upd (upd Ll3 a7 (.tup [.str "set", .str c.s, .str "= add a1 add a1 add a1 add a1 add a1 a1"])) o7 (.tup [.ref a7, .str "formula"]) = P7 at s7 p7 ⊢
  have p1 := p1.tk (.same s7)
  have p2 := p2.tk (.same s7)
  have p3 := p3.tk (.same s7)
  have p4 := p4.tk (.same s7)
  have p5 := p5.tk (.same s7)
  have p6 := p6.tk (.same s7)
  have gl1 := s7 _ _ gl1
  have gl2 := s7 _ _ gl2
  have gl3 := s7 _ _ gl3
  have kH := kH.trans (.of s7)
  have BX := BX.keep s7
  refine ⟨l3, _, _, rfl, rfl, gl3, small (by show 7 ≤ 1000; decide), ?_⟩
  have tkA : Tk K P7 (upd P7 l3 (.lst (([.ref o1, .ref o2, .ref o3] ++ [.ref o4, .ref o5, .ref o6]) ++ [.ref o7]))) := tk_upd gl3 nt_lst
  have kA : Keep b l H (upd P7 l3 (.lst (([.ref o1, .ref o2, .ref o3] ++ [.ref o4, .ref o5, .ref o6]) ++ [.ref o7]))) := fun x o e n1 n2 => by
    rw [upd_ne (ne_of_none e fl3)]
    exact kH _ _ e n1 n2
  have BA : Box (upd P7 l3 (.lst (([.ref o1, .ref o2, .ref o3] ++ [.ref o4, .ref o5, .ref o6]) ++ [.ref o7]))) b l := by
    obtain ⟨z, ns, e1, e2, e3⟩ := BX.ex
    exact ⟨z, ns, by rw [upd_ne nl3.1.symm]; exact e1, by rw [upd_ne nl3.2.symm]; exact e2, e3⟩
  have gA : upd P7 l3 (.lst (([.ref o1, .ref o2, .ref o3] ++ [.ref o4, .ref o5, .ref o6]) ++ [.ref o7])) l3 = some (.lst (([.ref o1, .ref o2, .ref o3] ++ [.ref o4, .ref o5, .ref o6]) ++ [.ref o7])) := upd_same
  have p1 := p1.tk tkA
  have p2 := p2.tk tkA
  have p3 := p3.tk tkA
  have p4 := p4.tk tkA
  have p5 := p5.tk tkA
  have p6 := p6.tk tkA
  have p7 := p7.tk tkA
  generalize upd P7 l3 (.lst (([.ref o1, .ref o2, .ref o3] ++ [.ref o4, .ref o5, .ref o6]) ++ [.ref o7])) = PA_ at kA BA gA p1 p2 p3 p4 p5 p6 p7 ⊢
  clear kH BX gl1 gl2 gl3
  have kH := kA
  have BX := BA
  have gl3 := gA
  clear kA BA gA
  refine ⟨_, rfl, _, rfl, _, rfl, b, l, 5, rfl, BX, by decide, by decide, fun r8 PB c0 c1 BB KB => ⟨_, _, rfl, rfl, small (by show 3 ≤ 1000; decide), fun a8 ha8 => ⟨small (by show 2 ≤ 1000; decide), fun o8 ho8 => ?_⟩⟩⟩
  have p1 := p1.tk (Tk.keep BX KB)
  have p2 := p2.tk (Tk.keep BX KB)
  have p3 := p3.tk (Tk.keep BX KB)
  have p4 := p4.tk (Tk.keep BX KB)
  have p5 := p5.tk (Tk.keep BX KB)
  have p6 := p6.tk (Tk.keep BX KB)
  have p7 := p7.tk (Tk.keep BX KB)
  have gl3 := KB _ _ gl3 nl3.1 nl3.2
  have kH := kH.trans KB
  have BX := BB
  obtain ⟨s8, p8⟩ := Pr.new (K := K) (R := .fill c.l ((0 : Int) - r8)) (k := .off) (w := "off") ha8 ho8 (rfl) rfl
  generalize upd (upd PB a8 (.tup [.str "fill", .str c.s, .int ((0 : Int) - r8)])) o8 (.tup [.ref a8, .str "off"]) = P8 at s8 p8 ⊢
  have p1 := p1.tk (.same s8)
  have p2 := p2.tk (.same s8)
  have p3 := p3.tk (.same s8)
  have p4 := p4.tk (.same s8)
  have p5 := p5.tk (.same s8)
  have p6 := p6.tk (.same s8)
  have p7 := p7.tk (.same s8)
  have gl3 := s8 _ _ gl3
  have kH := kH.trans (.of s8)
  have BX := BX.keep s8
  refine ⟨_, rfl, small (by show 3 ≤ 1000; decide), fun a9 ha9 => ⟨small (by show 2 ≤ 1000; decide), fun o9 ho9 => ?_⟩⟩
  obtain ⟨s9, p9⟩ := Pr.new (K := K) (R := .fill c.l 9) (k := .off) (w := "off") ha9 ho9 (rfl) rfl
  generalize upd (upd P8 a9 (.tup [.str "fill", .str c.s, .int 9])) o9 (.tup [.ref a9, .str "off"]) = P9 at s9 p9 ⊢
  have p1 := p1.tk (.same s9)
  have p2 := p2.tk (.same s9)
  have p3 := p3.tk (.same s9)
  have p4 := p4.tk (.same s9)
  have p5 := p5.tk (.same s9)
  have p6 := p6.tk (.same s9)
  have p7 := p7.tk (.same s9)
  have p8 := p8.tk (.same s9)
  have gl3 := s9 _ _ gl3
  have kH := kH.trans (.of s9)
  have BX := BX.keep s9
  refine ⟨small (by show 2 ≤ 1000; decide), fun l4 hl4 => ?_⟩
  have nl4 := BX.new hl4
  have fl4 : H l4 = none := kH.free nl4.1 nl4.2 hl4
  have sl4 := same_new hl4 (.lst [.ref o8, .ref o9])
  have gl4 : upd P9 l4 (.lst [.ref o8, .ref o9]) l4 = some (.lst [.ref o8, .ref o9]) := upd_same
  generalize upd P9 l4 (.lst [.ref o8, .ref o9]) = Ll4 at sl4 gl4 ⊢
  have p1 := p1.tk (.same sl4)
  have p2 := p2.tk (.same sl4)
  have p3 := p3.tk (.same sl4)
  have p4 := p4.tk (.same sl4)
  have p5 := p5.tk (.same sl4)
  have p6 := p6.tk (.same sl4)
  have p7 := p7.tk (.same sl4)
  have p8 := p8.tk (.same sl4)
  have p9 := p9.tk (.same sl4)
  have gl3 := sl4 _ _ gl3
  have kH := kH.trans (.of sl4)
  have BX := BX.keep sl4
  refine ⟨l3, l4, _, _, rfl, rfl, gl3, gl4, small (by show 9 ≤ 1000; decide), fun l5 hl5 => ?_⟩
  have nl5 := BX.new hl5
  have fl5 : H l5 = none := kH.free nl5.1 nl5.2 hl5
  have sl5 := same_new hl5 (.lst ((([.ref o1, .ref o2, .ref o3] ++ [.ref o4, .ref o5, .ref o6]) ++ [.ref o7]) ++ [.ref o8, .ref o9]))
  have gl5 : upd Ll4 l5 (.lst ((([.ref o1, .ref o2, .ref o3] ++ [.ref o4, .ref o5, .ref o6]) ++ [.ref o7]) ++ [.ref o8, .ref o9])) l5 = some (.lst ((([.ref o1, .ref o2, .ref o3] ++ [.ref o4, .ref o5, .ref o6]) ++ [.ref o7]) ++ [.ref o8, .ref o9])) := upd_same
  generalize upd Ll4 l5 (.lst ((([.ref o1, .ref o2, .ref o3] ++ [.ref o4, .ref o5, .ref o6]) ++ [.ref o7]) ++ [.ref o8, .ref o9])) = Ll5 at sl5 gl5 ⊢
  have p1 := p1.tk (.same sl5)
  have p2 := p2.tk (.same sl5)
  have p3 := p3.tk (.same sl5)
  have p4 := p4.tk (.same sl5)
  have p5 := p5.tk (.same sl5)
  have p6 := p6.tk (.same sl5)
  have p7 := p7.tk (.same sl5)
  have p8 := p8.tk (.same sl5)
  have p9 := p9.tk (.same sl5)
  have gl3 := sl5 _ _ gl3
  have gl4 := sl5 _ _ gl4
  have kH := kH.trans (.of sl5)
  have BX := BX.keep sl5
  refine ⟨_, rfl, _, rfl, b, l, 9, rfl, BX, by decide, by decide, fun r9 PZ z0 z1 BZ KZ => ?_⟩
  have p1 := p1.tk (Tk.keep BX KZ)
  have p2 := p2.tk (Tk.keep BX KZ)
  have p3 := p3.tk (Tk.keep BX KZ)
  have p4 := p4.tk (Tk.keep BX KZ)
  have p5 := p5.tk (Tk.keep BX KZ)
  have p6 := p6.tk (Tk.keep BX KZ)
  have p7 := p7.tk (Tk.keep BX KZ)
  have p8 := p8.tk (Tk.keep BX KZ)
  have p9 := p9.tk (Tk.keep BX KZ)
  have gl5 := KZ _ _ gl5 nl5.1 nl5.2
  have kH := kH.trans KZ
  obtain rfl | rfl | rfl | rfl | rfl | rfl | rfl | rfl | rfl : r9 = 0 ∨ r9 = 1 ∨ r9 = 2 ∨ r9 = 3 ∨ r9 = 4 ∨ r9 = 5 ∨ r9 = 6 ∨ r9 = 7 ∨ r9 = 8 := by omega
  · obtain ⟨a, o, e, q1, q2⟩ := p1
    exact ⟨l5, _, _, _, rfl, rfl, SqL.of gl5, rfl, kk (.set s [120]) .cell (.ref a) _ PZ ⟨by omega, by decide⟩ (by exact hs) BZ kH (by cases e; exact q1) ⟨a, rfl, q2⟩⟩
  · obtain ⟨a, o, e, q1, q2⟩ := p2
    exact ⟨l5, _, _, _, rfl, rfl, SqL.of gl5, rfl, kk (.swap c.l s) .cell (.ref a) _ PZ ⟨by rw [c2]; decide, by omega⟩ (by exact Or.inr hs) BZ kH (by cases e; exact q1) ⟨a, rfl, q2⟩⟩
  · obtain ⟨a, o, e, q1, q2⟩ := p3
    exact ⟨l5, _, _, _, rfl, rfl, SqL.of gl5, rfl, kk (.swap s c.l) .cell (.ref a) _ PZ ⟨by omega, by rw [c2]; decide⟩ (by exact Or.inl hs) BZ kH (by cases e; exact q1) ⟨a, rfl, q2⟩⟩
  · obtain ⟨a, o, e, q1, q2⟩ := p4
    exact ⟨l5, _, _, _, rfl, rfl, SqL.of gl5, rfl, kk (.fill s 0) .cell (.ref a) _ PZ ⟨by omega, by decide, by decide⟩ (by exact hs) BZ kH (by cases e; exact q1) ⟨a, rfl, q2⟩⟩
  · obtain ⟨a, o, e, q1, q2⟩ := p5
    exact ⟨l5, _, _, _, rfl, rfl, SqL.of gl5, rfl, kk (.fill s 1) .cell (.ref a) _ PZ ⟨by omega, by decide, by decide⟩ (by exact hs) BZ kH (by cases e; exact q1) ⟨a, rfl, q2⟩⟩
  · obtain ⟨a, o, e, q1, q2⟩ := p6
    exact ⟨l5, _, _, _, rfl, rfl, SqL.of gl5, rfl, kk (.set c.l [120]) .formula (.ref a) _ PZ ⟨by rw [c2]; decide, by decide⟩ (by exact And.intro (isCelL_cel c) nx) BZ kH (by cases e; exact q1) ⟨a, rfl, q2⟩⟩
  · obtain ⟨a, o, e, q1, q2⟩ := p7
    exact ⟨l5, _, _, _, rfl, rfl, SqL.of gl5, rfl, kk (.set c.l lng) .formula (.ref a) _ PZ ⟨by rw [c2]; decide, by decide⟩ (by exact And.intro (isCelL_cel c) nl) BZ kH (by cases e; exact q1) ⟨a, rfl, q2⟩⟩
  · obtain ⟨a, o, e, q1, q2⟩ := p8
    exact ⟨l5, _, _, _, rfl, rfl, SqL.of gl5, rfl, kk (.fill c.l ((0 : Int) - r8)) .off (.ref a) _ PZ ⟨by rw [c2]; decide, by omega, by omega⟩ (by exact And.intro (isCelL_cel c) (Or.inl (by omega))) BZ kH (by cases e; exact q1) ⟨a, rfl, q2⟩⟩
  · obtain ⟨a, o, e, q1, q2⟩ := p9
    exact ⟨l5, _, _, _, rfl, rfl, SqL.of gl5, rfl, kk (.fill c.l 9) .off (.ref a) _ PZ ⟨by rw [c2]; decide, by decide, by decide⟩ (by exact And.intro (isCelL_cel c) (Or.inr ⟨c, rfl, by omega⟩)) BZ kH (by cases e; exact q1) ⟨a, rfl, q2⟩⟩
end
end U

namespace U
open PySem PySem.Spec L2 PyProof.Rows
section
variable {P : Program} {w : World} {K : PySem.W.Frag} {mg : Str → Option Value} {base : Heap}
/-! ### the law of k09 -/
def TRx (K : PySem.W.Frag) (mg : Str → Option Value) (CT CH CP CN CB CF CX : Addr) : (XK → Hp → VK → Prop) → Hp → VK → Prop := fun tl H Q => ∃ (D : Addr) (i : Nat), RefF K mg CT CH CP CN CB CF CX D i ∧ TRf D i tl H Q
theorem gives_any {X : Cx} {g CT CH CP CN CB CF CX : Addr} {cdv : Value} {q : Str} : GivesN X ["_law_work", "e", "_law_kinds", "_law_words", "_law_k"] "_law_refusal" (defScope s_l_refusal) g cdv (defBody s_l_refusal) "_law_work" q (TRx X.K X.mg CT CH CP CN CB CF CX) := by
  intro f c' s H Q tl act hc h
  obtain ⟨D, i, R, h⟩ := h
  exact gives_refusal R f c' s H Q tl act hc h
theorem pe_ref0 {X : Cx} {k : Nat} {g c PT CT CH CP CN CB CF CX : Addr} {fdt : FuncData} {t : XK → TE} {params : Arguments} {body : Expr} {scope : Scope} {p lpos pos : Pos} (hK : X.K = K) (hM : X.mg = mg) (F : Fun K "_law_refusal" "_law_refusal" s_l_refusal g fdt) (m : mg "_law_refusal" = some (.ref g)) (b : Binds K fdt ["_law_work"] []) (hg : Gl X "_law_refusal")
    (TB : LamX.TabB X.base X.mg c PT) (hcode : X.env.code = .ref c) {q : Str} (hq : X.env.qual = q) (hr : Room (k + 2) X.A) (L : LamX.LamS X.env.scope scope) (hdef : defaultsOf params X.env = ([], []))
    (hbind : ∀ (q : Str) (cl : List (Str × Addr)) (pm cv ctv : Value), bindArgs (PySem.W.kla_fn "<lambda>" q params body scope cl pm cv ctv) ⟨[], []⟩ = pure [])
    (hbody : ∀ (A : Around) (outer : List Env) (s : Shared) (H : Hp) (E : XK) (f c' : Addr), Room k (A.deeper (LamX.lamEnv X scope s.heap.objs.size f c')) → PE (lamCx0 X A outer s H E scope f c') body (t E)) :
    PE X (.Call (.Name "_law_refusal" p) [.Lambda params body scope lpos] [] pos) (tLam0 PT (q ++ "<lambda>") (TRx K mg CT CH CP CN CB CF CX) t) := by
  subst hK hM hq
  obtain ⟨oc, od, cdv, kV, doc, pm, an, ct, osl, rfl, lk, hcd⟩ := F.ex
  exact pe_lamcall0 hg m F.kp lk hcd b sc_l_refusal rfl (by first | exact Or.inl rfl | rfl) gives_any TB hcode hr L hdef hbind hbody
theorem pe_refD {X : Cx} {k : Nat} {pa : Str} {g c PT CT CH CP CN CB CF CX : Addr} {fdt : FuncData} {t : XK → TE} {te : TE} {params : Arguments} {body e : Expr} {scope : Scope} {p lpos pos : Pos} (hK : X.K = K) (hM : X.mg = mg) (F : Fun K "_law_refusal" "_law_refusal" s_l_refusal g fdt) (m : mg "_law_refusal" = some (.ref g)) (b : Binds K fdt ["_law_work"] []) (hg : Gl X "_law_refusal")
    (TB : LamX.TabB X.base X.mg c PT) (hcode : X.env.code = .ref c) {q : Str} (hq : X.env.qual = q) (hr : Room (k + 2) X.A) (L : LamSD pa X.env.scope scope) (npa : pa ∉ X.N) (hdef : defaultsOf params X.env = ([eval e X.env], [])) (he : PE X e te)
    (hbind : ∀ (q : Str) (cl : List (Str × Addr)) (dT : Addr) (pm cv ctv u1 : Value), ∃ kk, bindArgs (dlFn q params body scope cl (.ref dT) pm cv ctv) ⟨[], []⟩ = seqItems? (.ref dT) >>= kk ∧ kk (some #[u1]) = pure [(pa, u1)])
    (hbody : ∀ (A : Around) (outer : List Env) (s : Shared) (H : Hp) (E : XK) (f c' : Addr), Room k (A.deeper (LamX.lamEnv X scope s.heap.objs.size f c')) → PE (lamCxD X pa A outer s H E scope f c') body (t E)) :
    PE X (.Call (.Name "_law_refusal" p) [.Lambda params body scope lpos] [] pos) (tLamD PT (q ++ "<lambda>") (TRx K mg CT CH CP CN CB CF CX) te t) := by
  subst hK hM hq
  obtain ⟨oc, od, cdv, kV, doc, pm, an, ct, osl, rfl, lk, hcd⟩ := F.ex
  exact pe_lamcallD hg m F.kp lk hcd b sc_l_refusal rfl (by first | exact Or.inl rfl | rfl) gives_any TB hcode hr L npa hdef he hbind hbody
theorem tabS_km {M N : List Addr} {H H' : Hp} {p : Addr} {q : Str} (h : LamX.TabS H p q) (k : KM N H H') (mu : MutL M H) (off : Off N M H) (n : p ∉ N) : LamX.TabS H' p q := by
  obtain ⟨ps, e, t, a⟩ := h
  refine ⟨ps, k _ _ e n, t, fun pos cv hc => ?_⟩
  obtain ⟨c, e1, e2⟩ := a pos cv hc
  exact ⟨c, e1, k.obj mu off e2 (fun _ z => by cases z) fun _ z => by cases z⟩
abbrev qL : Str := ("law.<locals>." : Str) ++ "<lambda>"
structure LS (K : PySem.W.Frag) (C CP b l PT : Addr) (H : Hp) (t ls lp q pp : Addr) (st : List Nat) (pts : List Pt) (ys : List V) : Prop where
  W : Lw K C CP (pp :: q :: ls :: lp :: [b, l, PT]) H t ls lp q pp st st pts ys
  X : Bx H (pp :: q :: ls :: lp :: [b, l, PT]) b l ls lp q pp
  T : LamX.TabS H PT qL
section
variable {C CP b l PT t ls lp q pp : Addr} {H H' : Hp} {st : List Nat} {pts : List Pt} {ys : List V}
theorem LS.npt (S : LS K C CP b l PT H t ls lp q pp st pts ys) {c : Addr} {xs : List V} (h : H c = some (.lst xs)) : c ≠ PT := fun z => by
  obtain ⟨ps, e, _⟩ := S.T
  rw [z, e] at h
  cases h
theorem LS.same (S : LS K C CP b l PT H t ls lp q pp st pts ys) (s : Same H H') : LS K C CP b l PT H' t ls lp q pp st pts ys := ⟨S.W.same s, S.X.same s, S.T.ext s⟩
theorem LS.bx (S : LS K C CP b l PT H t ls lp q pp st pts ys) (B : Box H' b l) (k : Keep b l H H') : LS K C CP b l PT H' t ls lp q pp st pts ys := by
  have n1 : PT ≠ b := fun z => by
    obtain ⟨xs, e⟩ := S.X.B.at_b
    exact S.npt e z.symm
  have n2 : PT ≠ l := fun z => by
    obtain ⟨xs, e⟩ := S.X.B.at_l
    exact S.npt e z.symm
  refine ⟨S.W.bx S.X B k, S.X.put B, tabS_km S.T k.km S.W.TA.mu (.sub fun x hx => ?_) (by simp [n1, n2])⟩
  simp at hx
  rcases hx with rfl | rfl
  · exact S.X.mb
  · exact S.X.ml
theorem LS.tab (S : LS K C CP b l PT H t ls lp q pp st pts ys) (k : Keep PT PT H H') (T' : LamX.TabS H' PT qL) : LS K C CP b l PT H' t ls lp q pp st pts ys := by
  obtain ⟨ps, e, _⟩ := id T'
  obtain ⟨pv, elp, _⟩ := S.W.TA.hp
  obtain ⟨_, eb⟩ := S.X.B.at_b
  obtain ⟨_, el⟩ := S.X.B.at_l
  have off : ∀ G, Off [PT, PT] (pp :: q :: ls :: lp :: [b, l, PT]) G := fun G => .sub fun x hx => by
    simp at hx
    simp [hx]
  exact ⟨S.W.km k.km (off _) (((MutL.nil _).consT e).consT e) (by simp [S.npt S.W.TA.hs]) (by simp [S.npt elp]) (by simp [S.npt S.W.hq]) (by simp [S.npt S.W.hp]), S.X.km k.km (by simp [S.npt eb]) (by simp [S.npt el]), T'⟩
end
theorem two_shaped (i : Nat) (h : i < 6) : SeqAt.shaped (.list [.str (wds.getD i ""), .bool true]) = true ∧ PyData.eqv (.list [.str (wds.getD i ""), .bool true]) (.list [.str (wds.getD i ""), .bool true]) = true := by
  obtain rfl | rfl | rfl | rfl | rfl | rfl : i = 0 ∨ i = 1 ∨ i = 2 ∨ i = 3 ∨ i = 4 ∨ i = 5 := by omega
  all_goals exact ⟨by decide +kernel, by decide +kernel⟩
theorem wdv_at (i : Nat) (h : i < 6) : wdv i = .str (wds.getD i "") := by
  obtain rfl | rfl | rfl | rfl | rfl | rfl : i = 0 ∨ i = 1 ∨ i = 2 ∨ i = 3 ∨ i = 4 ∨ i = 5 := by omega
  all_goals rfl
end
end U

namespace U
open PySem L2 PyProof.Rows
section
variable {P : Program} {w : World} {K : PySem.W.Frag} {mg : Str → Option Value} {base : Heap}
theorem dp_nats (K : PySem.W.Frag) (H : Hp) : ∀ l : List Nat, DpAll K H (nI l) (l.map fun s : Nat => PyData.int (s : Int))
  | [] => .nil
  | _ :: r => .cons (.int _) (dp_nats K H r)
theorem nats_ints (l : List Nat) : (l.map fun s : Nat => PyData.int (s : Int)) = (l.map fun s : Nat => (s : Int)).map PyData.int := by rw [List.map_map]; rfl
theorem shaped_nats (l : List Nat) : SeqAt.shaped (.list (l.map fun s : Nat => PyData.int (s : Int))) = true := by
  rw [nats_ints]
  exact shaped_ints _
theorem eqv_nats (l : List Nat) : PyData.eqv (.list (l.map fun s : Nat => PyData.int (s : Int))) (.list (l.map fun s : Nat => PyData.int (s : Int))) = true := by
  rw [evL]
  induction l with
  | nil => exact evN
  | cons x r ih =>
    rw [List.map_cons, evC, ih, evI]
    simp
def spLawT (K : PySem.W.Frag) (PT : Addr) : Sp := fun vs H Q _ => ∃ (a : Addr) (ns : List Int), vs = [.ref a] ∧ SqL K H a (ns.map V.int) ∧ ns.length ≤ 63 ∧ H PT = some (.tbl #[]) ∧ ∀ H', Q (.bl true) H'
theorem ok_law {f g c PT C CP CT EH EP EN EB EF EX : Addr} {fdt : FuncData} {oc kV dc pm ct : Value} {od an : Option Addr} {sl : Array (Option Value)} (lk : K.lookup f = some ⟨oc, od, .func (PySem.W.fnOf "law" "law" (defArgs s_law) (defBody s_law) (defScope s_law) .none kV dc pm an (.ref c) ct), sl⟩) (hcd : PySem.W.codeIn K (.ref c) "law" = true)
    (TB : LamX.TabB base mg c PT) (B : Bt mg) (R0 : RefF K mg CT EH EP EN EB EF EX EH 0) (R1 : RefF K mg CT EH EP EN EB EF EX EP 1) (R2 : RefF K mg CT EH EP EN EB EF EX EN 2) (R3 : RefF K mg CT EH EP EN EB EF EX EB 3) (R4 : RefF K mg CT EH EP EN EB EF EX EF 4)
    (F_refusal : Fun K "_law_refusal" "_law_refusal" s_l_refusal g fdt) (m_refusal : mg "_law_refusal" = some (.ref g)) (b_refusal : Binds K fdt ["_law_work"] [])
    (C_l_begun : Cal P w K mg base 60 "_law_begun" ["_law_script"] (spBegun K)) (C_l_take : Cal P w K mg base 60 "_law_take" ["_law_box", "_law_many_here"] spTake) (C_l_cell : Cal P w K mg base 60 "_law_cell" ["_law_box"] spCell) (C_l_grown : Cal P w K mg base 60 "_law_grown" ["_law_box", "_law_many_here", "_law_hands"] (spGrown K C CP)) (C_l_bad_deed : Cal P w K mg base 60 "_law_bad_deed" ["_law_box", "_law_cell_here"] (spBadDeed K))
    (C_l_at_points : CalX P w K mg base 60 "_law_at_points" ["_law_tree", "_law_hands", "_law_bad", "_law_way"] (spAtP K C CP EP)) (C_l_at_hands : CalX P w K mg base 60 "_law_at_hands" ["_law_tree", "_law_bad", "_law_far", "_law_way"] (spAtH K C CP EH)) (C_l_at_first : CalX P w K mg base 60 "_law_at_first" ["_law_tree", "_law_way"] (spAtF K C CP EP))
    (C_do : CM (L2N.CX P w) P w K mg base 60 C "do" ["self", "hand", "deed"] (spDoR K C CP EN EB EF)) (C_Tree : CK (L2N.CX P w) P w K mg base 59 C "Tree" ["self", "hands"] (spTree K C CP EH)) (C_many : CM CX0 P w K mg base 60 C "many" ["self"] (spMany K C CP)) (C_here : CM (L2N.CX P w) P w K mg base 60 C "here" ["self", "hand"] (spHere K C CP EH)) (C_table : CM (L2N.CX P w) P w K mg base 60 C "table" ["self", "point"] (spTable K C CP EP)) :
    FnOk P w K mg base CX0 70 f (PySem.W.fnOf "law" "law" (defArgs s_law) (defBody s_law) (defScope s_law) .none kV dc pm an (.ref c) ct) ["_law_script"] (spLawT K PT) := by
  refine fn_of lk hcd sc_law (fun vs H Q E h => ?_) (fun A outer s H vs Q E hr h => ?_)
  · obtain ⟨a, ns, rfl, _⟩ := h
    rfl
  obtain ⟨a, ns0, rfl, hS, hl, hPT, kk⟩ := h
  suffices hh : ∃ t, PSs (cxOf CX0 P w K mg base ["_law_script", "_law_box", "_law_hands", "_law_tree", "_law_points", "_law_places", "_law_far", "_law_bad", "_law_way", "_law_beyond", "_law_deed_here", "_law_word", "_law_k", "_law_point"] "law" (defScope s_law) f (.ref c) A outer s H E).nox (defBody s_law) t ∧ t { nx := fun _ H' => Q .non H', rt := Q } (L2.start ["_law_script", "_law_box", "_law_hands", "_law_tree", "_law_points", "_law_places", "_law_far", "_law_bad", "_law_way", "_law_beyond", "_law_deed_here", "_law_word", "_law_k", "_law_point"] [.ref a]) H by
    obtain ⟨t, h1, h2⟩ := hh
    exact ⟨t, h1.nox, h2⟩
  have hq0 : (cxOf CX0 P w K mg base ["_law_script", "_law_box", "_law_hands", "_law_tree", "_law_points", "_law_places", "_law_far", "_law_bad", "_law_way", "_law_beyond", "_law_deed_here", "_law_word", "_law_k", "_law_point"] "law" (defScope s_law) f (.ref c) A outer s H E).nox.env.qual = "law.<locals>." := rfl
  have hc0 : (cxOf CX0 P w K mg base ["_law_script", "_law_box", "_law_hands", "_law_tree", "_law_points", "_law_places", "_law_far", "_law_bad", "_law_way", "_law_beyond", "_law_deed_here", "_law_word", "_law_k", "_law_point"] "law" (defScope s_law) f (.ref c) A outer s H E).nox.env.code = .ref c := rfl
  have hK0 : (cxOf CX0 P w K mg base ["_law_script", "_law_box", "_law_hands", "_law_tree", "_law_points", "_law_places", "_law_far", "_law_bad", "_law_way", "_law_beyond", "_law_deed_here", "_law_word", "_law_k", "_law_point"] "law" (defScope s_law) f (.ref c) A outer s H E).nox.K = K := rfl
  have hM0 : (cxOf CX0 P w K mg base ["_law_script", "_law_box", "_law_hands", "_law_tree", "_law_points", "_law_places", "_law_far", "_law_bad", "_law_way", "_law_beyond", "_law_deed_here", "_law_word", "_law_k", "_law_point"] "law" (defScope s_law) f (.ref c) A outer s H E).nox.mg = mg := rfl
  refine ⟨_, (pss_cons (ps_set (i := 1) sc_law.nd rfl (Or.inl rfl) (pc_c C_l_begun (hr.mono (by first | exact Nat.le_refl _ | decide | omega)) (by rfl) (pa_cons (pv 0) pa_nil)))
      (pss_cons (ps_set (i := 2) sc_law.nd rfl (Or.inr rfl) (pe_op op_add pe_int (pc_c C_l_take (hr.mono (by first | exact Nat.le_refl _ | decide | omega)) (by rfl) (pa_cons (pv 1) (pa_cons pe_int pa_nil)))))
      (pss_cons (ps_asg (pc_c C_l_grown (hr.mono (by first | exact Nat.le_refl _ | decide | omega)) (by rfl) (pa_cons (pv 1) (pa_cons (pc_c C_l_take (hr.mono (by first | exact Nat.le_refl _ | decide | omega)) (by rfl) (pa_cons (pv 1) (pa_cons pe_int pa_nil))) (pa_cons (pv 2) pa_nil)))) (pg_tup (by rfl) (pgs_cons (pg_name (i := 3) sc_law.nd rfl (Or.inr rfl)) (pgs_cons (pg_name (i := 4) sc_law.nd rfl (Or.inr rfl)) (pgs_cons (pg_name (i := 5) sc_law.nd rfl (Or.inl rfl)) pgs_nil)))))
      (pss_cons (ps_set (i := 6) sc_law.nd rfl (Or.inr rfl) (pe_op op_add (pe_callB call_len_seq (by rfl) B.len boot_len (pa_cons (pv 4) pa_nil)) (pc_c C_l_take (hr.mono (by first | exact Nat.le_refl _ | decide | omega)) (by rfl) (pa_cons (pv 1) (pa_cons pe_int pa_nil)))))
      (pss_cons (ps_set (i := 7) sc_law.nd rfl (Or.inr rfl) (pe_ix ix_list (pe_lst (pa_cons (pv 6) (pa_cons (pe_op op_sub (pe_un un_neg pe_int) (pc_c C_l_take (hr.mono (by first | exact Nat.le_refl _ | decide | omega)) (by rfl) (pa_cons (pv 1) (pa_cons pe_int pa_nil)))) pa_nil))) (pc_c C_l_take (hr.mono (by first | exact Nat.le_refl _ | decide | omega)) (by rfl) (pa_cons (pv 1) (pa_cons pe_int pa_nil))) (fun _ _ => rfl)))
      (pss_cons (ps_set (i := 8) sc_law.nd rfl (Or.inr rfl) (pc_c C_l_take (hr.mono (by first | exact Nat.le_refl _ | decide | omega)) (by rfl) (pa_cons (pv 1) (pa_cons pe_int pa_nil))))
      (pss_cons (ps_if (pt_cmpR (op_neD hr.units) (pe_ref0 (k := 61) (CT := CT) (CH := EH) (CP := EP) (CN := EN) (CB := EB) (CF := EF) (CX := EX) hK0 hM0 F_refusal m_refusal b_refusal (by rfl) TB hc0 hq0 (hr.mono (by decide)) (LamX.lamS_by (sc := defScope s_law) (by decide +kernel)) (by rfl) (fun _ _ _ _ _ => rfl) (fun A1 o1 s1 H1 E1 f1 c1 hr1 => pc_x C_l_at_points (hr1.mono (by decide)) (by rfl) (L2N.passes_call (L2N.takes_of rfl rfl rfl rfl) (fun _ _ _ _ h => h)) (pa_cons (pv 3) (pa_cons (pv 2) (pa_cons (pv 7) (pa_cons (pv 8) pa_nil)))))) (pe_lst (pa_cons pe_str (pa_cons pe_bl pa_nil))) (nomark _)) (pss_one (ps_ret pe_bl)) pss_nil)
      (pss_cons (ps_set (i := 9) sc_law.nd rfl (Or.inr rfl) (pe_ix ix_list (pe_lst (pa_cons (pe_op op_add (pv 2) (pc_c C_l_take (hr.mono (by first | exact Nat.le_refl _ | decide | omega)) (by rfl) (pa_cons (pv 1) (pa_cons pe_int pa_nil)))) (pa_cons (pe_op op_sub (pe_un un_neg pe_int) (pc_c C_l_take (hr.mono (by first | exact Nat.le_refl _ | decide | omega)) (by rfl) (pa_cons (pv 1) (pa_cons pe_int pa_nil)))) pa_nil))) (pc_c C_l_take (hr.mono (by first | exact Nat.le_refl _ | decide | omega)) (by rfl) (pa_cons (pv 1) (pa_cons pe_int pa_nil))) (fun _ _ => rfl)))
      (pss_cons (ps_if (pt_cmpR (op_neD hr.units) (pe_refD (k := 61) (pa := "_law_few") (CT := CT) (CH := EH) (CP := EP) (CN := EN) (CB := EB) (CF := EF) (CX := EX) hK0 hM0 F_refusal m_refusal b_refusal (by rfl) TB hc0 hq0 (hr.mono (by decide)) (lamSD_by (a := "_law_few") (sc := defScope s_law) (by decide +kernel)) (show ("_law_few" : Str) ∉ (["_law_script", "_law_box", "_law_hands", "_law_tree", "_law_points", "_law_places", "_law_far", "_law_bad", "_law_way", "_law_beyond", "_law_deed_here", "_law_word", "_law_k", "_law_point"] : List Str) by decide +kernel) (by rfl) pe_int (fun _ _ _ _ _ _ _ => ⟨_, rfl, rfl⟩) (fun A1 o1 s1 H1 E1 f1 c1 hr1 => pc_x C_l_at_hands (hr1.mono (by decide)) (by rfl) (L2N.passes_call (L2N.takes_of rfl rfl rfl rfl) (fun _ _ _ _ h => h)) (pa_cons (pv 3) (pa_cons (pv 9) (pa_cons (pv 6) (pa_cons (pe_op op_mod (pv 8) pe_int) pa_nil)))))) (pe_lst (pa_cons pe_str (pa_cons pe_bl pa_nil))) (nomark _)) (pss_one (ps_ret pe_bl)) pss_nil)
      (pss_cons (ps_if (pt_cmpR (op_neD hr.units) (pe_refD (k := 61) (pa := "_law_more") (CT := CT) (CH := EH) (CP := EP) (CN := EN) (CB := EB) (CF := EF) (CX := EX) hK0 hM0 F_refusal m_refusal b_refusal (by rfl) TB hc0 hq0 (hr.mono (by decide)) (lamSD_by (a := "_law_more") (sc := defScope s_law) (by decide +kernel)) (show ("_law_more" : Str) ∉ (["_law_script", "_law_box", "_law_hands", "_law_tree", "_law_points", "_law_places", "_law_far", "_law_bad", "_law_way", "_law_beyond", "_law_deed_here", "_law_word", "_law_k", "_law_point"] : List Str) by decide +kernel) (by rfl) pe_int (fun _ _ _ _ _ _ _ => ⟨_, rfl, rfl⟩) (fun A1 o1 s1 H1 E1 f1 c1 hr1 => pc_x C_l_at_first (hr1.mono (by decide)) (by rfl) (L2N.passes_call (L2N.takes_of rfl rfl rfl rfl) (fun _ _ _ _ h => h)) (pa_cons (pv 3) (pa_cons (pe_op op_mod (pv 8) pe_int) pa_nil)))) (pe_lst (pa_cons pe_str (pa_cons pe_bl pa_nil))) (nomark _)) (pss_one (ps_ret pe_bl)) pss_nil)
      (pss_cons (ps_asg (pc_c C_l_bad_deed (hr.mono (by first | exact Nat.le_refl _ | decide | omega)) (by rfl) (pa_cons (pv 1) (pa_cons (pc_c C_l_cell (hr.mono (by first | exact Nat.le_refl _ | decide | omega)) (by rfl) (pa_cons (pv 1) pa_nil)) pa_nil))) (pg_tup (by rfl) (pgs_cons (pg_name (i := 10) sc_law.nd rfl (Or.inr rfl)) (pgs_cons (pg_name (i := 11) sc_law.nd rfl (Or.inl rfl)) pgs_nil))))
      (pss_cons (ps_if (pt_cmpR (op_neD hr.units) (pe_refD (k := 61) (pa := "_law_last_here") (CT := CT) (CH := EH) (CP := EP) (CN := EN) (CB := EB) (CF := EF) (CX := EX) hK0 hM0 F_refusal m_refusal b_refusal (by rfl) TB hc0 hq0 (hr.mono (by decide)) (lamSD_by (a := "_law_last_here") (sc := defScope s_law) (by decide +kernel)) (show ("_law_last_here" : Str) ∉ (["_law_script", "_law_box", "_law_hands", "_law_tree", "_law_points", "_law_places", "_law_far", "_law_bad", "_law_way", "_law_beyond", "_law_deed_here", "_law_word", "_law_k", "_law_point"] : List Str) by decide +kernel) (by rfl) pe_int (fun _ _ _ _ _ _ _ => ⟨_, rfl, rfl⟩) (fun A1 o1 s1 H1 E1 f1 c1 hr1 => pm_x C_do (hr1.mono (by decide)) (L2N.passes_call (L2N.takes_of rfl rfl rfl rfl) (fun _ _ _ _ h => h)) (pv 3) (pa_cons pe_int (pa_cons (pv 10) pa_nil)))) (pe_lst (pa_cons (pv 11) (pa_cons pe_bl pa_nil))) (nomark _)) (pss_one (ps_ret pe_bl)) pss_nil)
      (pss_cons (ps_if (pt_cmpR (op_neD hr.units) (pe_refD (k := 61) (pa := "_law_none") (CT := CT) (CH := EH) (CP := EP) (CN := EN) (CB := EB) (CF := EF) (CX := EX) hK0 hM0 F_refusal m_refusal b_refusal (by rfl) TB hc0 hq0 (hr.mono (by decide)) (lamSD_by (a := "_law_none") (sc := defScope s_law) (by decide +kernel)) (show ("_law_none" : Str) ∉ (["_law_script", "_law_box", "_law_hands", "_law_tree", "_law_points", "_law_places", "_law_far", "_law_bad", "_law_way", "_law_beyond", "_law_deed_here", "_law_word", "_law_k", "_law_point"] : List Str) by decide +kernel) (by rfl) pe_int (fun _ _ _ _ _ _ _ => ⟨_, rfl, rfl⟩) (fun A1 o1 s1 H1 E1 f1 c1 hr1 => pk_x C_Tree (hr1.mono (by decide)) (by rfl) (L2N.passes_call (L2N.takes_of rfl rfl rfl rfl) (fun _ _ _ _ h => h)) (pa_cons (pe_ix (ix_listK (K := K) rfl) (pe_lst (pa_cons pe_int (pa_cons pe_int (pa_cons (pe_un un_neg pe_int) (pa_cons pe_int pa_nil))))) (pe_op op_mod (pv 8) pe_int) (fun _ _ => rfl)) pa_nil))) (pe_lst (pa_cons pe_str (pa_cons pe_bl pa_nil))) (nomark _)) (pss_one (ps_ret pe_bl)) pss_nil)
      (pss_cons (ps_if (PW.pt (pw_or (pt_cmpR op_ne (pm_c0 C_many (hr.mono (by first | exact Nat.le_refl _ | decide | omega)) (pv 3)) (pe_callB call_len_seq (by rfl) B.len boot_len (pa_cons (pv 4) pa_nil)) (nomark _)) (pw_or1 (pt_cmpR (op_neD hr.units) (pe_lc (own := [("_law_k", 12)])  rfl sc_law.nd (pi_range1 (by rfl) B.range (pa_cons (pv 2) pa_nil)) (blkOk_by (N := ["_law_script", "_law_box", "_law_hands", "_law_tree", "_law_points", "_law_places", "_law_far", "_law_bad", "_law_way", "_law_beyond", "_law_deed_here", "_law_word", "_law_k", "_law_point"]) (sc := defScope s_law) (by decide +kernel)) (fun _ _ _ _ _ => pg_name (i := 12) sc_law.nd rfl (Or.inl rfl)) (fun _ _ _ _ _ => pts_nil) (fun _ _ _ _ _ => (pm_x C_here (hr.mono (by first | exact Nat.le_refl _ | decide | omega)) passX0 (pv 3) (pa_cons (pv 12) pa_nil)))) (pv 5) (nomark _))))) (pss_one (ps_ret pe_bl)) pss_nil)
      (pss_one (ps_ret (pe_cmpR (op_eqD hr.units) (pe_lc (own := [("_law_point", 13)])  rfl sc_law.nd (pi_range1 (by rfl) B.range (pa_cons (pe_callB call_len_seq (by rfl) B.len boot_len (pa_cons (pv 4) pa_nil)) pa_nil)) (blkOk_by (N := ["_law_script", "_law_box", "_law_hands", "_law_tree", "_law_points", "_law_places", "_law_far", "_law_bad", "_law_way", "_law_beyond", "_law_deed_here", "_law_word", "_law_k", "_law_point"]) (sc := defScope s_law) (by decide +kernel)) (fun _ _ _ _ _ => pg_name (i := 13) sc_law.nd rfl (Or.inl rfl)) (fun _ _ _ _ _ => (pts_one (pt_cmpR (op_neDDK (K := K) rfl (hu65 hr)) (pm_x C_table (hr.mono (by first | exact Nat.le_refl _ | decide | omega)) passX0 (pv 3) (pa_cons (pv 13) pa_nil)) (pe_ix (ix_tupK (K := K) rfl) (pe_ix (ix_listK (K := K) rfl) (pv 4) (pv 13) (fun _ _ => rfl)) pe_int (fun _ _ => rfl)) (nomark _)))) (fun _ _ _ _ _ => (pv 13))) (pe_lst pa_nil) (nomark _)))))))))))))))))), ?_⟩
  have h0 : L2.start ["_law_script", "_law_box", "_law_hands", "_law_tree", "_law_points", "_law_places", "_law_far", "_law_bad", "_law_way", "_law_beyond", "_law_deed_here", "_law_word", "_law_k", "_law_point"] [V.ref a] = [some (V.ref a), none, none, none, none, none, none, none, none, none, none, none, none, none] := rfl
  rw [h0]
  clear hq0 hc0 hK0 hM0
  refine ⟨_, rfl, a, ns0, rfl, hS, hl, fun b l H1 s1 hb hl1 B1 => ?_⟩
  have T1 := s1 _ _ hPT
  have nT : PT ≠ b ∧ PT ≠ l := B1.off T1 fun _ z => by cases z
  refine ⟨_, rfl, b, l, 4, rfl, B1, by decide, by decide, fun r0 H2 c0 c1 B2 K2 => ⟨_, _, rfl, rfl, ?_⟩⟩
  obtain ⟨n, en⟩ : ∃ n : Nat, (1 : Int) + r0 = (n : Int) := ⟨(1 + r0).toNat, by omega⟩
  have hn : 1 ≤ n ∧ n ≤ 4 := by omega
  show gName 2 (V.int ((1 : Int) + r0)) _ _ _
  rw [en]
  refine ⟨_, rfl, _, rfl, b, l, 5, rfl, B2, by decide, by decide, fun r1 H3 d0 d1 B3 K3 => ?_⟩
  obtain ⟨m, em⟩ : ∃ m : Nat, r1 = (m : Int) := ⟨r1.toNat, by omega⟩
  subst em
  have T3 := K3 _ _ (K2 _ _ T1 nT.1 nT.2) nT.1 nT.2
  have mu3 : MutL [b, l, PT] H3 := by
    obtain ⟨z1, h1⟩ := B3.at_b
    obtain ⟨z2, h2⟩ := B3.at_l
    exact (((MutL.nil _).consT T3).cons h2).cons h1
  refine ⟨_, rfl, [b, l, PT], b, l, m, n, rfl, B3, by simp, by simp, mu3, by omega, hn.1, hn.2, fun r t ls lp q pp st pts ys H4 hr4 hls hlp hq hpp K4 hT4 X4 W4 wf g3 stl ptl => ?_⟩
  refine ⟨r, _, rfl, hT4, rfl, _, _, rfl, _, _, rfl, _, _, rfl, rfl, ?_⟩
  simp only [List.set_cons_zero, List.set_cons_succ]
  have S4 : LS K C CP b l PT H4 t ls lp q pp st pts ys := ⟨W4, X4, .nil (K4 _ _ T3 nT.1 nT.2)⟩
  subst stl
  have wp := wf.wp
  have ppos := wp.pos
  have yl := W4.pl.len
  have st0 : 0 < st.length := by omega
  clear W4 X4 K4 hT4 T3 mu3 B2 B3 K2 K3
  -- a point that there is not
  refine ⟨_, rfl, q, _, rfl, .inl (SqL.of S4.W.hq), _, rfl, b, l, 99, rfl, S4.X.B, by decide, by decide, fun r5 H5 e0 e1 B5 K5 => ⟨_, _, rfl, rfl, ?_⟩⟩
  have S5 := S4.bx B5 K5
  obtain ⟨far, efar⟩ : ∃ far : Int, ((ys.length : Nat) : Int) + r5 = far := ⟨_, rfl⟩
  show gName 6 (V.int (((ys.length : Nat) : Int) + r5)) _ _ _
  rw [efar]
  simp only [List.set_cons_zero, List.set_cons_succ]
  refine ⟨_, rfl, _, rfl, _, rfl, b, l, 99, rfl, B5, by decide, by decide, fun r6 H6 f0 f1 B6 K6 => ⟨_, _, rfl, rfl, small (by show 2 ≤ 1000; decide), fun lb hlb => ?_⟩⟩
  have S6 := S5.bx B6 K6
  have s7 := same_new hlb (.lst [.int far, .int ((-1 : Int) - r6)])
  have nlb := B6.new hlb
  have g7 : upd H6 lb (.lst [.int far, .int ((-1 : Int) - r6)]) lb = some (.lst [.int far, .int ((-1 : Int) - r6)]) := upd_same
  have S7 := S6.same s7
  generalize upd H6 lb (.lst [.int far, .int ((-1 : Int) - r6)]) = H7 at s7 g7 S7 ⊢
  refine ⟨_, rfl, b, l, 2, rfl, S7.X.B, by decide, by decide, fun r7 H8 g0 g1 B8 K8 => ?_⟩
  have S8 := S7.bx B8 K8
  obtain ⟨bad, ebad, hbad, bbad⟩ : ∃ bad : Int, atI [V.int far, V.int ((-1 : Int) - r6)] r7 = some (.int bad) ∧ BadN pts.length bad ∧ Bnd bad := by
    obtain rfl | rfl : r7 = 0 ∨ r7 = 1 := by omega
    · exact ⟨_, rfl, .inr (by omega), by constructor <;> omega⟩
    · exact ⟨_, rfl, .inl (by omega), by constructor <;> omega⟩
  refine ⟨lb, _, _, _, rfl, rfl, SqL.of (K8 _ _ g7 nlb.1 nlb.2), ebad, ?_⟩
  simp only [List.set_cons_zero, List.set_cons_succ]
  refine ⟨_, rfl, b, l, 13, rfl, B8, by decide, by decide, fun r8 H9 i0 i1 B9 K9 => ?_⟩
  have S9 := S8.bx B9 K9
  obtain ⟨way, eway⟩ : ∃ way : Nat, r8 = (way : Int) := ⟨r8.toNat, by omega⟩
  subst eway
  simp only [List.set_cons_zero, List.set_cons_succ]
  clear S4 S5 S6 S7 S8
  refine ⟨S9.T, fun HA kA TA => ⟨EP, 1, R1, ?_⟩⟩
  have SA := S9.tab kA TA
  refine ⟨_, rfl, _, rfl, _, rfl, _, rfl, _, t, ls, lp, st, pts, _, bad, way, rfl, SA.W.TA, wf, st0, hbad, bbad, by omega, fun HB sB => ⟨rfl, rfl, fun rr HC hrr sC gC => ?_⟩⟩
  have SC := (SA.same sB).same sC
  have gC := gC
  rw [wdv_at 1 (by decide)] at gC
  refine ⟨small (by show 2 ≤ 1000; decide), fun pD hpD => ?_⟩
  have sD := same_new hpD (.lst [.str "point", .bl true])
  have SD := SC.same sD
  have hD : upd HC pD (.lst [.str "point", .bl true]) pD = some (.lst [.str "point", .bl true]) := upd_same
  have kD := sD _ _ gC
  generalize upd HC pD (.lst [.str "point", .bl true]) = HD at sD SD hD kD ⊢
  refine ⟨.list [.str (wds.getD 1 ""), .bool true], .list [.str (wds.getD 1 ""), .bool true], .lst (SqL.of kD) (.cons (.str _) (.cons (.bl _) .nil)), .lst (SqL.of hD) (.cons (.str _) (.cons (.bl _) .nil)), (two_shaped 1 (by decide)).1, (two_shaped 1 (by decide)).1, _, rfl, iteF_of (by rw [(two_shaped 1 (by decide)).2]; rfl) ?_⟩
  simp only [List.set_cons_zero, List.set_cons_succ]
  -- a hand that there is not
  refine ⟨_, rfl, _, rfl, b, l, 99, rfl, SD.X.B, by decide, by decide, fun t1 HE j0 j1 BE KE => ⟨_, _, rfl, rfl, ?_⟩⟩
  have SE := SD.bx BE KE
  refine ⟨_, rfl, _, rfl, b, l, 99, rfl, BE, by decide, by decide, fun t2 HF j2 j3 BF KF => ⟨_, _, rfl, rfl, small (by show 2 ≤ 1000; decide), fun lc hlc => ?_⟩⟩
  have SF := SE.bx BF KF
  have s12 := same_new hlc (.lst [.int ((st.length : Int) + t1), .int ((-1 : Int) - t2)])
  have nlc := BF.new hlc
  have g12 : upd HF lc (.lst [.int ((st.length : Int) + t1), .int ((-1 : Int) - t2)]) lc = some (.lst [.int ((st.length : Int) + t1), .int ((-1 : Int) - t2)]) := upd_same
  have SG := SF.same s12
  generalize upd HF lc (.lst [.int ((st.length : Int) + t1), .int ((-1 : Int) - t2)]) = HG at s12 g12 SG ⊢
  refine ⟨_, rfl, b, l, 2, rfl, SG.X.B, by decide, by decide, fun t3 HI j4 j5 BI KI => ?_⟩
  have SI := SG.bx BI KI
  obtain ⟨bey, ebey, hbey, bbey⟩ : ∃ bey : Int, atI [V.int ((st.length : Int) + t1), V.int ((-1 : Int) - t2)] t3 = some (.int bey) ∧ BadN st.length bey ∧ Bnd bey := by
    obtain rfl | rfl : t3 = 0 ∨ t3 = 1 := by omega
    · exact ⟨_, rfl, .inr (by omega), by constructor <;> omega⟩
    · exact ⟨_, rfl, .inl (by omega), by constructor <;> omega⟩
  refine ⟨lc, _, _, _, rfl, rfl, SqL.of (KI _ _ g12 nlc.1 nlc.2), ebey, ?_⟩
  simp only [List.set_cons_zero, List.set_cons_succ]
  clear SC SD SE SF SG S9 SA
  refine ⟨SI.T, fun HJ kJ TJ => ⟨EH, 0, R0, ?_⟩⟩
  have SJ := SI.tab kJ TJ
  refine ⟨_, rfl, _, rfl, _, rfl, _, rfl, _, _, rfl, rfl, (by show (0 : Int) < 5; decide), _, t, ls, lp, st, pts, bey, far, way % 5, by show [V.ref t, V.int bey, V.int far, V.int ((way : Int) % 5)] = _; rw [show ((way : Int) % 5) = ((way % 5 : Nat) : Int) by omega], SJ.W.TA, wf, hbey, bbey, by omega, fun HK sK => ⟨rfl, rfl, fun rk HL hrk sL gL => ?_⟩⟩
  have SL_ := (SJ.same sK).same sL
  have gL := gL
  rw [wdv_at 0 (by decide)] at gL
  refine ⟨small (by show 2 ≤ 1000; decide), fun pM hpM => ?_⟩
  have sM := same_new hpM (.lst [.str "hand", .bl true])
  have SM := SL_.same sM
  have hM : upd HL pM (.lst [.str "hand", .bl true]) pM = some (.lst [.str "hand", .bl true]) := upd_same
  have kM := sM _ _ gL
  generalize upd HL pM (.lst [.str "hand", .bl true]) = HM at sM SM hM kM ⊢
  refine ⟨.list [.str (wds.getD 0 ""), .bool true], .list [.str (wds.getD 0 ""), .bool true], .lst (SqL.of kM) (.cons (.str _) (.cons (.bl _) .nil)), .lst (SqL.of hM) (.cons (.str _) (.cons (.bl _) .nil)), (two_shaped 0 (by decide)).1, (two_shaped 0 (by decide)).1, _, rfl, iteF_of (by rw [(two_shaped 0 (by decide)).2]; rfl) ?_⟩
  simp only [List.set_cons_zero, List.set_cons_succ]
  -- the first point
  refine ⟨SM.T, fun HO1 kO TO => ⟨EP, 1, R1, ?_⟩⟩
  have SO := SM.tab kO TO
  refine ⟨_, rfl, _, rfl, _, _, rfl, rfl, (by show (0 : Int) < 4; decide), _, t, ls, lp, st, pts, way % 4, by show [V.ref t, V.int ((way : Int) % 4)] = _; rw [show ((way : Int) % 4) = ((way % 4 : Nat) : Int) by omega], SO.W.TA, wf, st0, by omega, fun HP1 sP => ⟨rfl, rfl, fun rq HQ hrq sQ gQ => ?_⟩⟩
  have SQ := (SO.same sP).same sQ
  have gQ := gQ
  rw [wdv_at 1 (by decide)] at gQ
  refine ⟨small (by show 2 ≤ 1000; decide), fun pR hpR => ?_⟩
  have sR := same_new hpR (.lst [.str "point", .bl true])
  have SR := SQ.same sR
  have hR : upd HQ pR (.lst [.str "point", .bl true]) pR = some (.lst [.str "point", .bl true]) := upd_same
  have kR := sR _ _ gQ
  generalize upd HQ pR (.lst [.str "point", .bl true]) = HR at sR SR hR kR ⊢
  refine ⟨.list [.str (wds.getD 1 ""), .bool true], .list [.str (wds.getD 1 ""), .bool true], .lst (SqL.of kR) (.cons (.str _) (.cons (.bl _) .nil)), .lst (SqL.of hR) (.cons (.str _) (.cons (.bl _) .nil)), (two_shaped 1 (by decide)).1, (two_shaped 1 (by decide)).1, _, rfl, iteF_of (by rw [(two_shaped 1 (by decide)).2]; rfl) ?_⟩
  simp only [List.set_cons_zero, List.set_cons_succ]
  -- a deed that cannot be
  refine ⟨_, rfl, _, rfl, b, l, rfl, SR.X.B, fun cc HS BS KS => ?_⟩
  have SS := SR.bx BS KS
  refine ⟨b, l, cc, rfl, BS, fun Rd kd dv rd1 HT sm rf BT KT hTT raT => ?_⟩
  have ST := SS.bx BT KT
  refine ⟨rd1, _, rfl, hTT, rfl, _, _, rfl, _, _, rfl, rfl, ?_⟩
  simp only [List.set_cons_zero, List.set_cons_succ]
  clear SI SJ SL_ SM SO SQ SR SS
  obtain ⟨ik, Rk, ik6, ewk⟩ : ∃ i, RefF K mg CT EH EP EN EB EF EX (kd.cls EN EB EF) i ∧ i < 6 ∧ wds.getD i "" = kd.word := by
    cases kd with
    | cell => exact ⟨2, R2, by decide, rfl⟩
    | formula => exact ⟨3, R3, by decide, rfl⟩
    | off => exact ⟨4, R4, by decide, rfl⟩
  refine ⟨ST.T, fun HU kU TU => ⟨kd.cls EN EB EF, ik, Rk, ?_⟩⟩
  have SU := ST.tab kU TU
  have tkU : Tk K HT HU := KM.tk kU.km ST.W.TA.mu (.sub fun x hx => by simp at hx; simp [hx])
  obtain ⟨dxU, htU⟩ := SU.W.TA.ob
  obtain ⟨av, eav, hav⟩ := raT
  obtain ⟨og0, hog0⟩ : ∃ og, st[0]? = some og := ⟨_, List.getElem?_eq_getElem st0⟩
  have hogl := wf.sb og0 (List.mem_of_getElem? hog0)
  obtain ⟨po, hpo⟩ : ∃ p, pts[og0]? = some p := ⟨_, List.getElem?_eq_getElem hogl⟩
  refine ⟨_, rfl, t, dxU, _, rfl, htU, ft_no m_do.1 m_do.2, _, rfl, _, t, ls, lp, st, pts, 0, og0, po, Rd, dv, kd, rfl, SU.W.TA, hog0, hpo, ⟨av, eav, tkU _ _ hav⟩, sm, rf, fun HV sV => ⟨rfl, rfl, fun rw1 HW hrw sW gW => ?_⟩⟩
  have SW := (SU.same sV).same sW
  rw [wdv_at ik ik6, ewk] at gW
  refine ⟨_, rfl, small (by show 2 ≤ 1000; decide), fun pX hpX => ?_⟩
  have sX := same_new hpX (.lst [.str kd.word, .bl true])
  have SX_ := SW.same sX
  have hX : upd HW pX (.lst [.str kd.word, .bl true]) pX = some (.lst [.str kd.word, .bl true]) := upd_same
  have kX := sX _ _ gW
  generalize upd HW pX (.lst [.str kd.word, .bl true]) = HX at sX SX_ hX kX ⊢
  have ts := two_shaped ik ik6
  rw [ewk] at ts
  refine ⟨.list [.str kd.word, .bool true], .list [.str kd.word, .bool true], .lst (SqL.of kX) (.cons (.str _) (.cons (.bl _) .nil)), .lst (SqL.of hX) (.cons (.str _) (.cons (.bl _) .nil)), ts.1, ts.1, _, rfl, iteF_of (by rw [ts.2]; rfl) ?_⟩
  simp only [List.set_cons_zero, List.set_cons_succ]
  -- a tree of no hands, or too many
  refine ⟨SX_.T, fun HY kY TY => ⟨EH, 0, R0, ?_⟩⟩
  have SY := SX_.tab kY TY
  obtain ⟨hv, ehv, hh1, hh2⟩ : ∃ hv : Int, atI [V.int 0, V.int 5, V.int (-1), V.int 99] ((way : Int) % 4) = some (.int hv) ∧ (hv < 1 ∨ 4 < hv) ∧ Bnd hv := by
    obtain e | e | e | e : (way : Int) % 4 = 0 ∨ (way : Int) % 4 = 1 ∨ (way : Int) % 4 = 2 ∨ (way : Int) % 4 = 3 := by omega
    all_goals rw [e]
    · exact ⟨0, rfl, by omega, by constructor <;> omega⟩
    · exact ⟨5, rfl, by omega, by constructor <;> omega⟩
    · exact ⟨-1, rfl, by omega, by constructor <;> omega⟩
    · exact ⟨99, rfl, by omega, by constructor <;> omega⟩
  refine ⟨_, rfl, small (by show 4 ≤ 1000; decide), fun lh hlh => ?_⟩
  have sh := same_new hlh (.lst [.int 0, .int 5, .int (-1), .int 99])
  have gh : upd HY lh (.lst [.int 0, .int 5, .int (-1), .int 99]) lh = some (.lst [.int 0, .int 5, .int (-1), .int 99]) := upd_same
  have SZ := SY.same sh
  generalize upd HY lh (.lst [.int 0, .int 5, .int (-1), .int 99]) = HZ at sh gh SZ ⊢
  refine ⟨_, rfl, _, _, rfl, rfl, (by show (0 : Int) < 4; decide), lh, _, _, _, rfl, rfl, SqL.of gh, ehv, fun tt dd nt ndx nex => ?_⟩
  have stt : Same HZ (upd (upd HZ dd (.own tt)) tt (.ins C dd [])) := (same_new ndx _).trans (same_new (by rw [upd_ne nex.symm]; exact nt) _)
  refine ⟨tt, dd, hv, _, rfl, upd_same, SZ.W.TA.mu.same stt, .inr ⟨hh1, hh2, fun Ha sa => ⟨rfl, rfl, fun rb Hb hrb sb gb => ?_⟩⟩⟩
  have Sb := ((SZ.same stt).same sa).same sb
  have gb := gb
  rw [wdv_at 0 (by decide)] at gb
  refine ⟨small (by show 2 ≤ 1000; decide), fun pc hpc => ?_⟩
  have sc := same_new hpc (.lst [.str "hand", .bl true])
  have Sc := Sb.same sc
  have hc : upd Hb pc (.lst [.str "hand", .bl true]) pc = some (.lst [.str "hand", .bl true]) := upd_same
  have kc := sc _ _ gb
  generalize upd Hb pc (.lst [.str "hand", .bl true]) = Hc at sc Sc hc kc ⊢
  refine ⟨.list [.str (wds.getD 0 ""), .bool true], .list [.str (wds.getD 0 ""), .bool true], .lst (SqL.of kc) (.cons (.str _) (.cons (.bl _) .nil)), .lst (SqL.of hc) (.cons (.str _) (.cons (.bl _) .nil)), (two_shaped 0 (by decide)).1, (two_shaped 0 (by decide)).1, _, rfl, iteF_of (by rw [(two_shaped 0 (by decide)).2]; rfl) ?_⟩
  simp only [List.set_cons_zero, List.set_cons_succ]
  -- all is as it was
  have TAc := Sc.W.TA
  obtain ⟨dxc, htc⟩ := TAc.ob
  refine ⟨_, rfl, t, dxc, _, rfl, htc, ft_no m_ma.1 m_ma.2, _, t, ls, lp, st, pts, rfl, TAc, _, rfl, q, _, rfl, .inl (SqL.of Sc.W.hq), rfl, _, rfl, ?_⟩
  rw [yl, show (!decide (V.int (pts.length : Int) = V.int (pts.length : Int))) = false by simp]
  refine iteF ⟨_, rfl, _, rfl, by omega, by omega, fun Dk hDk => ?_⟩
  rw [show ((st.length : Nat) : Int).toNat = st.length by omega]
  refine lc_range (lo := 0) (fun k Hk => Same Hc Hk ∧ Hk Dk = some (.lst (nI (st.take k)))) ⟨same_new hDk _, upd_same⟩ ?_ ?_
  · rintro k Hk hk2 ⟨sk, gk⟩
    rw [show (0 : Int) + (k : Int) = (k : Int) by omega]
    obtain ⟨sv, hsv⟩ : ∃ sv, st[k]? = some sv := ⟨st[k]'(by omega), List.getElem?_eq_getElem _⟩
    refine ⟨wipe_in (by decide), yes_ ⟨_, rfl, t, dxc, _, rfl, sk _ _ htc, ft_no m_he.1 m_he.2, _, rfl, _, t, ls, lp, st, pts, _, rfl, TAc.same sk, .inl ⟨k, sv, rfl, hsv, _, gk, ?_, fun c0 o0 z => ?_, ?_⟩⟩⟩
    · unfold nI
      rw [List.length_map, List.length_take]
      exact small (by omega)
    · rw [upd_ne (ne_of_none z hDk)]
      exact sk _ _ z
    · rw [upd_same, List.take_add_one, hsv]
      unfold nI
      rw [List.map_append]
      rfl
  rintro Hd ⟨sd, gd⟩
  rw [List.take_length] at gd
  refine ⟨_, rfl, _, _, .lst (SqL.of gd) (dp_nats K Hd st), .lst (SqL.of (sd _ _ Sc.W.hp)) (dp_nats K Hd st), shaped_nats st, shaped_nats st, ?_⟩
  rw [eqv_nats]
  refine ⟨_, rfl, iteF ?_⟩
  have Sd := Sc.same sd
  refine ⟨_, rfl, q, _, rfl, .inl (SqL.of Sd.W.hq), _, rfl, by omega, by omega, fun Dm hDm => ?_⟩
  rw [show ((ys.length : Nat) : Int).toNat = pts.length by omega]
  refine lc_range (lo := 0) (fun k Hk => Same Hd Hk ∧ Hk Dm = some (.lst [])) ⟨same_new hDm _, upd_same⟩ ?_ ?_
  · rintro k Hk hk2 ⟨sk, gk⟩
    rw [show (0 : Int) + (k : Int) = (k : Int) by omega]
    have hp : pts[k]? = some pts[k] := List.getElem?_eq_getElem hk2
    generalize pts[k] = px at hp
    have pok := wp.ok px (List.mem_of_getElem? hp)
    have Sk := Sd.same sk
    obtain ⟨dxk, htk⟩ := Sk.W.TA.ob
    refine ⟨wipe_in (by decide), _, rfl, t, dxk, _, rfl, htk, ft_no m_ta.1 m_ta.2, _, rfl, _, t, ls, lp, st, pts, _, rfl, Sk.W.TA, .inl ⟨k, px, rfl, hp, fun r5 Hm kv5 hr5 s5 g5 a5 => ?_⟩⟩
    have plm := (Sk.same s5).W.pl
    obtain ⟨v, hv2, lcx, ax, ix_, dvx, ldx, rlx, kwx, xsx, rfl, hTx, _, _, hkx, alx, lokx, _, smx, _, _, _⟩ := plm.at hp
    obtain ⟨ll, la⟩ := al_data a5 alx pok lokx.nd smx
    refine ⟨_, rfl, _, rfl, q, _, _, _, rfl, rfl, SqL.of (s5 _ _ Sk.W.hq), atI_nat hv2, ax, _, _, _, rfl, rfl, hTx, rfl, ?_⟩
    exact ⟨r5, ldx, kv5, kwx, rfl, rfl, g5, hkx, ll, la, _, rfl, iteF ⟨sk.trans s5, s5 _ _ gk⟩⟩
  rintro He ⟨se, ge⟩
  refine ⟨small (by decide), fun Dn hDn => ?_⟩
  have gen := same_new hDn (.lst []) _ _ ge
  have gN : upd He Dn (.lst []) Dn = some (.lst []) := upd_same
  generalize upd He Dn (.lst []) = Hf at gen gN ⊢
  refine ⟨_, _, .lst (SqL.of gen) .nil, .lst (SqL.of gN) .nil, shaped_nil, shaped_nil, ?_⟩
  rw [show PyData.eqv (.list []) (.list []) = true by rw [evL]; exact evN]
  exact kk _
end
end U

namespace U
open PySem L2 PyProof.Rows
theorem kit_subG {K : PySem.W.Frag} {C D : Addr} (mD : ExcM K D) (t : PySem.W.typeIn K (.ref C) = some (.type "type")) (i : PySem.W.isClsIn K C = true) (h : PySem.W.subIn K (.ref D) (.ref C) = some false) : PySem.W.kitOne K (.ref D) (.ref C) = some false := by
  have q : (PySem.W.clsIn K C).isSome = true := i
  have ec : ((PySem.W.clsIn K C).isSome && PySem.W.typeIn K (.ref C) == some (.type "type")) = true := by rw [q, t]; rfl
  unfold PySem.W.kitOne
  by_cases e : (Value.ref D == Value.ref C) = true
  · have e2 : D = C := Value.ref.inj (beq_iff_eq.mp e)
    rw [← e2, mD.r] at h
    cases h
  · rw [if_neg e]
    show (if ((PySem.W.clsIn K C).isSome && PySem.W.typeIn K (.ref C) == some (.type "type")) = true then PySem.W.subIn K (.ref D) (.ref C) else none) = some false
    rw [if_pos ec]
    exact h
theorem all_mk {l : PySem.W.OpenLaw} {w : World} {K : PySem.W.Frag} {h : Heap} {mg : Str → Option Value} {fa : Addr} (X : K.In h) (G : h.Ns mainGlobals mg) (hfa : mg "law" = some (.ref fa)) (O : LamX.OwnTab K fa h)
    {C_Tree : Addr}
    {C_Point : Addr}
    {f_is_cell : Addr} {od_is_cell an_is_cell : Option Addr} {sl_is_cell : Array (Option Value)} {oc_is_cell kV_is_cell dc_is_cell pm_is_cell cd_is_cell ct_is_cell : Value}
    {f_place : Addr} {od_place an_place : Option Addr} {sl_place : Array (Option Value)} {oc_place kV_place dc_place pm_place cd_place ct_place : Value}
    {f_shifted : Addr} {od_shifted an_shifted : Option Addr} {sl_shifted : Array (Option Value)} {oc_shifted kV_shifted dc_shifted pm_shifted cd_shifted ct_shifted : Value}
    {f_is_number : Addr} {od_is_number an_is_number : Option Addr} {sl_is_number : Array (Option Value)} {oc_is_number kV_is_number dc_is_number pm_is_number cd_is_number ct_is_number : Value}
    {f_read : Addr} {od_read an_read : Option Addr} {sl_read : Array (Option Value)} {oc_read kV_read dc_read pm_read cd_read ct_read : Value}
    {f_part_at : Addr} {od_part_at an_part_at : Option Addr} {sl_part_at : Array (Option Value)} {oc_part_at kV_part_at dc_part_at pm_part_at cd_part_at ct_part_at : Value}
    {f_sum_at : Addr} {od_sum_at an_sum_at : Option Addr} {sl_sum_at : Array (Option Value)} {oc_sum_at kV_sum_at dc_sum_at pm_sum_at cd_sum_at ct_sum_at : Value}
    {f_parts_at : Addr} {od_parts_at an_parts_at : Option Addr} {sl_parts_at : Array (Option Value)} {oc_parts_at kV_parts_at dc_parts_at pm_parts_at cd_parts_at ct_parts_at : Value}
    {f_lower_cell : Addr} {od_lower_cell an_lower_cell : Option Addr} {sl_lower_cell : Array (Option Value)} {oc_lower_cell kV_lower_cell dc_lower_cell pm_lower_cell cd_lower_cell ct_lower_cell : Value}
    {f_lowered : Addr} {od_lowered an_lowered : Option Addr} {sl_lowered : Array (Option Value)} {oc_lowered kV_lowered dc_lowered pm_lowered cd_lowered ct_lowered : Value}
    {f_check : Addr} {od_check an_check : Option Addr} {sl_check : Array (Option Value)} {oc_check kV_check dc_check pm_check cd_check ct_check : Value}
    {f_newer_contents : Addr} {od_newer_contents an_newer_contents : Option Addr} {sl_newer_contents : Array (Option Value)} {oc_newer_contents kV_newer_contents dc_newer_contents pm_newer_contents cd_newer_contents ct_newer_contents : Value}
    {f_replaced : Addr} {od_replaced an_replaced : Option Addr} {sl_replaced : Array (Option Value)} {oc_replaced kV_replaced dc_replaced pm_replaced cd_replaced ct_replaced : Value}
    {f_changes : Addr} {od_changes an_changes : Option Addr} {sl_changes : Array (Option Value)} {oc_changes kV_changes dc_changes pm_changes cd_changes ct_changes : Value}
    {f_reads_of : Addr} {od_reads_of an_reads_of : Option Addr} {sl_reads_of : Array (Option Value)} {oc_reads_of kV_reads_of dc_reads_of pm_reads_of cd_reads_of ct_reads_of : Value}
    {f_Point___init__ : Addr} {od_Point___init__ an_Point___init__ : Option Addr} {sl_Point___init__ : Array (Option Value)} {oc_Point___init__ kV_Point___init__ dc_Point___init__ pm_Point___init__ cd_Point___init__ ct_Point___init__ : Value}
    {f_Tree___init__ : Addr} {od_Tree___init__ an_Tree___init__ : Option Addr} {sl_Tree___init__ : Array (Option Value)} {oc_Tree___init__ kV_Tree___init__ dc_Tree___init__ pm_Tree___init__ cd_Tree___init__ ct_Tree___init__ : Value}
    {f_Tree_do : Addr} {od_Tree_do an_Tree_do : Option Addr} {sl_Tree_do : Array (Option Value)} {oc_Tree_do kV_Tree_do dc_Tree_do pm_Tree_do cd_Tree_do ct_Tree_do : Value}
    {f_Tree_here : Addr} {od_Tree_here an_Tree_here : Option Addr} {sl_Tree_here : Array (Option Value)} {oc_Tree_here kV_Tree_here dc_Tree_here pm_Tree_here cd_Tree_here ct_Tree_here : Value}
    {f_Tree_told : Addr} {od_Tree_told an_Tree_told : Option Addr} {sl_Tree_told : Array (Option Value)} {oc_Tree_told kV_Tree_told dc_Tree_told pm_Tree_told cd_Tree_told ct_Tree_told : Value}
    {f_Tree_many : Addr} {od_Tree_many an_Tree_many : Option Addr} {sl_Tree_many : Array (Option Value)} {oc_Tree_many kV_Tree_many dc_Tree_many pm_Tree_many cd_Tree_many ct_Tree_many : Value}
    {f_Tree_table : Addr} {od_Tree_table an_Tree_table : Option Addr} {sl_Tree_table : Array (Option Value)} {oc_Tree_table kV_Tree_table dc_Tree_table pm_Tree_table cd_Tree_table ct_Tree_table : Value}
    {f_Tree_worths : Addr} {od_Tree_worths an_Tree_worths : Option Addr} {sl_Tree_worths : Array (Option Value)} {oc_Tree_worths kV_Tree_worths dc_Tree_worths pm_Tree_worths cd_Tree_worths ct_Tree_worths : Value}
    {f_Tree_trail : Addr} {od_Tree_trail an_Tree_trail : Option Addr} {sl_Tree_trail : Array (Option Value)} {oc_Tree_trail kV_Tree_trail dc_Tree_trail pm_Tree_trail cd_Tree_trail ct_Tree_trail : Value}
    {f_Tree_road : Addr} {od_Tree_road an_Tree_road : Option Addr} {sl_Tree_road : Array (Option Value)} {oc_Tree_road kV_Tree_road dc_Tree_road pm_Tree_road cd_Tree_road ct_Tree_road : Value}
    {f_Tree_go : Addr} {od_Tree_go an_Tree_go : Option Addr} {sl_Tree_go : Array (Option Value)} {oc_Tree_go kV_Tree_go dc_Tree_go pm_Tree_go cd_Tree_go ct_Tree_go : Value}
    {f_Tree_check_hand : Addr} {od_Tree_check_hand an_Tree_check_hand : Option Addr} {sl_Tree_check_hand : Array (Option Value)} {oc_Tree_check_hand kV_Tree_check_hand dc_Tree_check_hand pm_Tree_check_hand cd_Tree_check_hand ct_Tree_check_hand : Value}
    {f_Tree_check_point : Addr} {od_Tree_check_point an_Tree_check_point : Option Addr} {sl_Tree_check_point : Array (Option Value)} {oc_Tree_check_point kV_Tree_check_point dc_Tree_check_point pm_Tree_check_point cd_Tree_check_point ct_Tree_check_point : Value}
    {f_leans : Addr} {od_leans an_leans : Option Addr} {sl_leans : Array (Option Value)} {oc_leans kV_leans dc_leans pm_leans cd_leans ct_leans : Value}
    {f_reads : Addr} {od_reads an_reads : Option Addr} {sl_reads : Array (Option Value)} {oc_reads kV_reads dc_reads pm_reads cd_reads ct_reads : Value}
    {f_without : Addr} {od_without an_without : Option Addr} {sl_without : Array (Option Value)} {oc_without kV_without dc_without pm_without cd_without ct_without : Value}
    {f_joined : Addr} {od_joined an_joined : Option Addr} {sl_joined : Array (Option Value)} {oc_joined kV_joined dc_joined pm_joined cd_joined ct_joined : Value}
    {f_l_begun : Addr} {od_l_begun an_l_begun : Option Addr} {sl_l_begun : Array (Option Value)} {oc_l_begun kV_l_begun dc_l_begun pm_l_begun cd_l_begun ct_l_begun : Value}
    {f_l_take : Addr} {od_l_take an_l_take : Option Addr} {sl_l_take : Array (Option Value)} {oc_l_take kV_l_take dc_l_take pm_l_take cd_l_take ct_l_take : Value}
    {f_l_cell : Addr} {od_l_cell an_l_cell : Option Addr} {sl_l_cell : Array (Option Value)} {oc_l_cell kV_l_cell dc_l_cell pm_l_cell cd_l_cell ct_l_cell : Value}
    {f_l_down : Addr} {od_l_down an_l_down : Option Addr} {sl_l_down : Array (Option Value)} {oc_l_down kV_l_down dc_l_down pm_l_down cd_l_down ct_l_down : Value}
    {f_l_part : Addr} {od_l_part an_l_part : Option Addr} {sl_l_part : Array (Option Value)} {oc_l_part kV_l_part dc_l_part pm_l_part cd_l_part ct_l_part : Value}
    {f_l_content : Addr} {od_l_content an_l_content : Option Addr} {sl_l_content : Array (Option Value)} {oc_l_content kV_l_content dc_l_content pm_l_content cd_l_content ct_l_content : Value}
    {f_l_part_text : Addr} {od_l_part_text an_l_part_text : Option Addr} {sl_l_part_text : Array (Option Value)} {oc_l_part_text kV_l_part_text dc_l_part_text pm_l_part_text cd_l_part_text ct_l_part_text : Value}
    {f_l_text : Addr} {od_l_text an_l_text : Option Addr} {sl_l_text : Array (Option Value)} {oc_l_text kV_l_text dc_l_text pm_l_text cd_l_text ct_l_text : Value}
    {f_l_deed : Addr} {od_l_deed an_l_deed : Option Addr} {sl_l_deed : Array (Option Value)} {oc_l_deed kV_l_deed dc_l_deed pm_l_deed cd_l_deed ct_l_deed : Value}
    {f_l_uses : Addr} {od_l_uses an_l_uses : Option Addr} {sl_l_uses : Array (Option Value)} {oc_l_uses kV_l_uses dc_l_uses pm_l_uses cd_l_uses ct_l_uses : Value}
    {f_l_moved : Addr} {od_l_moved an_l_moved : Option Addr} {sl_l_moved : Array (Option Value)} {oc_l_moved kV_l_moved dc_l_moved pm_l_moved cd_l_moved ct_l_moved : Value}
    {f_l_changes : Addr} {od_l_changes an_l_changes : Option Addr} {sl_l_changes : Array (Option Value)} {oc_l_changes kV_l_changes dc_l_changes pm_l_changes cd_l_changes ct_l_changes : Value}
    {f_l_with : Addr} {od_l_with an_l_with : Option Addr} {sl_l_with : Array (Option Value)} {oc_l_with kV_l_with dc_l_with pm_l_with cd_l_with ct_l_with : Value}
    {f_l_grown : Addr} {od_l_grown an_l_grown : Option Addr} {sl_l_grown : Array (Option Value)} {oc_l_grown kV_l_grown dc_l_grown pm_l_grown cd_l_grown ct_l_grown : Value}
    {f_l_refusal : Addr} {od_l_refusal an_l_refusal : Option Addr} {sl_l_refusal : Array (Option Value)} {oc_l_refusal kV_l_refusal dc_l_refusal pm_l_refusal cd_l_refusal ct_l_refusal : Value}
    {f_l_at_points : Addr} {od_l_at_points an_l_at_points : Option Addr} {sl_l_at_points : Array (Option Value)} {oc_l_at_points kV_l_at_points dc_l_at_points pm_l_at_points cd_l_at_points ct_l_at_points : Value}
    {f_l_at_hands : Addr} {od_l_at_hands an_l_at_hands : Option Addr} {sl_l_at_hands : Array (Option Value)} {oc_l_at_hands kV_l_at_hands dc_l_at_hands pm_l_at_hands cd_l_at_hands ct_l_at_hands : Value}
    {f_l_at_first : Addr} {od_l_at_first an_l_at_first : Option Addr} {sl_l_at_first : Array (Option Value)} {oc_l_at_first kV_l_at_first dc_l_at_first pm_l_at_first cd_l_at_first ct_l_at_first : Value}
    {f_l_bad_deed : Addr} {od_l_bad_deed an_l_bad_deed : Option Addr} {sl_l_bad_deed : Array (Option Value)} {oc_l_bad_deed kV_l_bad_deed dc_l_bad_deed pm_l_bad_deed cd_l_bad_deed ct_l_bad_deed : Value}
    {f_law : Addr} {od_law an_law : Option Addr} {sl_law : Array (Option Value)} {oc_law kV_law dc_law pm_law ct_law : Value}
    {t_COLUMNS : Tok}
    {t_ROWS : Tok}
    {t_DEEPEST : Tok}
    {t_FIGURES : Tok}
    {t_MOST_HANDS : Tok}
    {X_NoCell : Addr}
    {X_BadFormula : Addr}
    {X_OffTable : Addr}
    {X_NoHand : Addr}
    {X_NoPoint : Addr}
    {X_TableError : Addr}
    {X_BadNote : Addr}
    {d_PARTS : Addr} {es_PARTS : Array DictEntry} {n_PARTS : Nat} {t_PARTS_0 t_PARTS_1 t_PARTS_2 t_PARTS_3 : Tok}
    {C_law PT : Addr} {dd_c : Option Addr} {vs_c : Array Value} {sl_c : Array (Option Value)} {file_c : Str} {tf_c tg_c tt_c : Tok} {flags_c text_c : Int} {inF_c : Bool}
    (z_Tree : PySem.W.nsIn K mainGlobals "Tree" = some (some (.ref C_Tree))) (pg_Tree : PySem.W.plainGet K C_Tree Str.empty = true) (hdi_Tree : PySem.W.hasDictIn K C_Tree = true) (po_Tree : PySem.W.plainOver K C_Tree = true) (sa_Tree : PySem.W.findIn K (.ref C_Tree) "__setattr__" = some (some (.builtin "object.__setattr__"))) (mk_Tree : PySem.W.makesIn K C_Tree = true) (kc_Tree : PySem.W.keepIn K (.ref C_Tree) = true)
    (n_Tree_stands : PySem.W.findIn K (.ref C_Tree) "stands" = some none)
    (n_Tree_points : PySem.W.findIn K (.ref C_Tree) "points" = some none)
    (z_Point : PySem.W.nsIn K mainGlobals "Point" = some (some (.ref C_Point))) (pg_Point : PySem.W.plainGet K C_Point Str.empty = true) (hdi_Point : PySem.W.hasDictIn K C_Point = true) (po_Point : PySem.W.plainOver K C_Point = true) (sa_Point : PySem.W.findIn K (.ref C_Point) "__setattr__" = some (some (.builtin "object.__setattr__"))) (mk_Point : PySem.W.makesIn K C_Point = true) (kc_Point : PySem.W.keepIn K (.ref C_Point) = true)
    (n_Point_origin : PySem.W.findIn K (.ref C_Point) "origin" = some none)
    (n_Point_hand : PySem.W.findIn K (.ref C_Point) "hand" = some none)
    (n_Point_deed : PySem.W.findIn K (.ref C_Point) "deed" = some none)
    (n_Point_rows : PySem.W.findIn K (.ref C_Point) "rows" = some none)
    (n_Point_contents : PySem.W.findIn K (.ref C_Point) "contents" = some none)
    (a_is_cell : PySem.W.nsIn K mainGlobals "is_cell" = some (some (.ref f_is_cell)))
    (l_is_cell : K.lookup f_is_cell = some ⟨oc_is_cell, od_is_cell, .func (PySem.W.fnOf "is_cell" "is_cell" (defArgs s_is_cell) (defBody s_is_cell) (defScope s_is_cell) .none kV_is_cell dc_is_cell pm_is_cell an_is_cell cd_is_cell ct_is_cell), sl_is_cell⟩)
    (c_is_cell : PySem.W.codeIn K cd_is_cell "is_cell" = true) (k_is_cell : PySem.W.keepIn K (.ref f_is_cell) = true)
    (a_place : PySem.W.nsIn K mainGlobals "place" = some (some (.ref f_place)))
    (l_place : K.lookup f_place = some ⟨oc_place, od_place, .func (PySem.W.fnOf "place" "place" (defArgs s_place) (defBody s_place) (defScope s_place) .none kV_place dc_place pm_place an_place cd_place ct_place), sl_place⟩)
    (c_place : PySem.W.codeIn K cd_place "place" = true) (k_place : PySem.W.keepIn K (.ref f_place) = true)
    (a_shifted : PySem.W.nsIn K mainGlobals "shifted" = some (some (.ref f_shifted)))
    (l_shifted : K.lookup f_shifted = some ⟨oc_shifted, od_shifted, .func (PySem.W.fnOf "shifted" "shifted" (defArgs s_shifted) (defBody s_shifted) (defScope s_shifted) .none kV_shifted dc_shifted pm_shifted an_shifted cd_shifted ct_shifted), sl_shifted⟩)
    (c_shifted : PySem.W.codeIn K cd_shifted "shifted" = true) (k_shifted : PySem.W.keepIn K (.ref f_shifted) = true)
    (a_is_number : PySem.W.nsIn K mainGlobals "is_number" = some (some (.ref f_is_number)))
    (l_is_number : K.lookup f_is_number = some ⟨oc_is_number, od_is_number, .func (PySem.W.fnOf "is_number" "is_number" (defArgs s_is_number) (defBody s_is_number) (defScope s_is_number) .none kV_is_number dc_is_number pm_is_number an_is_number cd_is_number ct_is_number), sl_is_number⟩)
    (c_is_number : PySem.W.codeIn K cd_is_number "is_number" = true) (k_is_number : PySem.W.keepIn K (.ref f_is_number) = true)
    (a_read : PySem.W.nsIn K mainGlobals "read" = some (some (.ref f_read)))
    (l_read : K.lookup f_read = some ⟨oc_read, od_read, .func (PySem.W.fnOf "read" "read" (defArgs s_read) (defBody s_read) (defScope s_read) .none kV_read dc_read pm_read an_read cd_read ct_read), sl_read⟩)
    (c_read : PySem.W.codeIn K cd_read "read" = true) (k_read : PySem.W.keepIn K (.ref f_read) = true)
    (a_part_at : PySem.W.nsIn K mainGlobals "part_at" = some (some (.ref f_part_at)))
    (l_part_at : K.lookup f_part_at = some ⟨oc_part_at, od_part_at, .func (PySem.W.fnOf "part_at" "part_at" (defArgs s_part_at) (defBody s_part_at) (defScope s_part_at) .none kV_part_at dc_part_at pm_part_at an_part_at cd_part_at ct_part_at), sl_part_at⟩)
    (c_part_at : PySem.W.codeIn K cd_part_at "part_at" = true) (k_part_at : PySem.W.keepIn K (.ref f_part_at) = true)
    (a_sum_at : PySem.W.nsIn K mainGlobals "sum_at" = some (some (.ref f_sum_at)))
    (l_sum_at : K.lookup f_sum_at = some ⟨oc_sum_at, od_sum_at, .func (PySem.W.fnOf "sum_at" "sum_at" (defArgs s_sum_at) (defBody s_sum_at) (defScope s_sum_at) .none kV_sum_at dc_sum_at pm_sum_at an_sum_at cd_sum_at ct_sum_at), sl_sum_at⟩)
    (c_sum_at : PySem.W.codeIn K cd_sum_at "sum_at" = true) (k_sum_at : PySem.W.keepIn K (.ref f_sum_at) = true)
    (a_parts_at : PySem.W.nsIn K mainGlobals "parts_at" = some (some (.ref f_parts_at)))
    (l_parts_at : K.lookup f_parts_at = some ⟨oc_parts_at, od_parts_at, .func (PySem.W.fnOf "parts_at" "parts_at" (defArgs s_parts_at) (defBody s_parts_at) (defScope s_parts_at) .none kV_parts_at dc_parts_at pm_parts_at an_parts_at cd_parts_at ct_parts_at), sl_parts_at⟩)
    (c_parts_at : PySem.W.codeIn K cd_parts_at "parts_at" = true) (k_parts_at : PySem.W.keepIn K (.ref f_parts_at) = true)
    (a_lower_cell : PySem.W.nsIn K mainGlobals "lower_cell" = some (some (.ref f_lower_cell)))
    (l_lower_cell : K.lookup f_lower_cell = some ⟨oc_lower_cell, od_lower_cell, .func (PySem.W.fnOf "lower_cell" "lower_cell" (defArgs s_lower_cell) (defBody s_lower_cell) (defScope s_lower_cell) .none kV_lower_cell dc_lower_cell pm_lower_cell an_lower_cell cd_lower_cell ct_lower_cell), sl_lower_cell⟩)
    (c_lower_cell : PySem.W.codeIn K cd_lower_cell "lower_cell" = true) (k_lower_cell : PySem.W.keepIn K (.ref f_lower_cell) = true)
    (a_lowered : PySem.W.nsIn K mainGlobals "lowered" = some (some (.ref f_lowered)))
    (l_lowered : K.lookup f_lowered = some ⟨oc_lowered, od_lowered, .func (PySem.W.fnOf "lowered" "lowered" (defArgs s_lowered) (defBody s_lowered) (defScope s_lowered) .none kV_lowered dc_lowered pm_lowered an_lowered cd_lowered ct_lowered), sl_lowered⟩)
    (c_lowered : PySem.W.codeIn K cd_lowered "lowered" = true) (k_lowered : PySem.W.keepIn K (.ref f_lowered) = true)
    (a_check : PySem.W.nsIn K mainGlobals "check" = some (some (.ref f_check)))
    (l_check : K.lookup f_check = some ⟨oc_check, od_check, .func (PySem.W.fnOf "check" "check" (defArgs s_check) (defBody s_check) (defScope s_check) .none kV_check dc_check pm_check an_check cd_check ct_check), sl_check⟩)
    (c_check : PySem.W.codeIn K cd_check "check" = true) (k_check : PySem.W.keepIn K (.ref f_check) = true)
    (a_newer_contents : PySem.W.nsIn K mainGlobals "newer_contents" = some (some (.ref f_newer_contents)))
    (l_newer_contents : K.lookup f_newer_contents = some ⟨oc_newer_contents, od_newer_contents, .func (PySem.W.fnOf "newer_contents" "newer_contents" (defArgs s_newer_contents) (defBody s_newer_contents) (defScope s_newer_contents) .none kV_newer_contents dc_newer_contents pm_newer_contents an_newer_contents cd_newer_contents ct_newer_contents), sl_newer_contents⟩)
    (c_newer_contents : PySem.W.codeIn K cd_newer_contents "newer_contents" = true) (k_newer_contents : PySem.W.keepIn K (.ref f_newer_contents) = true)
    (a_replaced : PySem.W.nsIn K mainGlobals "replaced" = some (some (.ref f_replaced)))
    (l_replaced : K.lookup f_replaced = some ⟨oc_replaced, od_replaced, .func (PySem.W.fnOf "replaced" "replaced" (defArgs s_replaced) (defBody s_replaced) (defScope s_replaced) .none kV_replaced dc_replaced pm_replaced an_replaced cd_replaced ct_replaced), sl_replaced⟩)
    (c_replaced : PySem.W.codeIn K cd_replaced "replaced" = true) (k_replaced : PySem.W.keepIn K (.ref f_replaced) = true)
    (a_changes : PySem.W.nsIn K mainGlobals "changes" = some (some (.ref f_changes)))
    (l_changes : K.lookup f_changes = some ⟨oc_changes, od_changes, .func (PySem.W.fnOf "changes" "changes" (defArgs s_changes) (defBody s_changes) (defScope s_changes) .none kV_changes dc_changes pm_changes an_changes cd_changes ct_changes), sl_changes⟩)
    (c_changes : PySem.W.codeIn K cd_changes "changes" = true) (k_changes : PySem.W.keepIn K (.ref f_changes) = true)
    (a_reads_of : PySem.W.nsIn K mainGlobals "reads_of" = some (some (.ref f_reads_of)))
    (l_reads_of : K.lookup f_reads_of = some ⟨oc_reads_of, od_reads_of, .func (PySem.W.fnOf "reads_of" "reads_of" (defArgs s_reads_of) (defBody s_reads_of) (defScope s_reads_of) .none kV_reads_of dc_reads_of pm_reads_of an_reads_of cd_reads_of ct_reads_of), sl_reads_of⟩)
    (c_reads_of : PySem.W.codeIn K cd_reads_of "reads_of" = true) (k_reads_of : PySem.W.keepIn K (.ref f_reads_of) = true)
    (a_Point___init__ : PySem.W.findIn K (.ref C_Point) "__init__" = some (some (.ref f_Point___init__))) (i_Point___init__ : PySem.W.isFn K (.ref f_Point___init__) = true)
    (l_Point___init__ : K.lookup f_Point___init__ = some ⟨oc_Point___init__, od_Point___init__, .func (PySem.W.fnOf "__init__" "Point.__init__" (defArgs s_Point___init__) (defBody s_Point___init__) (defScope s_Point___init__) .none kV_Point___init__ dc_Point___init__ pm_Point___init__ an_Point___init__ cd_Point___init__ ct_Point___init__), sl_Point___init__⟩)
    (c_Point___init__ : PySem.W.codeIn K cd_Point___init__ "Point.__init__" = true) (k_Point___init__ : PySem.W.keepIn K (.ref f_Point___init__) = true)
    (a_Tree___init__ : PySem.W.findIn K (.ref C_Tree) "__init__" = some (some (.ref f_Tree___init__))) (i_Tree___init__ : PySem.W.isFn K (.ref f_Tree___init__) = true)
    (l_Tree___init__ : K.lookup f_Tree___init__ = some ⟨oc_Tree___init__, od_Tree___init__, .func (PySem.W.fnOf "__init__" "Tree.__init__" (defArgs s_Tree___init__) (defBody s_Tree___init__) (defScope s_Tree___init__) .none kV_Tree___init__ dc_Tree___init__ pm_Tree___init__ an_Tree___init__ cd_Tree___init__ ct_Tree___init__), sl_Tree___init__⟩)
    (c_Tree___init__ : PySem.W.codeIn K cd_Tree___init__ "Tree.__init__" = true) (k_Tree___init__ : PySem.W.keepIn K (.ref f_Tree___init__) = true)
    (a_Tree_do : PySem.W.findIn K (.ref C_Tree) "do" = some (some (.ref f_Tree_do))) (i_Tree_do : PySem.W.isFn K (.ref f_Tree_do) = true)
    (l_Tree_do : K.lookup f_Tree_do = some ⟨oc_Tree_do, od_Tree_do, .func (PySem.W.fnOf "do" "Tree.do" (defArgs s_Tree_do) (defBody s_Tree_do) (defScope s_Tree_do) .none kV_Tree_do dc_Tree_do pm_Tree_do an_Tree_do cd_Tree_do ct_Tree_do), sl_Tree_do⟩)
    (c_Tree_do : PySem.W.codeIn K cd_Tree_do "Tree.do" = true) (k_Tree_do : PySem.W.keepIn K (.ref f_Tree_do) = true)
    (a_Tree_here : PySem.W.findIn K (.ref C_Tree) "here" = some (some (.ref f_Tree_here))) (i_Tree_here : PySem.W.isFn K (.ref f_Tree_here) = true)
    (l_Tree_here : K.lookup f_Tree_here = some ⟨oc_Tree_here, od_Tree_here, .func (PySem.W.fnOf "here" "Tree.here" (defArgs s_Tree_here) (defBody s_Tree_here) (defScope s_Tree_here) .none kV_Tree_here dc_Tree_here pm_Tree_here an_Tree_here cd_Tree_here ct_Tree_here), sl_Tree_here⟩)
    (c_Tree_here : PySem.W.codeIn K cd_Tree_here "Tree.here" = true) (k_Tree_here : PySem.W.keepIn K (.ref f_Tree_here) = true)
    (a_Tree_told : PySem.W.findIn K (.ref C_Tree) "told" = some (some (.ref f_Tree_told))) (i_Tree_told : PySem.W.isFn K (.ref f_Tree_told) = true)
    (l_Tree_told : K.lookup f_Tree_told = some ⟨oc_Tree_told, od_Tree_told, .func (PySem.W.fnOf "told" "Tree.told" (defArgs s_Tree_told) (defBody s_Tree_told) (defScope s_Tree_told) .none kV_Tree_told dc_Tree_told pm_Tree_told an_Tree_told cd_Tree_told ct_Tree_told), sl_Tree_told⟩)
    (c_Tree_told : PySem.W.codeIn K cd_Tree_told "Tree.told" = true) (k_Tree_told : PySem.W.keepIn K (.ref f_Tree_told) = true)
    (a_Tree_many : PySem.W.findIn K (.ref C_Tree) "many" = some (some (.ref f_Tree_many))) (i_Tree_many : PySem.W.isFn K (.ref f_Tree_many) = true)
    (l_Tree_many : K.lookup f_Tree_many = some ⟨oc_Tree_many, od_Tree_many, .func (PySem.W.fnOf "many" "Tree.many" (defArgs s_Tree_many) (defBody s_Tree_many) (defScope s_Tree_many) .none kV_Tree_many dc_Tree_many pm_Tree_many an_Tree_many cd_Tree_many ct_Tree_many), sl_Tree_many⟩)
    (c_Tree_many : PySem.W.codeIn K cd_Tree_many "Tree.many" = true) (k_Tree_many : PySem.W.keepIn K (.ref f_Tree_many) = true)
    (a_Tree_table : PySem.W.findIn K (.ref C_Tree) "table" = some (some (.ref f_Tree_table))) (i_Tree_table : PySem.W.isFn K (.ref f_Tree_table) = true)
    (l_Tree_table : K.lookup f_Tree_table = some ⟨oc_Tree_table, od_Tree_table, .func (PySem.W.fnOf "table" "Tree.table" (defArgs s_Tree_table) (defBody s_Tree_table) (defScope s_Tree_table) .none kV_Tree_table dc_Tree_table pm_Tree_table an_Tree_table cd_Tree_table ct_Tree_table), sl_Tree_table⟩)
    (c_Tree_table : PySem.W.codeIn K cd_Tree_table "Tree.table" = true) (k_Tree_table : PySem.W.keepIn K (.ref f_Tree_table) = true)
    (a_Tree_worths : PySem.W.findIn K (.ref C_Tree) "worths" = some (some (.ref f_Tree_worths))) (i_Tree_worths : PySem.W.isFn K (.ref f_Tree_worths) = true)
    (l_Tree_worths : K.lookup f_Tree_worths = some ⟨oc_Tree_worths, od_Tree_worths, .func (PySem.W.fnOf "worths" "Tree.worths" (defArgs s_Tree_worths) (defBody s_Tree_worths) (defScope s_Tree_worths) .none kV_Tree_worths dc_Tree_worths pm_Tree_worths an_Tree_worths cd_Tree_worths ct_Tree_worths), sl_Tree_worths⟩)
    (c_Tree_worths : PySem.W.codeIn K cd_Tree_worths "Tree.worths" = true) (k_Tree_worths : PySem.W.keepIn K (.ref f_Tree_worths) = true)
    (a_Tree_trail : PySem.W.findIn K (.ref C_Tree) "trail" = some (some (.ref f_Tree_trail))) (i_Tree_trail : PySem.W.isFn K (.ref f_Tree_trail) = true)
    (l_Tree_trail : K.lookup f_Tree_trail = some ⟨oc_Tree_trail, od_Tree_trail, .func (PySem.W.fnOf "trail" "Tree.trail" (defArgs s_Tree_trail) (defBody s_Tree_trail) (defScope s_Tree_trail) .none kV_Tree_trail dc_Tree_trail pm_Tree_trail an_Tree_trail cd_Tree_trail ct_Tree_trail), sl_Tree_trail⟩)
    (c_Tree_trail : PySem.W.codeIn K cd_Tree_trail "Tree.trail" = true) (k_Tree_trail : PySem.W.keepIn K (.ref f_Tree_trail) = true)
    (a_Tree_road : PySem.W.findIn K (.ref C_Tree) "road" = some (some (.ref f_Tree_road))) (i_Tree_road : PySem.W.isFn K (.ref f_Tree_road) = true)
    (l_Tree_road : K.lookup f_Tree_road = some ⟨oc_Tree_road, od_Tree_road, .func (PySem.W.fnOf "road" "Tree.road" (defArgs s_Tree_road) (defBody s_Tree_road) (defScope s_Tree_road) .none kV_Tree_road dc_Tree_road pm_Tree_road an_Tree_road cd_Tree_road ct_Tree_road), sl_Tree_road⟩)
    (c_Tree_road : PySem.W.codeIn K cd_Tree_road "Tree.road" = true) (k_Tree_road : PySem.W.keepIn K (.ref f_Tree_road) = true)
    (a_Tree_go : PySem.W.findIn K (.ref C_Tree) "go" = some (some (.ref f_Tree_go))) (i_Tree_go : PySem.W.isFn K (.ref f_Tree_go) = true)
    (l_Tree_go : K.lookup f_Tree_go = some ⟨oc_Tree_go, od_Tree_go, .func (PySem.W.fnOf "go" "Tree.go" (defArgs s_Tree_go) (defBody s_Tree_go) (defScope s_Tree_go) .none kV_Tree_go dc_Tree_go pm_Tree_go an_Tree_go cd_Tree_go ct_Tree_go), sl_Tree_go⟩)
    (c_Tree_go : PySem.W.codeIn K cd_Tree_go "Tree.go" = true) (k_Tree_go : PySem.W.keepIn K (.ref f_Tree_go) = true)
    (a_Tree_check_hand : PySem.W.findIn K (.ref C_Tree) "check_hand" = some (some (.ref f_Tree_check_hand))) (i_Tree_check_hand : PySem.W.isFn K (.ref f_Tree_check_hand) = true)
    (l_Tree_check_hand : K.lookup f_Tree_check_hand = some ⟨oc_Tree_check_hand, od_Tree_check_hand, .func (PySem.W.fnOf "check_hand" "Tree.check_hand" (defArgs s_Tree_check_hand) (defBody s_Tree_check_hand) (defScope s_Tree_check_hand) .none kV_Tree_check_hand dc_Tree_check_hand pm_Tree_check_hand an_Tree_check_hand cd_Tree_check_hand ct_Tree_check_hand), sl_Tree_check_hand⟩)
    (c_Tree_check_hand : PySem.W.codeIn K cd_Tree_check_hand "Tree.check_hand" = true) (k_Tree_check_hand : PySem.W.keepIn K (.ref f_Tree_check_hand) = true)
    (a_Tree_check_point : PySem.W.findIn K (.ref C_Tree) "check_point" = some (some (.ref f_Tree_check_point))) (i_Tree_check_point : PySem.W.isFn K (.ref f_Tree_check_point) = true)
    (l_Tree_check_point : K.lookup f_Tree_check_point = some ⟨oc_Tree_check_point, od_Tree_check_point, .func (PySem.W.fnOf "check_point" "Tree.check_point" (defArgs s_Tree_check_point) (defBody s_Tree_check_point) (defScope s_Tree_check_point) .none kV_Tree_check_point dc_Tree_check_point pm_Tree_check_point an_Tree_check_point cd_Tree_check_point ct_Tree_check_point), sl_Tree_check_point⟩)
    (c_Tree_check_point : PySem.W.codeIn K cd_Tree_check_point "Tree.check_point" = true) (k_Tree_check_point : PySem.W.keepIn K (.ref f_Tree_check_point) = true)
    (a_leans : PySem.W.nsIn K mainGlobals "leans" = some (some (.ref f_leans)))
    (l_leans : K.lookup f_leans = some ⟨oc_leans, od_leans, .func (PySem.W.fnOf "leans" "leans" (defArgs s_leans) (defBody s_leans) (defScope s_leans) .none kV_leans dc_leans pm_leans an_leans cd_leans ct_leans), sl_leans⟩)
    (c_leans : PySem.W.codeIn K cd_leans "leans" = true) (k_leans : PySem.W.keepIn K (.ref f_leans) = true)
    (a_reads : PySem.W.nsIn K mainGlobals "reads" = some (some (.ref f_reads)))
    (l_reads : K.lookup f_reads = some ⟨oc_reads, od_reads, .func (PySem.W.fnOf "reads" "reads" (defArgs s_reads) (defBody s_reads) (defScope s_reads) .none kV_reads dc_reads pm_reads an_reads cd_reads ct_reads), sl_reads⟩)
    (c_reads : PySem.W.codeIn K cd_reads "reads" = true) (k_reads : PySem.W.keepIn K (.ref f_reads) = true)
    (a_without : PySem.W.nsIn K mainGlobals "without" = some (some (.ref f_without)))
    (l_without : K.lookup f_without = some ⟨oc_without, od_without, .func (PySem.W.fnOf "without" "without" (defArgs s_without) (defBody s_without) (defScope s_without) .none kV_without dc_without pm_without an_without cd_without ct_without), sl_without⟩)
    (c_without : PySem.W.codeIn K cd_without "without" = true) (k_without : PySem.W.keepIn K (.ref f_without) = true)
    (a_joined : PySem.W.nsIn K mainGlobals "joined" = some (some (.ref f_joined)))
    (l_joined : K.lookup f_joined = some ⟨oc_joined, od_joined, .func (PySem.W.fnOf "joined" "joined" (defArgs s_joined) (defBody s_joined) (defScope s_joined) .none kV_joined dc_joined pm_joined an_joined cd_joined ct_joined), sl_joined⟩)
    (c_joined : PySem.W.codeIn K cd_joined "joined" = true) (k_joined : PySem.W.keepIn K (.ref f_joined) = true)
    (a_l_begun : PySem.W.nsIn K mainGlobals "_law_begun" = some (some (.ref f_l_begun)))
    (l_l_begun : K.lookup f_l_begun = some ⟨oc_l_begun, od_l_begun, .func (PySem.W.fnOf "_law_begun" "_law_begun" (defArgs s_l_begun) (defBody s_l_begun) (defScope s_l_begun) .none kV_l_begun dc_l_begun pm_l_begun an_l_begun cd_l_begun ct_l_begun), sl_l_begun⟩)
    (c_l_begun : PySem.W.codeIn K cd_l_begun "_law_begun" = true) (k_l_begun : PySem.W.keepIn K (.ref f_l_begun) = true)
    (a_l_take : PySem.W.nsIn K mainGlobals "_law_take" = some (some (.ref f_l_take)))
    (l_l_take : K.lookup f_l_take = some ⟨oc_l_take, od_l_take, .func (PySem.W.fnOf "_law_take" "_law_take" (defArgs s_l_take) (defBody s_l_take) (defScope s_l_take) .none kV_l_take dc_l_take pm_l_take an_l_take cd_l_take ct_l_take), sl_l_take⟩)
    (c_l_take : PySem.W.codeIn K cd_l_take "_law_take" = true) (k_l_take : PySem.W.keepIn K (.ref f_l_take) = true)
    (a_l_cell : PySem.W.nsIn K mainGlobals "_law_cell" = some (some (.ref f_l_cell)))
    (l_l_cell : K.lookup f_l_cell = some ⟨oc_l_cell, od_l_cell, .func (PySem.W.fnOf "_law_cell" "_law_cell" (defArgs s_l_cell) (defBody s_l_cell) (defScope s_l_cell) .none kV_l_cell dc_l_cell pm_l_cell an_l_cell cd_l_cell ct_l_cell), sl_l_cell⟩)
    (c_l_cell : PySem.W.codeIn K cd_l_cell "_law_cell" = true) (k_l_cell : PySem.W.keepIn K (.ref f_l_cell) = true)
    (a_l_down : PySem.W.nsIn K mainGlobals "_law_down" = some (some (.ref f_l_down)))
    (l_l_down : K.lookup f_l_down = some ⟨oc_l_down, od_l_down, .func (PySem.W.fnOf "_law_down" "_law_down" (defArgs s_l_down) (defBody s_l_down) (defScope s_l_down) .none kV_l_down dc_l_down pm_l_down an_l_down cd_l_down ct_l_down), sl_l_down⟩)
    (c_l_down : PySem.W.codeIn K cd_l_down "_law_down" = true) (k_l_down : PySem.W.keepIn K (.ref f_l_down) = true)
    (a_l_part : PySem.W.nsIn K mainGlobals "_law_part" = some (some (.ref f_l_part)))
    (l_l_part : K.lookup f_l_part = some ⟨oc_l_part, od_l_part, .func (PySem.W.fnOf "_law_part" "_law_part" (defArgs s_l_part) (defBody s_l_part) (defScope s_l_part) .none kV_l_part dc_l_part pm_l_part an_l_part cd_l_part ct_l_part), sl_l_part⟩)
    (c_l_part : PySem.W.codeIn K cd_l_part "_law_part" = true) (k_l_part : PySem.W.keepIn K (.ref f_l_part) = true)
    (a_l_content : PySem.W.nsIn K mainGlobals "_law_content" = some (some (.ref f_l_content)))
    (l_l_content : K.lookup f_l_content = some ⟨oc_l_content, od_l_content, .func (PySem.W.fnOf "_law_content" "_law_content" (defArgs s_l_content) (defBody s_l_content) (defScope s_l_content) .none kV_l_content dc_l_content pm_l_content an_l_content cd_l_content ct_l_content), sl_l_content⟩)
    (c_l_content : PySem.W.codeIn K cd_l_content "_law_content" = true) (k_l_content : PySem.W.keepIn K (.ref f_l_content) = true)
    (a_l_part_text : PySem.W.nsIn K mainGlobals "_law_part_text" = some (some (.ref f_l_part_text)))
    (l_l_part_text : K.lookup f_l_part_text = some ⟨oc_l_part_text, od_l_part_text, .func (PySem.W.fnOf "_law_part_text" "_law_part_text" (defArgs s_l_part_text) (defBody s_l_part_text) (defScope s_l_part_text) .none kV_l_part_text dc_l_part_text pm_l_part_text an_l_part_text cd_l_part_text ct_l_part_text), sl_l_part_text⟩)
    (c_l_part_text : PySem.W.codeIn K cd_l_part_text "_law_part_text" = true) (k_l_part_text : PySem.W.keepIn K (.ref f_l_part_text) = true)
    (a_l_text : PySem.W.nsIn K mainGlobals "_law_text" = some (some (.ref f_l_text)))
    (l_l_text : K.lookup f_l_text = some ⟨oc_l_text, od_l_text, .func (PySem.W.fnOf "_law_text" "_law_text" (defArgs s_l_text) (defBody s_l_text) (defScope s_l_text) .none kV_l_text dc_l_text pm_l_text an_l_text cd_l_text ct_l_text), sl_l_text⟩)
    (c_l_text : PySem.W.codeIn K cd_l_text "_law_text" = true) (k_l_text : PySem.W.keepIn K (.ref f_l_text) = true)
    (a_l_deed : PySem.W.nsIn K mainGlobals "_law_deed" = some (some (.ref f_l_deed)))
    (l_l_deed : K.lookup f_l_deed = some ⟨oc_l_deed, od_l_deed, .func (PySem.W.fnOf "_law_deed" "_law_deed" (defArgs s_l_deed) (defBody s_l_deed) (defScope s_l_deed) .none kV_l_deed dc_l_deed pm_l_deed an_l_deed cd_l_deed ct_l_deed), sl_l_deed⟩)
    (c_l_deed : PySem.W.codeIn K cd_l_deed "_law_deed" = true) (k_l_deed : PySem.W.keepIn K (.ref f_l_deed) = true)
    (a_l_uses : PySem.W.nsIn K mainGlobals "_law_uses" = some (some (.ref f_l_uses)))
    (l_l_uses : K.lookup f_l_uses = some ⟨oc_l_uses, od_l_uses, .func (PySem.W.fnOf "_law_uses" "_law_uses" (defArgs s_l_uses) (defBody s_l_uses) (defScope s_l_uses) .none kV_l_uses dc_l_uses pm_l_uses an_l_uses cd_l_uses ct_l_uses), sl_l_uses⟩)
    (c_l_uses : PySem.W.codeIn K cd_l_uses "_law_uses" = true) (k_l_uses : PySem.W.keepIn K (.ref f_l_uses) = true)
    (a_l_moved : PySem.W.nsIn K mainGlobals "_law_moved" = some (some (.ref f_l_moved)))
    (l_l_moved : K.lookup f_l_moved = some ⟨oc_l_moved, od_l_moved, .func (PySem.W.fnOf "_law_moved" "_law_moved" (defArgs s_l_moved) (defBody s_l_moved) (defScope s_l_moved) .none kV_l_moved dc_l_moved pm_l_moved an_l_moved cd_l_moved ct_l_moved), sl_l_moved⟩)
    (c_l_moved : PySem.W.codeIn K cd_l_moved "_law_moved" = true) (k_l_moved : PySem.W.keepIn K (.ref f_l_moved) = true)
    (a_l_changes : PySem.W.nsIn K mainGlobals "_law_changes" = some (some (.ref f_l_changes)))
    (l_l_changes : K.lookup f_l_changes = some ⟨oc_l_changes, od_l_changes, .func (PySem.W.fnOf "_law_changes" "_law_changes" (defArgs s_l_changes) (defBody s_l_changes) (defScope s_l_changes) .none kV_l_changes dc_l_changes pm_l_changes an_l_changes cd_l_changes ct_l_changes), sl_l_changes⟩)
    (c_l_changes : PySem.W.codeIn K cd_l_changes "_law_changes" = true) (k_l_changes : PySem.W.keepIn K (.ref f_l_changes) = true)
    (a_l_with : PySem.W.nsIn K mainGlobals "_law_with" = some (some (.ref f_l_with)))
    (l_l_with : K.lookup f_l_with = some ⟨oc_l_with, od_l_with, .func (PySem.W.fnOf "_law_with" "_law_with" (defArgs s_l_with) (defBody s_l_with) (defScope s_l_with) .none kV_l_with dc_l_with pm_l_with an_l_with cd_l_with ct_l_with), sl_l_with⟩)
    (c_l_with : PySem.W.codeIn K cd_l_with "_law_with" = true) (k_l_with : PySem.W.keepIn K (.ref f_l_with) = true)
    (a_l_grown : PySem.W.nsIn K mainGlobals "_law_grown" = some (some (.ref f_l_grown)))
    (l_l_grown : K.lookup f_l_grown = some ⟨oc_l_grown, od_l_grown, .func (PySem.W.fnOf "_law_grown" "_law_grown" (defArgs s_l_grown) (defBody s_l_grown) (defScope s_l_grown) .none kV_l_grown dc_l_grown pm_l_grown an_l_grown cd_l_grown ct_l_grown), sl_l_grown⟩)
    (c_l_grown : PySem.W.codeIn K cd_l_grown "_law_grown" = true) (k_l_grown : PySem.W.keepIn K (.ref f_l_grown) = true)
    (a_l_refusal : PySem.W.nsIn K mainGlobals "_law_refusal" = some (some (.ref f_l_refusal)))
    (l_l_refusal : K.lookup f_l_refusal = some ⟨oc_l_refusal, od_l_refusal, .func (PySem.W.fnOf "_law_refusal" "_law_refusal" (defArgs s_l_refusal) (defBody s_l_refusal) (defScope s_l_refusal) .none kV_l_refusal dc_l_refusal pm_l_refusal an_l_refusal cd_l_refusal ct_l_refusal), sl_l_refusal⟩)
    (c_l_refusal : PySem.W.codeIn K cd_l_refusal "_law_refusal" = true) (k_l_refusal : PySem.W.keepIn K (.ref f_l_refusal) = true)
    (a_l_at_points : PySem.W.nsIn K mainGlobals "_law_at_points" = some (some (.ref f_l_at_points)))
    (l_l_at_points : K.lookup f_l_at_points = some ⟨oc_l_at_points, od_l_at_points, .func (PySem.W.fnOf "_law_at_points" "_law_at_points" (defArgs s_l_at_points) (defBody s_l_at_points) (defScope s_l_at_points) .none kV_l_at_points dc_l_at_points pm_l_at_points an_l_at_points cd_l_at_points ct_l_at_points), sl_l_at_points⟩)
    (c_l_at_points : PySem.W.codeIn K cd_l_at_points "_law_at_points" = true) (k_l_at_points : PySem.W.keepIn K (.ref f_l_at_points) = true)
    (a_l_at_hands : PySem.W.nsIn K mainGlobals "_law_at_hands" = some (some (.ref f_l_at_hands)))
    (l_l_at_hands : K.lookup f_l_at_hands = some ⟨oc_l_at_hands, od_l_at_hands, .func (PySem.W.fnOf "_law_at_hands" "_law_at_hands" (defArgs s_l_at_hands) (defBody s_l_at_hands) (defScope s_l_at_hands) .none kV_l_at_hands dc_l_at_hands pm_l_at_hands an_l_at_hands cd_l_at_hands ct_l_at_hands), sl_l_at_hands⟩)
    (c_l_at_hands : PySem.W.codeIn K cd_l_at_hands "_law_at_hands" = true) (k_l_at_hands : PySem.W.keepIn K (.ref f_l_at_hands) = true)
    (a_l_at_first : PySem.W.nsIn K mainGlobals "_law_at_first" = some (some (.ref f_l_at_first)))
    (l_l_at_first : K.lookup f_l_at_first = some ⟨oc_l_at_first, od_l_at_first, .func (PySem.W.fnOf "_law_at_first" "_law_at_first" (defArgs s_l_at_first) (defBody s_l_at_first) (defScope s_l_at_first) .none kV_l_at_first dc_l_at_first pm_l_at_first an_l_at_first cd_l_at_first ct_l_at_first), sl_l_at_first⟩)
    (c_l_at_first : PySem.W.codeIn K cd_l_at_first "_law_at_first" = true) (k_l_at_first : PySem.W.keepIn K (.ref f_l_at_first) = true)
    (a_l_bad_deed : PySem.W.nsIn K mainGlobals "_law_bad_deed" = some (some (.ref f_l_bad_deed)))
    (l_l_bad_deed : K.lookup f_l_bad_deed = some ⟨oc_l_bad_deed, od_l_bad_deed, .func (PySem.W.fnOf "_law_bad_deed" "_law_bad_deed" (defArgs s_l_bad_deed) (defBody s_l_bad_deed) (defScope s_l_bad_deed) .none kV_l_bad_deed dc_l_bad_deed pm_l_bad_deed an_l_bad_deed cd_l_bad_deed ct_l_bad_deed), sl_l_bad_deed⟩)
    (c_l_bad_deed : PySem.W.codeIn K cd_l_bad_deed "_law_bad_deed" = true) (k_l_bad_deed : PySem.W.keepIn K (.ref f_l_bad_deed) = true)
    (a_law : PySem.W.nsIn K mainGlobals "law" = some (some (.ref f_law)))
    (l_law : K.lookup f_law = some ⟨oc_law, od_law, .func (PySem.W.fnOf "law" "law" (defArgs s_law) (defBody s_law) (defScope s_law) .none kV_law dc_law pm_law an_law (.ref C_law) ct_law), sl_law⟩)
    (c_law : PySem.W.codeIn K (.ref C_law) "law" = true) (k_law : PySem.W.keepIn K (.ref f_law) = true)
    (a_COLUMNS : PySem.W.nsIn K mainGlobals "COLUMNS" = some (some (.str "abcdef" t_COLUMNS)))
    (a_ROWS : PySem.W.nsIn K mainGlobals "ROWS" = some (some (.str "123456789" t_ROWS)))
    (a_DEEPEST : PySem.W.nsIn K mainGlobals "DEEPEST" = some (some (.int 5 t_DEEPEST)))
    (a_FIGURES : PySem.W.nsIn K mainGlobals "FIGURES" = some (some (.int 6 t_FIGURES)))
    (a_MOST_HANDS : PySem.W.nsIn K mainGlobals "MOST_HANDS" = some (some (.int 4 t_MOST_HANDS)))
    (a_NoCell : PySem.W.nsIn K mainGlobals "NoCell" = some (some (.ref X_NoCell))) (k_NoCell : PySem.W.keepIn K (.ref X_NoCell) = true) (x_NoCell : PySem.W.excIn K X_NoCell [.type "ValueError", .type "Exception", .type "BaseException", .type "object"] "ValueError.__new__" = true)
    (b_NoCell : PySem.W.subIn K (.ref X_NoCell) (.type "BaseException") = some true) (t_NoCell : PySem.W.typeIn K (.ref X_NoCell) = some (.type "type"))
    (a_BadFormula : PySem.W.nsIn K mainGlobals "BadFormula" = some (some (.ref X_BadFormula))) (k_BadFormula : PySem.W.keepIn K (.ref X_BadFormula) = true) (x_BadFormula : PySem.W.excIn K X_BadFormula [.type "ValueError", .type "Exception", .type "BaseException", .type "object"] "ValueError.__new__" = true)
    (b_BadFormula : PySem.W.subIn K (.ref X_BadFormula) (.type "BaseException") = some true) (t_BadFormula : PySem.W.typeIn K (.ref X_BadFormula) = some (.type "type"))
    (a_OffTable : PySem.W.nsIn K mainGlobals "OffTable" = some (some (.ref X_OffTable))) (k_OffTable : PySem.W.keepIn K (.ref X_OffTable) = true) (x_OffTable : PySem.W.excIn K X_OffTable [.type "ValueError", .type "Exception", .type "BaseException", .type "object"] "ValueError.__new__" = true)
    (b_OffTable : PySem.W.subIn K (.ref X_OffTable) (.type "BaseException") = some true) (t_OffTable : PySem.W.typeIn K (.ref X_OffTable) = some (.type "type"))
    (a_NoHand : PySem.W.nsIn K mainGlobals "NoHand" = some (some (.ref X_NoHand))) (k_NoHand : PySem.W.keepIn K (.ref X_NoHand) = true) (x_NoHand : PySem.W.excIn K X_NoHand [.type "ValueError", .type "Exception", .type "BaseException", .type "object"] "ValueError.__new__" = true)
    (b_NoHand : PySem.W.subIn K (.ref X_NoHand) (.type "BaseException") = some true) (t_NoHand : PySem.W.typeIn K (.ref X_NoHand) = some (.type "type"))
    (a_NoPoint : PySem.W.nsIn K mainGlobals "NoPoint" = some (some (.ref X_NoPoint))) (k_NoPoint : PySem.W.keepIn K (.ref X_NoPoint) = true) (x_NoPoint : PySem.W.excIn K X_NoPoint [.type "ValueError", .type "Exception", .type "BaseException", .type "object"] "ValueError.__new__" = true)
    (b_NoPoint : PySem.W.subIn K (.ref X_NoPoint) (.type "BaseException") = some true) (t_NoPoint : PySem.W.typeIn K (.ref X_NoPoint) = some (.type "type"))
    (a_TableError : PySem.W.nsIn K mainGlobals "TableError" = some (some (.ref X_TableError))) (k_TableError : PySem.W.keepIn K (.ref X_TableError) = true) (x_TableError : PySem.W.excIn K X_TableError [.type "ValueError", .type "Exception", .type "BaseException", .type "object"] "ValueError.__new__" = true)
    (b_TableError : PySem.W.subIn K (.ref X_TableError) (.type "BaseException") = some true) (t_TableError : PySem.W.typeIn K (.ref X_TableError) = some (.type "type"))
    (a_BadNote : PySem.W.nsIn K mainGlobals "BadNote" = some (some (.ref X_BadNote))) (t_BadNote : PySem.W.typeIn K (.ref X_BadNote) = some (.type "type")) (hs_BadNote : PySem.W.isClsIn K X_BadNote = true)
    (hd_NoCell : PySem.W.hasDictIn K X_NoCell = true) (hs_NoCell : PySem.W.isClsIn K X_NoCell = true) (hr_NoCell : PySem.W.subIn K (.ref X_NoCell) (.ref X_NoCell) = some true)
    (hd_BadFormula : PySem.W.hasDictIn K X_BadFormula = true) (hs_BadFormula : PySem.W.isClsIn K X_BadFormula = true) (hr_BadFormula : PySem.W.subIn K (.ref X_BadFormula) (.ref X_BadFormula) = some true)
    (hd_OffTable : PySem.W.hasDictIn K X_OffTable = true) (hs_OffTable : PySem.W.isClsIn K X_OffTable = true) (hr_OffTable : PySem.W.subIn K (.ref X_OffTable) (.ref X_OffTable) = some true)
    (hd_NoHand : PySem.W.hasDictIn K X_NoHand = true) (hs_NoHand : PySem.W.isClsIn K X_NoHand = true) (hr_NoHand : PySem.W.subIn K (.ref X_NoHand) (.ref X_NoHand) = some true)
    (hd_NoPoint : PySem.W.hasDictIn K X_NoPoint = true) (hs_NoPoint : PySem.W.isClsIn K X_NoPoint = true) (hr_NoPoint : PySem.W.subIn K (.ref X_NoPoint) (.ref X_NoPoint) = some true)
    (hd_TableError : PySem.W.hasDictIn K X_TableError = true) (hs_TableError : PySem.W.isClsIn K X_TableError = true) (hr_TableError : PySem.W.subIn K (.ref X_TableError) (.ref X_TableError) = some true)
    (ca_NoHand : PySem.W.findIn K (.ref X_NoHand) "__getattribute__" = some (some (.builtin "BaseException.__getattribute__"))) (cb_NoHand : PySem.W.findIn K (.ref X_NoHand) "__getattr__" = some none)
    (cc_NoHand : PySem.W.findIn K (.ref X_NoHand) "__class__" = some (some (.builtin "object.__class__"))) (ce_NoHand : PySem.W.specialIn K (.builtin "object.__class__") "__get__" = some (some (.builtin "getset_descriptor.__get__")))
    (cf_NoHand : PySem.W.takesIn K (.builtin "object.__class__") = some true) (cg_NoHand : PySem.W.mroIn K X_NoHand (.type "object") = some true) (cv_NoHand : PySem.W.subIn K (.ref X_NoHand) (.type "ValueError") = some true)
    (ca_NoPoint : PySem.W.findIn K (.ref X_NoPoint) "__getattribute__" = some (some (.builtin "BaseException.__getattribute__"))) (cb_NoPoint : PySem.W.findIn K (.ref X_NoPoint) "__getattr__" = some none)
    (cc_NoPoint : PySem.W.findIn K (.ref X_NoPoint) "__class__" = some (some (.builtin "object.__class__"))) (ce_NoPoint : PySem.W.specialIn K (.builtin "object.__class__") "__get__" = some (some (.builtin "getset_descriptor.__get__")))
    (cf_NoPoint : PySem.W.takesIn K (.builtin "object.__class__") = some true) (cg_NoPoint : PySem.W.mroIn K X_NoPoint (.type "object") = some true) (cv_NoPoint : PySem.W.subIn K (.ref X_NoPoint) (.type "ValueError") = some true)
    (ca_NoCell : PySem.W.findIn K (.ref X_NoCell) "__getattribute__" = some (some (.builtin "BaseException.__getattribute__"))) (cb_NoCell : PySem.W.findIn K (.ref X_NoCell) "__getattr__" = some none)
    (cc_NoCell : PySem.W.findIn K (.ref X_NoCell) "__class__" = some (some (.builtin "object.__class__"))) (ce_NoCell : PySem.W.specialIn K (.builtin "object.__class__") "__get__" = some (some (.builtin "getset_descriptor.__get__")))
    (cf_NoCell : PySem.W.takesIn K (.builtin "object.__class__") = some true) (cg_NoCell : PySem.W.mroIn K X_NoCell (.type "object") = some true) (cv_NoCell : PySem.W.subIn K (.ref X_NoCell) (.type "ValueError") = some true)
    (ca_BadFormula : PySem.W.findIn K (.ref X_BadFormula) "__getattribute__" = some (some (.builtin "BaseException.__getattribute__"))) (cb_BadFormula : PySem.W.findIn K (.ref X_BadFormula) "__getattr__" = some none)
    (cc_BadFormula : PySem.W.findIn K (.ref X_BadFormula) "__class__" = some (some (.builtin "object.__class__"))) (ce_BadFormula : PySem.W.specialIn K (.builtin "object.__class__") "__get__" = some (some (.builtin "getset_descriptor.__get__")))
    (cf_BadFormula : PySem.W.takesIn K (.builtin "object.__class__") = some true) (cg_BadFormula : PySem.W.mroIn K X_BadFormula (.type "object") = some true) (cv_BadFormula : PySem.W.subIn K (.ref X_BadFormula) (.type "ValueError") = some true)
    (ca_OffTable : PySem.W.findIn K (.ref X_OffTable) "__getattribute__" = some (some (.builtin "BaseException.__getattribute__"))) (cb_OffTable : PySem.W.findIn K (.ref X_OffTable) "__getattr__" = some none)
    (cc_OffTable : PySem.W.findIn K (.ref X_OffTable) "__class__" = some (some (.builtin "object.__class__"))) (ce_OffTable : PySem.W.specialIn K (.builtin "object.__class__") "__get__" = some (some (.builtin "getset_descriptor.__get__")))
    (cf_OffTable : PySem.W.takesIn K (.builtin "object.__class__") = some true) (cg_OffTable : PySem.W.mroIn K X_OffTable (.type "object") = some true) (cv_OffTable : PySem.W.subIn K (.ref X_OffTable) (.type "ValueError") = some true)
    (u_NoHand_TableError : PySem.W.subIn K (.ref X_NoHand) (.ref X_TableError) = some true)
    (u_NoHand_BadNote : PySem.W.subIn K (.ref X_NoHand) (.ref X_BadNote) = some false)
    (u_NoHand_NoPoint : PySem.W.subIn K (.ref X_NoHand) (.ref X_NoPoint) = some false)
    (u_NoHand_NoCell : PySem.W.subIn K (.ref X_NoHand) (.ref X_NoCell) = some false)
    (u_NoHand_BadFormula : PySem.W.subIn K (.ref X_NoHand) (.ref X_BadFormula) = some false)
    (u_NoHand_OffTable : PySem.W.subIn K (.ref X_NoHand) (.ref X_OffTable) = some false)
    (u_NoPoint_TableError : PySem.W.subIn K (.ref X_NoPoint) (.ref X_TableError) = some true)
    (u_NoPoint_BadNote : PySem.W.subIn K (.ref X_NoPoint) (.ref X_BadNote) = some false)
    (u_NoPoint_NoHand : PySem.W.subIn K (.ref X_NoPoint) (.ref X_NoHand) = some false)
    (u_NoPoint_NoCell : PySem.W.subIn K (.ref X_NoPoint) (.ref X_NoCell) = some false)
    (u_NoPoint_BadFormula : PySem.W.subIn K (.ref X_NoPoint) (.ref X_BadFormula) = some false)
    (u_NoPoint_OffTable : PySem.W.subIn K (.ref X_NoPoint) (.ref X_OffTable) = some false)
    (u_NoCell_TableError : PySem.W.subIn K (.ref X_NoCell) (.ref X_TableError) = some true)
    (u_NoCell_BadNote : PySem.W.subIn K (.ref X_NoCell) (.ref X_BadNote) = some false)
    (u_NoCell_NoHand : PySem.W.subIn K (.ref X_NoCell) (.ref X_NoHand) = some false)
    (u_NoCell_NoPoint : PySem.W.subIn K (.ref X_NoCell) (.ref X_NoPoint) = some false)
    (u_NoCell_BadFormula : PySem.W.subIn K (.ref X_NoCell) (.ref X_BadFormula) = some false)
    (u_NoCell_OffTable : PySem.W.subIn K (.ref X_NoCell) (.ref X_OffTable) = some false)
    (u_BadFormula_TableError : PySem.W.subIn K (.ref X_BadFormula) (.ref X_TableError) = some true)
    (u_BadFormula_BadNote : PySem.W.subIn K (.ref X_BadFormula) (.ref X_BadNote) = some false)
    (u_BadFormula_NoHand : PySem.W.subIn K (.ref X_BadFormula) (.ref X_NoHand) = some false)
    (u_BadFormula_NoPoint : PySem.W.subIn K (.ref X_BadFormula) (.ref X_NoPoint) = some false)
    (u_BadFormula_NoCell : PySem.W.subIn K (.ref X_BadFormula) (.ref X_NoCell) = some false)
    (u_BadFormula_OffTable : PySem.W.subIn K (.ref X_BadFormula) (.ref X_OffTable) = some false)
    (u_OffTable_TableError : PySem.W.subIn K (.ref X_OffTable) (.ref X_TableError) = some true)
    (u_OffTable_BadNote : PySem.W.subIn K (.ref X_OffTable) (.ref X_BadNote) = some false)
    (u_OffTable_NoHand : PySem.W.subIn K (.ref X_OffTable) (.ref X_NoHand) = some false)
    (u_OffTable_NoPoint : PySem.W.subIn K (.ref X_OffTable) (.ref X_NoPoint) = some false)
    (u_OffTable_NoCell : PySem.W.subIn K (.ref X_OffTable) (.ref X_NoCell) = some false)
    (u_OffTable_BadFormula : PySem.W.subIn K (.ref X_OffTable) (.ref X_BadFormula) = some false)
    (a_PARTS : PySem.W.nsIn K mainGlobals "PARTS" = some (some (.ref d_PARTS))) (l_PARTS : K.lookup d_PARTS = some ⟨.type "dict", none, .dict es_PARTS n_PARTS, #[]⟩) (y_PARTS : PySem.W.KeysLit w.params es_PARTS.toList) (w_PARTS : (d_PARTS == sysModules) = false)
    (q_PARTS : dictKeys es_PARTS = ([("add" : Str), ("sub" : Str), ("mul" : Str), ("pick" : Str)] : List Str))
    (v_PARTS_0 : PySem.W.nsIn K d_PARTS "add" = some (some (.int 2 t_PARTS_0)))
    (v_PARTS_1 : PySem.W.nsIn K d_PARTS "sub" = some (some (.int 2 t_PARTS_1)))
    (v_PARTS_2 : PySem.W.nsIn K d_PARTS "mul" = some (some (.int 2 t_PARTS_2)))
    (v_PARTS_3 : PySem.W.nsIn K d_PARTS "pick" = some (some (.int 4 t_PARTS_3)))
    (z_len : PySem.W.nsIn K mainGlobals "len" = some none)
    (z_range : PySem.W.nsIn K mainGlobals "range" = some none)
    (z_int : PySem.W.nsIn K mainGlobals "int" = some none)
    (z_str : PySem.W.nsIn K mainGlobals "str" = some none)
    (z_bool : PySem.W.nsIn K mainGlobals "bool" = some none)
    (z_list : PySem.W.nsIn K mainGlobals "list" = some none)
    (z_tuple : PySem.W.nsIn K mainGlobals "tuple" = some none)
    (z_dict : PySem.W.nsIn K mainGlobals "dict" = some none)
    (z_sorted : PySem.W.nsIn K mainGlobals "sorted" = some none)
    (z_isinstance : PySem.W.nsIn K mainGlobals "isinstance" = some none)
    (z_min : PySem.W.nsIn K mainGlobals "min" = some none)
    (z_max : PySem.W.nsIn K mainGlobals "max" = some none)
    (z_ValueError : PySem.W.nsIn K mainGlobals "ValueError" = some none)
    (z_abs : PySem.W.nsIn K mainGlobals "abs" = some none)
    (z_any : PySem.W.nsIn K mainGlobals "any" = some none)
    (z_reversed : PySem.W.nsIn K mainGlobals "reversed" = some none)
    (lc : K.lookup C_law = some ⟨.type "code", dd_c, .fields vs_c, sl_c⟩) (va : vs_c[11]? = some (.ref PT)) (vb : vs_c.getD 11 .none = .ref PT) (vc : vs_c.getD 18 .none = .str file_c tf_c) (vd : vs_c.getD 7 .none = .int flags_c tg_c) (ve : vs_c.getD 9 .none = .bool inF_c) (vf : vs_c.getD 10 .none = .int text_c tt_c)
    (vn : C_law ≠ PT) (nP : K.lookup PT = none) :
    LamX.LawAtS l w K CX0 70 63 "_law_script" mg fa h := by
  have e := hfa.symm.trans (PySem.W.mg_of X G a_law)
  cases e
  have cl_Tree : Cls K C_Tree := ⟨pg_Tree, hdi_Tree, po_Tree, sa_Tree⟩
  have mc_Tree := PySem.W.mg_of X G z_Tree
  have cl_Point : Cls K C_Point := ⟨pg_Point, hdi_Point, po_Point, sa_Point⟩
  have mc_Point := PySem.W.mg_of X G z_Point
  have F_is_cell := fun_mk (st := s_is_cell) l_is_cell c_is_cell k_is_cell
  have b_is_cell := F_is_cell.binds (ps := ["text"]) fun _ _ _ _ _ _ us hl => match us, hl with | [_], _ => rfl
  have m_is_cell := PySem.W.mg_of X G a_is_cell
  have F_place := fun_mk (st := s_place) l_place c_place k_place
  have b_place := F_place.binds (ps := ["cell"]) fun _ _ _ _ _ _ us hl => match us, hl with | [_], _ => rfl
  have m_place := PySem.W.mg_of X G a_place
  have F_shifted := fun_mk (st := s_shifted) l_shifted c_shifted k_shifted
  have b_shifted := F_shifted.binds (ps := ["cell", "rows"]) fun _ _ _ _ _ _ us hl => match us, hl with | [_, _], _ => rfl
  have m_shifted := PySem.W.mg_of X G a_shifted
  have F_is_number := fun_mk (st := s_is_number) l_is_number c_is_number k_is_number
  have b_is_number := F_is_number.binds (ps := ["text"]) fun _ _ _ _ _ _ us hl => match us, hl with | [_], _ => rfl
  have m_is_number := PySem.W.mg_of X G a_is_number
  have F_read := fun_mk (st := s_read) l_read c_read k_read
  have b_read := F_read.binds (ps := ["text"]) fun _ _ _ _ _ _ us hl => match us, hl with | [_], _ => rfl
  have m_read := PySem.W.mg_of X G a_read
  have F_part_at := fun_mk (st := s_part_at) l_part_at c_part_at k_part_at
  have b_part_at := F_part_at.binds (ps := ["words", "at", "depth"]) fun _ _ _ _ _ _ us hl => match us, hl with | [_, _, _], _ => rfl
  have m_part_at := PySem.W.mg_of X G a_part_at
  have F_sum_at := fun_mk (st := s_sum_at) l_sum_at c_sum_at k_sum_at
  have b_sum_at := F_sum_at.binds (ps := ["words", "at"]) fun _ _ _ _ _ _ us hl => match us, hl with | [_, _], _ => rfl
  have m_sum_at := PySem.W.mg_of X G a_sum_at
  have F_parts_at := fun_mk (st := s_parts_at) l_parts_at c_parts_at k_parts_at
  have b_parts_at := F_parts_at.binds (ps := ["words", "at", "depth"]) fun _ _ _ _ _ _ us hl => match us, hl with | [_, _, _], _ => rfl
  have m_parts_at := PySem.W.mg_of X G a_parts_at
  have F_lower_cell := fun_mk (st := s_lower_cell) l_lower_cell c_lower_cell k_lower_cell
  have b_lower_cell := F_lower_cell.binds (ps := ["cell", "rows"]) fun _ _ _ _ _ _ us hl => match us, hl with | [_, _], _ => rfl
  have m_lower_cell := PySem.W.mg_of X G a_lower_cell
  have F_lowered := fun_mk (st := s_lowered) l_lowered c_lowered k_lowered
  have b_lowered := F_lowered.binds (ps := ["content", "rows"]) fun _ _ _ _ _ _ us hl => match us, hl with | [_, _], _ => rfl
  have m_lowered := PySem.W.mg_of X G a_lowered
  have F_check := fun_mk (st := s_check) l_check c_check k_check
  have b_check := F_check.binds (ps := ["deed"]) fun _ _ _ _ _ _ us hl => match us, hl with | [_], _ => rfl
  have m_check := PySem.W.mg_of X G a_check
  have F_newer_contents := fun_mk (st := s_newer_contents) l_newer_contents c_newer_contents k_newer_contents
  have b_newer_contents := F_newer_contents.binds (ps := ["contents", "deed"]) fun _ _ _ _ _ _ us hl => match us, hl with | [_, _], _ => rfl
  have m_newer_contents := PySem.W.mg_of X G a_newer_contents
  have F_replaced := fun_mk (st := s_replaced) l_replaced c_replaced k_replaced
  have b_replaced := F_replaced.binds (ps := ["contents", "newer"]) fun _ _ _ _ _ _ us hl => match us, hl with | [_, _], _ => rfl
  have m_replaced := PySem.W.mg_of X G a_replaced
  have F_changes := fun_mk (st := s_changes) l_changes c_changes k_changes
  have b_changes := F_changes.binds (ps := ["contents", "deed"]) fun _ _ _ _ _ _ us hl => match us, hl with | [_, _], _ => rfl
  have m_changes := PySem.W.mg_of X G a_changes
  have F_reads_of := fun_mk (st := s_reads_of) l_reads_of c_reads_of k_reads_of
  have b_reads_of := F_reads_of.binds (ps := ["contents"]) fun _ _ _ _ _ _ us hl => match us, hl with | [_], _ => rfl
  have m_reads_of := PySem.W.mg_of X G a_reads_of
  have F_Point___init__ := fun_mk (st := s_Point___init__) l_Point___init__ c_Point___init__ k_Point___init__
  have b_Point___init__ := F_Point___init__.binds (ps := ["self", "origin", "hand", "deed", "rows", "contents"]) fun _ _ _ _ _ _ us hl => match us, hl with | [_, _, _, _, _, _], _ => rfl
  have F_Tree___init__ := fun_mk (st := s_Tree___init__) l_Tree___init__ c_Tree___init__ k_Tree___init__
  have b_Tree___init__ := F_Tree___init__.binds (ps := ["self", "hands"]) fun _ _ _ _ _ _ us hl => match us, hl with | [_, _], _ => rfl
  have F_Tree_do := fun_mk (st := s_Tree_do) l_Tree_do c_Tree_do k_Tree_do
  have b_Tree_do := F_Tree_do.binds (ps := ["self", "hand", "deed"]) fun _ _ _ _ _ _ us hl => match us, hl with | [_, _, _], _ => rfl
  have F_Tree_here := fun_mk (st := s_Tree_here) l_Tree_here c_Tree_here k_Tree_here
  have b_Tree_here := F_Tree_here.binds (ps := ["self", "hand"]) fun _ _ _ _ _ _ us hl => match us, hl with | [_, _], _ => rfl
  have F_Tree_told := fun_mk (st := s_Tree_told) l_Tree_told c_Tree_told k_Tree_told
  have b_Tree_told := F_Tree_told.binds (ps := ["self", "point"]) fun _ _ _ _ _ _ us hl => match us, hl with | [_, _], _ => rfl
  have F_Tree_many := fun_mk (st := s_Tree_many) l_Tree_many c_Tree_many k_Tree_many
  have b_Tree_many := F_Tree_many.binds (ps := ["self"]) fun _ _ _ _ _ _ us hl => match us, hl with | [_], _ => rfl
  have F_Tree_table := fun_mk (st := s_Tree_table) l_Tree_table c_Tree_table k_Tree_table
  have b_Tree_table := F_Tree_table.binds (ps := ["self", "point"]) fun _ _ _ _ _ _ us hl => match us, hl with | [_, _], _ => rfl
  have F_Tree_worths := fun_mk (st := s_Tree_worths) l_Tree_worths c_Tree_worths k_Tree_worths
  have b_Tree_worths := F_Tree_worths.binds (ps := ["self", "point"]) fun _ _ _ _ _ _ us hl => match us, hl with | [_, _], _ => rfl
  have F_Tree_trail := fun_mk (st := s_Tree_trail) l_Tree_trail c_Tree_trail k_Tree_trail
  have b_Tree_trail := F_Tree_trail.binds (ps := ["self", "point"]) fun _ _ _ _ _ _ us hl => match us, hl with | [_, _], _ => rfl
  have F_Tree_road := fun_mk (st := s_Tree_road) l_Tree_road c_Tree_road k_Tree_road
  have b_Tree_road := F_Tree_road.binds (ps := ["self", "one", "other"]) fun _ _ _ _ _ _ us hl => match us, hl with | [_, _, _], _ => rfl
  have F_Tree_go := fun_mk (st := s_Tree_go) l_Tree_go c_Tree_go k_Tree_go
  have b_Tree_go := F_Tree_go.binds (ps := ["self", "hand", "point"]) fun _ _ _ _ _ _ us hl => match us, hl with | [_, _, _], _ => rfl
  have F_Tree_check_hand := fun_mk (st := s_Tree_check_hand) l_Tree_check_hand c_Tree_check_hand k_Tree_check_hand
  have b_Tree_check_hand := F_Tree_check_hand.binds (ps := ["self", "hand"]) fun _ _ _ _ _ _ us hl => match us, hl with | [_, _], _ => rfl
  have F_Tree_check_point := fun_mk (st := s_Tree_check_point) l_Tree_check_point c_Tree_check_point k_Tree_check_point
  have b_Tree_check_point := F_Tree_check_point.binds (ps := ["self", "point"]) fun _ _ _ _ _ _ us hl => match us, hl with | [_, _], _ => rfl
  have F_leans := fun_mk (st := s_leans) l_leans c_leans k_leans
  have b_leans := F_leans.binds (ps := ["tree", "point"]) fun _ _ _ _ _ _ us hl => match us, hl with | [_, _], _ => rfl
  have m_leans := PySem.W.mg_of X G a_leans
  have F_reads := fun_mk (st := s_reads) l_reads c_reads k_reads
  have b_reads := F_reads.binds (ps := ["tree", "point"]) fun _ _ _ _ _ _ us hl => match us, hl with | [_, _], _ => rfl
  have m_reads := PySem.W.mg_of X G a_reads
  have F_without := fun_mk (st := s_without) l_without c_without k_without
  have b_without := F_without.binds (ps := ["tree", "hand", "gone", "point", "falls"]) fun _ _ _ _ _ _ us hl => match us, hl with | [_, _, _, _, _], _ => rfl
  have m_without := PySem.W.mg_of X G a_without
  have F_joined := fun_mk (st := s_joined) l_joined c_joined k_joined
  have b_joined := F_joined.binds (ps := ["tree", "hand", "one", "other"]) fun _ _ _ _ _ _ us hl => match us, hl with | [_, _, _, _], _ => rfl
  have m_joined := PySem.W.mg_of X G a_joined
  have F_l_begun := fun_mk (st := s_l_begun) l_l_begun c_l_begun k_l_begun
  have b_l_begun := F_l_begun.binds (ps := ["_law_script"]) fun _ _ _ _ _ _ us hl => match us, hl with | [_], _ => rfl
  have m_l_begun := PySem.W.mg_of X G a_l_begun
  have F_l_take := fun_mk (st := s_l_take) l_l_take c_l_take k_l_take
  have b_l_take := F_l_take.binds (ps := ["_law_box", "_law_many_here"]) fun _ _ _ _ _ _ us hl => match us, hl with | [_, _], _ => rfl
  have m_l_take := PySem.W.mg_of X G a_l_take
  have F_l_cell := fun_mk (st := s_l_cell) l_l_cell c_l_cell k_l_cell
  have b_l_cell := F_l_cell.binds (ps := ["_law_box"]) fun _ _ _ _ _ _ us hl => match us, hl with | [_], _ => rfl
  have m_l_cell := PySem.W.mg_of X G a_l_cell
  have F_l_down := fun_mk (st := s_l_down) l_l_down c_l_down k_l_down
  have b_l_down := F_l_down.binds (ps := ["_law_cell_here", "_law_rows"]) fun _ _ _ _ _ _ us hl => match us, hl with | [_, _], _ => rfl
  have m_l_down := PySem.W.mg_of X G a_l_down
  have F_l_part := fun_mk (st := s_l_part) l_l_part c_l_part k_l_part
  have b_l_part := F_l_part.binds (ps := ["_law_box", "_law_deep"]) fun _ _ _ _ _ _ us hl => match us, hl with | [_, _], _ => rfl
  have m_l_part := PySem.W.mg_of X G a_l_part
  have F_l_content := fun_mk (st := s_l_content) l_l_content c_l_content k_l_content
  have b_l_content := F_l_content.binds (ps := ["_law_box", "_law_deep"]) fun _ _ _ _ _ _ us hl => match us, hl with | [_, _], _ => rfl
  have m_l_content := PySem.W.mg_of X G a_l_content
  have F_l_part_text := fun_mk (st := s_l_part_text) l_l_part_text c_l_part_text k_l_part_text
  have b_l_part_text := F_l_part_text.binds (ps := ["_law_part_here"]) fun _ _ _ _ _ _ us hl => match us, hl with | [_], _ => rfl
  have m_l_part_text := PySem.W.mg_of X G a_l_part_text
  have F_l_text := fun_mk (st := s_l_text) l_l_text c_l_text k_l_text
  have b_l_text := F_l_text.binds (ps := ["_law_content_here"]) fun _ _ _ _ _ _ us hl => match us, hl with | [_], _ => rfl
  have m_l_text := PySem.W.mg_of X G a_l_text
  have F_l_deed := fun_mk (st := s_l_deed) l_l_deed c_l_deed k_l_deed
  have b_l_deed := F_l_deed.binds (ps := ["_law_box"]) fun _ _ _ _ _ _ us hl => match us, hl with | [_], _ => rfl
  have m_l_deed := PySem.W.mg_of X G a_l_deed
  have F_l_uses := fun_mk (st := s_l_uses) l_l_uses c_l_uses k_l_uses
  have b_l_uses := F_l_uses.binds (ps := ["_law_deed_here"]) fun _ _ _ _ _ _ us hl => match us, hl with | [_], _ => rfl
  have m_l_uses := PySem.W.mg_of X G a_l_uses
  have F_l_moved := fun_mk (st := s_l_moved) l_l_moved c_l_moved k_l_moved
  have b_l_moved := F_l_moved.binds (ps := ["_law_content_here", "_law_rows"]) fun _ _ _ _ _ _ us hl => match us, hl with | [_, _], _ => rfl
  have m_l_moved := PySem.W.mg_of X G a_l_moved
  have F_l_changes := fun_mk (st := s_l_changes) l_l_changes c_l_changes k_l_changes
  have b_l_changes := F_l_changes.binds (ps := ["_law_contents", "_law_deed_here", "_law_content_here"]) fun _ _ _ _ _ _ us hl => match us, hl with | [_, _, _], _ => rfl
  have m_l_changes := PySem.W.mg_of X G a_l_changes
  have F_l_with := fun_mk (st := s_l_with) l_l_with c_l_with k_l_with
  have b_l_with := F_l_with.binds (ps := ["_law_contents", "_law_rows"]) fun _ _ _ _ _ _ us hl => match us, hl with | [_, _], _ => rfl
  have m_l_with := PySem.W.mg_of X G a_l_with
  have F_l_grown := fun_mk (st := s_l_grown) l_l_grown c_l_grown k_l_grown
  have b_l_grown := F_l_grown.binds (ps := ["_law_box", "_law_many_here", "_law_hands"]) fun _ _ _ _ _ _ us hl => match us, hl with | [_, _, _], _ => rfl
  have m_l_grown := PySem.W.mg_of X G a_l_grown
  have F_l_refusal := fun_mk (st := s_l_refusal) l_l_refusal c_l_refusal k_l_refusal
  have b_l_refusal := F_l_refusal.binds (ps := ["_law_work"]) fun _ _ _ _ _ _ us hl => match us, hl with | [_], _ => rfl
  have m_l_refusal := PySem.W.mg_of X G a_l_refusal
  have F_l_at_points := fun_mk (st := s_l_at_points) l_l_at_points c_l_at_points k_l_at_points
  have b_l_at_points := F_l_at_points.binds (ps := ["_law_tree", "_law_hands", "_law_bad", "_law_way"]) fun _ _ _ _ _ _ us hl => match us, hl with | [_, _, _, _], _ => rfl
  have m_l_at_points := PySem.W.mg_of X G a_l_at_points
  have F_l_at_hands := fun_mk (st := s_l_at_hands) l_l_at_hands c_l_at_hands k_l_at_hands
  have b_l_at_hands := F_l_at_hands.binds (ps := ["_law_tree", "_law_bad", "_law_far", "_law_way"]) fun _ _ _ _ _ _ us hl => match us, hl with | [_, _, _, _], _ => rfl
  have m_l_at_hands := PySem.W.mg_of X G a_l_at_hands
  have F_l_at_first := fun_mk (st := s_l_at_first) l_l_at_first c_l_at_first k_l_at_first
  have b_l_at_first := F_l_at_first.binds (ps := ["_law_tree", "_law_way"]) fun _ _ _ _ _ _ us hl => match us, hl with | [_, _], _ => rfl
  have m_l_at_first := PySem.W.mg_of X G a_l_at_first
  have F_l_bad_deed := fun_mk (st := s_l_bad_deed) l_l_bad_deed c_l_bad_deed k_l_bad_deed
  have b_l_bad_deed := F_l_bad_deed.binds (ps := ["_law_box", "_law_cell_here"]) fun _ _ _ _ _ _ us hl => match us, hl with | [_, _], _ => rfl
  have m_l_bad_deed := PySem.W.mg_of X G a_l_bad_deed
  have F_law := fun_mk (st := s_law) l_law c_law k_law
  have b_law := F_law.binds (ps := ["_law_script"]) fun _ _ _ _ _ _ us hl => match us, hl with | [_], _ => rfl
  have g_COLUMNS : GStr mg "COLUMNS" "abcdef" := ⟨_, PySem.W.mg_of X G a_COLUMNS⟩
  have g_ROWS : GStr mg "ROWS" "123456789" := ⟨_, PySem.W.mg_of X G a_ROWS⟩
  have g_DEEPEST : GInt mg "DEEPEST" 5 := ⟨_, PySem.W.mg_of X G a_DEEPEST⟩
  have g_FIGURES : GInt mg "FIGURES" 6 := ⟨_, PySem.W.mg_of X G a_FIGURES⟩
  have g_MOST_HANDS : GInt mg "MOST_HANDS" 4 := ⟨_, PySem.W.mg_of X G a_MOST_HANDS⟩
  have e_NoCell : ExcF K mg "NoCell" X_NoCell := ⟨PySem.W.mg_of X G a_NoCell, k_NoCell, x_NoCell, b_NoCell, t_NoCell⟩
  have e_BadFormula : ExcF K mg "BadFormula" X_BadFormula := ⟨PySem.W.mg_of X G a_BadFormula, k_BadFormula, x_BadFormula, b_BadFormula, t_BadFormula⟩
  have e_OffTable : ExcF K mg "OffTable" X_OffTable := ⟨PySem.W.mg_of X G a_OffTable, k_OffTable, x_OffTable, b_OffTable, t_OffTable⟩
  have e_NoHand : ExcF K mg "NoHand" X_NoHand := ⟨PySem.W.mg_of X G a_NoHand, k_NoHand, x_NoHand, b_NoHand, t_NoHand⟩
  have e_NoPoint : ExcF K mg "NoPoint" X_NoPoint := ⟨PySem.W.mg_of X G a_NoPoint, k_NoPoint, x_NoPoint, b_NoPoint, t_NoPoint⟩
  have e_TableError : ExcF K mg "TableError" X_TableError := ⟨PySem.W.mg_of X G a_TableError, k_TableError, x_TableError, b_TableError, t_TableError⟩
  have e_BadNote : GRef mg "BadNote" X_BadNote := ⟨PySem.W.mg_of X G a_BadNote⟩
  have m_NoCell : ExcM K X_NoCell := ⟨hd_NoCell, hs_NoCell, hr_NoCell⟩
  have m_BadFormula : ExcM K X_BadFormula := ⟨hd_BadFormula, hs_BadFormula, hr_BadFormula⟩
  have m_OffTable : ExcM K X_OffTable := ⟨hd_OffTable, hs_OffTable, hr_OffTable⟩
  have m_NoHand : ExcM K X_NoHand := ⟨hd_NoHand, hs_NoHand, hr_NoHand⟩
  have m_NoPoint : ExcM K X_NoPoint := ⟨hd_NoPoint, hs_NoPoint, hr_NoPoint⟩
  have m_TableError : ExcM K X_TableError := ⟨hd_TableError, hs_TableError, hr_TableError⟩
  have c_NoHand : ExcC K X_NoHand := ⟨ca_NoHand, cb_NoHand, b_NoHand, hd_NoHand, cc_NoHand, ce_NoHand, cf_NoHand, cg_NoHand⟩
  have c_NoPoint : ExcC K X_NoPoint := ⟨ca_NoPoint, cb_NoPoint, b_NoPoint, hd_NoPoint, cc_NoPoint, ce_NoPoint, cf_NoPoint, cg_NoPoint⟩
  have c_NoCell : ExcC K X_NoCell := ⟨ca_NoCell, cb_NoCell, b_NoCell, hd_NoCell, cc_NoCell, ce_NoCell, cf_NoCell, cg_NoCell⟩
  have c_BadFormula : ExcC K X_BadFormula := ⟨ca_BadFormula, cb_BadFormula, b_BadFormula, hd_BadFormula, cc_BadFormula, ce_BadFormula, cf_BadFormula, cg_BadFormula⟩
  have c_OffTable : ExcC K X_OffTable := ⟨ca_OffTable, cb_OffTable, b_OffTable, hd_OffTable, cc_OffTable, ce_OffTable, cf_OffTable, cg_OffTable⟩
  have g_PARTS := PySem.W.mg_of X G a_PARTS
  have B : Bt mg := ⟨PySem.W.mg_none_of X G z_len, PySem.W.mg_none_of X G z_range, PySem.W.mg_none_of X G z_int, PySem.W.mg_none_of X G z_str, PySem.W.mg_none_of X G z_bool, PySem.W.mg_none_of X G z_list, PySem.W.mg_none_of X G z_tuple, PySem.W.mg_none_of X G z_dict, PySem.W.mg_none_of X G z_sorted, PySem.W.mg_none_of X G z_isinstance, PySem.W.mg_none_of X G z_min, PySem.W.mg_none_of X G z_max, PySem.W.mg_none_of X G z_ValueError, PySem.W.mg_none_of X G z_abs, PySem.W.mg_none_of X G z_any, PySem.W.mg_none_of X G z_reversed⟩
  refine ⟨PySem.W.fnOf "law" "law" (defArgs s_law) (defBody s_law) (defScope s_law) .none kV_law dc_law pm_law an_law (.ref C_law) ct_law, [(C_law, PT)], spLawT K PT, fun p m => ?_, fun p m => ?_, fun p m => ?_, fun s v => .of_eq rfl, fun H a ns hl _ hT hS => ⟨a, ns, rfl, hS, hl, hT _ (List.mem_singleton.mpr rfl), fun _ => rfl⟩, fun base _ _ hTB => ?_⟩
  · rw [List.mem_singleton.mp m]
    exact O _ _ _ _ _ _ _ _ l_law rfl rfl lc va
  · rw [List.mem_singleton.mp m]
    exact nP
  · rw [List.mem_singleton.mp m]
    exact ⟨_, vs_c, file_c, tf_c, flags_c, tg_c, inF_c, text_c, tt_c, X _ _ lc, rfl, rfl, va, vb, vc, vd, ve, vf, vn⟩

  have PF := partsF_mk (w := w) l_PARTS y_PARTS w_PARTS q_PARTS v_PARTS_0 v_PARTS_1 v_PARTS_2 v_PARTS_3
  have C_l_begun : Cal l.prog w K mg base 1 "_law_begun" ["_law_script"] (spBegun K) := ⟨_, _, ok_lbegun F_l_begun B, m_l_begun, F_l_begun.kp, b_l_begun⟩
  have C_l_take : Cal l.prog w K mg base 1 "_law_take" ["_law_box", "_law_many_here"] spTake := ⟨_, _, ok_ltake F_l_take B, m_l_take, F_l_take.kp, b_l_take⟩
  have C_l_cell : Cal l.prog w K mg base 2 "_law_cell" ["_law_box"] spCell := ⟨_, _, ok_lcell F_l_cell C_l_take, m_l_cell, F_l_cell.kp, b_l_cell⟩
  have C_l_part := cal_lpart (P := l.prog) (w := w) (base := base) F_l_part C_l_take C_l_cell m_l_part b_l_part 5
  have C_l_content : Cal l.prog w K mg base 8 "_law_content" ["_law_box", "_law_deep"] (spContent K 5) := ⟨_, _, ok_lcontent F_l_content C_l_take C_l_part, m_l_content, F_l_content.kp, b_l_content⟩
  have C_l_pt := cal_lpart_text (P := l.prog) (w := w) (base := base) F_l_part_text B m_l_part_text b_l_part_text 8
  have C_l_text : Cal l.prog w K mg base 9 "_law_text" ["_law_content_here"] (spText K) := ⟨_, _, ok_ltext F_l_text B C_l_pt, m_l_text, F_l_text.kp, b_l_text⟩
  have C_l_deed : Cal l.prog w K mg base 11 "_law_deed" ["_law_box"] (spDeedL K) := ⟨_, _, ok_ldeed F_l_deed (C_l_take.mono (by decide)) (C_l_cell.mono (by decide)) (C_l_content.mono (by decide)) (C_l_text.mono (by decide)), m_l_deed, F_l_deed.kp, b_l_deed⟩
  have C_l_down0 : Cal l.prog w K mg base 1 "_law_down" ["_law_cell_here", "_law_rows"] spDown := ⟨_, _, ok_ldown F_l_down B, m_l_down, F_l_down.kp, b_l_down⟩
  have C_l_down : Cal l.prog w K mg base 1 "_law_down" ["_law_cell_here", "_law_rows"] spDn := C_l_down0.imp fun _ _ _ _ => dn_down
  have C_l_uses : Cal l.prog w K mg base 2 "_law_uses" ["_law_deed_here"] (spUsesL K) := ⟨_, _, ok_luses F_l_uses B C_l_down, m_l_uses, F_l_uses.kp, b_l_uses⟩
  have C_l_moved := cal_lmoved (P := l.prog) (w := w) (base := base) F_l_moved B C_l_down m_l_moved b_l_moved 6 (by decide)
  have C_l_changes : Cal l.prog w K mg base 11 "_law_changes" ["_law_contents", "_law_deed_here", "_law_content_here"] (spChangesL K) := ⟨_, _, ok_lchanges F_l_changes B (C_l_uses.mono (by decide)) (C_l_down.mono (by decide)) (C_l_moved.mono (by decide)), m_l_changes, F_l_changes.kp, b_l_changes⟩
  have C_l_with : Cal l.prog w K mg base 1 "_law_with" ["_law_contents", "_law_rows"] (spWith K) := ⟨_, _, ok_lwith F_l_with B, m_l_with, F_l_with.kp, b_l_with⟩
  have C_is_cell : Cal l.prog w K mg base 1 "is_cell" ["text"] spIsCell := ⟨_, _, ok_is_cell F_is_cell B g_COLUMNS g_ROWS, m_is_cell, F_is_cell.kp, b_is_cell⟩
  have C_place : CalX l.prog w K mg base 2 "place" ["cell"] (spPlace X_NoCell) := ⟨_, _, ok_place F_place B g_COLUMNS g_ROWS e_NoCell C_is_cell, m_place, F_place.kp, b_place⟩
  have C_shifted : CalX l.prog w K mg base 3 "shifted" ["cell", "rows"] (spShifted X_NoCell) := ⟨_, _, ok_shifted F_shifted B g_ROWS C_place, m_shifted, F_shifted.kp, b_shifted⟩
  have C_is_number : Cal l.prog w K mg base 1 "is_number" ["text"] spIsNum := ⟨_, _, ok_is_number F_is_number B g_FIGURES, m_is_number, F_is_number.kp, b_is_number⟩
  have C_sum_at : CalX l.prog w K mg base 2 "sum_at" ["words", "at"] (spSumAt K X_BadFormula) := ⟨_, _, ok_sum_at F_sum_at B e_BadFormula C_is_cell, m_sum_at, F_sum_at.kp, b_sum_at⟩
  have C_part_at := cal_part_at (P := l.prog) (w := w) (base := base) F_part_at F_parts_at B e_BadFormula g_DEEPEST g_PARTS PF C_is_number C_is_cell C_sum_at m_part_at b_part_at m_parts_at b_parts_at 5
  have C_read : CalX l.prog w K mg base 14 "read" ["text"] (spRead K X_BadFormula) := ⟨_, _, ok_read F_read B e_BadFormula C_is_number C_part_at, m_read, F_read.kp, b_read⟩
  have C_lower_cell : CalX l.prog w K mg base 4 "lower_cell" ["cell", "rows"] (spLowerCell X_OffTable) := ⟨_, _, ok_lower_cell F_lower_cell B e_OffTable C_shifted, m_lower_cell, F_lower_cell.kp, b_lower_cell⟩
  have C_lowered := cal_lowered (P := l.prog) (w := w) (base := base) F_lowered C_lower_cell m_lowered b_lowered 6
  have C_check : CalX l.prog w K mg base 16 "check" ["deed"] (spCheck K X_OffTable) := ⟨_, _, ok_check F_check B e_NoCell e_OffTable (C_is_cell.mono (by decide)) (C_read.mono (by decide)) (C_shifted.mono (by decide)), m_check, F_check.kp, b_check⟩
  have C_newer : CalX l.prog w K mg base 18 "newer_contents" ["contents", "deed"] (spNewer K X_OffTable) := ⟨_, _, ok_newer F_newer_contents B (C_check.mono (by decide)) (C_read.mono (by decide)) (C_shifted.mono (by decide)) (C_lowered.mono (by decide)), m_newer_contents, F_newer_contents.kp, b_newer_contents⟩
  have C_replaced : Cal l.prog w K mg base 1 "replaced" ["contents", "newer"] (spReplaced K) := ⟨_, _, ok_replaced F_replaced B, m_replaced, F_replaced.kp, b_replaced⟩
  have C_changes : CalX l.prog w K mg base 19 "changes" ["contents", "deed"] (spChanges K X_OffTable) := ⟨_, _, ok_changes F_changes B C_newer, m_changes, F_changes.kp, b_changes⟩
  have T : TrF K C_Tree C_Point := ⟨cl_Tree, n_Tree_stands, n_Tree_points, cl_Point, n_Point_origin, n_Point_hand, n_Point_deed, n_Point_rows, n_Point_contents⟩
  have M_Point : CK CX0 l.prog w K mg base 1 C_Point "Point" ["self", "origin", "hand", "deed", "rows", "contents"] (spPoint C_Point) := ⟨⟨_, _, ok_Point_init F_Point___init__ T, ⟨mk_Point, a_Point___init__, i_Point___init__, kc_Point⟩, b_Point___init__, mc_Point⟩⟩
  have M_check_hand : CM (L2N.CX l.prog w) l.prog w K mg base 1 C_Tree "check_hand" ["self", "hand"] (spCheckH K C_Tree C_Point _) := ⟨⟨_, _, ok_check_hand F_Tree_check_hand B T e_NoHand, ⟨a_Tree_check_hand, i_Tree_check_hand, k_Tree_check_hand⟩, b_Tree_check_hand⟩, cl_Tree⟩
  have M_check_point : CM (L2N.CX l.prog w) l.prog w K mg base 1 C_Tree "check_point" ["self", "point"] (spCheckP K C_Tree C_Point _) := ⟨⟨_, _, ok_check_point F_Tree_check_point B T e_NoPoint, ⟨a_Tree_check_point, i_Tree_check_point, k_Tree_check_point⟩, b_Tree_check_point⟩, cl_Tree⟩
  have M_here : CM (L2N.CX l.prog w) l.prog w K mg base 2 C_Tree "here" ["self", "hand"] (spHere K C_Tree C_Point _) := ⟨⟨_, _, ok_here F_Tree_here T M_check_hand, ⟨a_Tree_here, i_Tree_here, k_Tree_here⟩, b_Tree_here⟩, cl_Tree⟩
  have M_many : CM CX0 l.prog w K mg base 1 C_Tree "many" ["self"] (spMany K C_Tree C_Point) := ⟨⟨_, _, ok_many F_Tree_many B T, ⟨a_Tree_many, i_Tree_many, k_Tree_many⟩, b_Tree_many⟩, cl_Tree⟩
  have M_told : CM (L2N.CX l.prog w) l.prog w K mg base 2 C_Tree "told" ["self", "point"] (spTold K C_Tree C_Point _) := ⟨⟨_, _, ok_told F_Tree_told T e_NoPoint M_check_point, ⟨a_Tree_told, i_Tree_told, k_Tree_told⟩, b_Tree_told⟩, cl_Tree⟩
  have M_table : CM (L2N.CX l.prog w) l.prog w K mg base 2 C_Tree "table" ["self", "point"] (spTable K C_Tree C_Point _) := ⟨⟨_, _, ok_table F_Tree_table B T M_check_point, ⟨a_Tree_table, i_Tree_table, k_Tree_table⟩, b_Tree_table⟩, cl_Tree⟩
  have M_trail : CM (L2N.CX l.prog w) l.prog w K mg base 2 C_Tree "trail" ["self", "point"] (spTrail K C_Tree C_Point _) := ⟨⟨_, _, ok_trail F_Tree_trail B T M_check_point, ⟨a_Tree_trail, i_Tree_trail, k_Tree_trail⟩, b_Tree_trail⟩, cl_Tree⟩
  have M_road : CM (L2N.CX l.prog w) l.prog w K mg base 3 C_Tree "road" ["self", "one", "other"] (spRoad K C_Tree C_Point _) := ⟨⟨_, _, ok_road F_Tree_road B T M_trail, ⟨a_Tree_road, i_Tree_road, k_Tree_road⟩, b_Tree_road⟩, cl_Tree⟩
  have M_go : CM (L2N.CX l.prog w) l.prog w K mg base 4 C_Tree "go" ["self", "hand", "point"] (spGo K C_Tree C_Point _ _) := ⟨⟨_, _, ok_go F_Tree_go T (M_check_hand.mono (by decide)) M_road, ⟨a_Tree_go, i_Tree_go, k_Tree_go⟩, b_Tree_go⟩, cl_Tree⟩
  have M_do : CM (L2N.CX l.prog w) l.prog w K mg base 20 C_Tree "do" ["self", "hand", "deed"] (spDo K C_Tree C_Point X_OffTable _) := ⟨⟨_, _, ok_do F_Tree_do B T (M_check_hand.mono (by decide)) C_changes (C_replaced.mono (by decide)) (M_Point.mono (by decide)), ⟨a_Tree_do, i_Tree_do, k_Tree_do⟩, b_Tree_do⟩, cl_Tree⟩
  have M_Tree : CK (L2N.CX l.prog w) l.prog w K mg base 3 C_Tree "Tree" ["self", "hands"] (spTree K C_Tree C_Point _) := ⟨⟨_, _, ok_Tree_init F_Tree___init__ B T g_MOST_HANDS e_NoHand M_Point, ⟨mk_Tree, a_Tree___init__, i_Tree___init__, kc_Tree⟩, b_Tree___init__, mc_Tree⟩⟩
  have C_checkR : CalX l.prog w K mg base 16 "check" ["deed"] (spCheckR K X_NoCell X_BadFormula X_OffTable) := ⟨_, _, ok_checkR F_check B e_NoCell e_OffTable (C_is_cell.mono (by decide)) (C_read.mono (by decide)) (C_shifted.mono (by decide)), m_check, F_check.kp, b_check⟩
  have C_newerR : CalX l.prog w K mg base 18 "newer_contents" ["contents", "deed"] (spNewerR K X_NoCell X_BadFormula X_OffTable) := ⟨_, _, ok_newerR F_newer_contents B (C_checkR.mono (by decide)) (C_read.mono (by decide)) (C_shifted.mono (by decide)) (C_lowered.mono (by decide)), m_newer_contents, F_newer_contents.kp, b_newer_contents⟩
  have C_changesR : CalX l.prog w K mg base 19 "changes" ["contents", "deed"] (spNewerR K X_NoCell X_BadFormula X_OffTable) := ⟨_, _, ok_changesR F_changes B C_newerR, m_changes, F_changes.kp, b_changes⟩
  have M_doR : CM (L2N.CX l.prog w) l.prog w K mg base 20 C_Tree "do" ["self", "hand", "deed"] (spDoR K C_Tree C_Point X_NoCell X_BadFormula X_OffTable) := ⟨⟨_, _, ok_doR F_Tree_do B T (M_check_hand.mono (by decide)) C_changesR (C_replaced.mono (by decide)) (M_Point.mono (by decide)), ⟨a_Tree_do, i_Tree_do, k_Tree_do⟩, b_Tree_do⟩, cl_Tree⟩
  have M_worths : CM (L2N.CX l.prog w) l.prog w K mg base 19 C_Tree "worths" ["self", "point"] (spAskR K C_Tree C_Point X_NoPoint false) := ⟨⟨_, _, ok_worthsR F_Tree_worths T (M_check_point.mono (by decide)), ⟨a_Tree_worths, i_Tree_worths, k_Tree_worths⟩, b_Tree_worths⟩, cl_Tree⟩
  have C_reads_of : Cal l.prog w K mg base 18 "reads_of" ["contents"] (fun _ _ _ _ => False) := ⟨_, _, FnOk.none, m_reads_of, F_reads_of.kp, b_reads_of⟩
  have O_leans := (ok_leansR (P := l.prog) (w := w) (base := base) F_leans (M_told.mono (by decide))).mono (show 19 ≤ 25 by decide)
  have O_reads := (ok_readsR (P := l.prog) (w := w) (base := base) F_reads e_NoPoint (M_table.mono (by decide)) C_reads_of).mono (show 19 ≤ 25 by decide)
  have C_without : CalX l.prog w K mg base 24 "without" ["tree", "hand", "gone", "point", "falls"] (spWithoutR K C_Tree C_Point X_NoHand X_NoPoint) := ⟨_, _, ok_withoutR F_without e_NoPoint (M_check_hand.mono (by decide)) (M_trail.mono (by decide)), m_without, F_without.kp, b_without⟩
  have C_joined : CalX l.prog w K mg base 24 "joined" ["tree", "hand", "one", "other"] (spJoinedR K C_Tree C_Point X_NoHand X_NoPoint) := ⟨_, _, ok_joinedR F_joined (M_check_hand.mono (by decide)) (M_trail.mono (by decide)), m_joined, F_joined.kp, b_joined⟩
  have C_l_grown : Cal l.prog w K mg base 21 "_law_grown" ["_law_box", "_law_many_here", "_law_hands"] (spGrown K C_Tree C_Point) := ⟨_, _, ok_lgrown F_l_grown B (C_l_take.mono (by decide)) (M_Tree.mono (by decide)) (M_go.mono (by decide)) M_do (C_l_deed.mono (by decide)) (C_l_changes.mono (by decide)) (C_l_with.mono (by decide)), m_l_grown, F_l_grown.kp, b_l_grown⟩
  have C_l_bad_deed : Cal l.prog w K mg base 2 "_law_bad_deed" ["_law_box", "_law_cell_here"] (spBadDeed K) := ⟨_, _, ok_lbad_deed F_l_bad_deed C_l_take, m_l_bad_deed, F_l_bad_deed.kp, b_l_bad_deed⟩
  have C_l_at_points : CalX l.prog w K mg base 30 "_law_at_points" ["_law_tree", "_law_hands", "_law_bad", "_law_way"] (spAtP K C_Tree C_Point X_NoPoint) := ⟨_, _, ok_lat_points F_l_at_points m_leans O_leans F_leans.kp b_leans m_reads O_reads F_reads.kp b_reads (M_go.mono (by decide)) (M_table.mono (by decide)) (M_worths.mono (by decide)) (M_told.mono (by decide)) (M_trail.mono (by decide)) (M_road.mono (by decide)) (C_without.mono (by decide)) (C_joined.mono (by decide)), m_l_at_points, F_l_at_points.kp, b_l_at_points⟩
  have C_l_at_hands : CalX l.prog w K mg base 30 "_law_at_hands" ["_law_tree", "_law_bad", "_law_far", "_law_way"] (spAtH K C_Tree C_Point X_NoHand) := ⟨_, _, ok_lat_hands F_l_at_hands (M_do.mono (by decide)) (M_here.mono (by decide)) (M_go.mono (by decide)) (C_without.mono (by decide)) (C_joined.mono (by decide)), m_l_at_hands, F_l_at_hands.kp, b_l_at_hands⟩
  have C_l_at_first : CalX l.prog w K mg base 30 "_law_at_first" ["_law_tree", "_law_way"] (spAtF K C_Tree C_Point X_NoPoint) := ⟨_, _, ok_lat_first F_l_at_first m_leans O_leans F_leans.kp b_leans m_reads O_reads F_reads.kp b_reads (M_told.mono (by decide)) (C_without.mono (by decide)), m_l_at_first, F_l_at_first.kp, b_l_at_first⟩
  have R0 : RefF K mg X_TableError X_NoHand X_NoPoint X_NoCell X_BadFormula X_OffTable X_BadNote X_NoHand 0 := ⟨B, e_TableError, e_NoHand, e_NoPoint, e_NoCell, e_BadFormula, e_OffTable, e_BadNote, c_NoHand, exm_sub e_TableError m_TableError u_NoHand_TableError, kit_sub e_NoHand m_NoHand m_NoHand hr_NoHand, kit_sub e_NoPoint m_NoPoint m_NoHand u_NoHand_NoPoint, kit_sub e_NoCell m_NoCell m_NoHand u_NoHand_NoCell, kit_sub e_BadFormula m_BadFormula m_NoHand u_NoHand_BadFormula, kit_sub e_OffTable m_OffTable m_NoHand u_NoHand_OffTable, kit_subG m_NoHand t_BadNote hs_BadNote u_NoHand_BadNote, kit_val cv_NoHand, by decide⟩
  have R1 : RefF K mg X_TableError X_NoHand X_NoPoint X_NoCell X_BadFormula X_OffTable X_BadNote X_NoPoint 1 := ⟨B, e_TableError, e_NoHand, e_NoPoint, e_NoCell, e_BadFormula, e_OffTable, e_BadNote, c_NoPoint, exm_sub e_TableError m_TableError u_NoPoint_TableError, kit_sub e_NoHand m_NoHand m_NoPoint u_NoPoint_NoHand, kit_sub e_NoPoint m_NoPoint m_NoPoint hr_NoPoint, kit_sub e_NoCell m_NoCell m_NoPoint u_NoPoint_NoCell, kit_sub e_BadFormula m_BadFormula m_NoPoint u_NoPoint_BadFormula, kit_sub e_OffTable m_OffTable m_NoPoint u_NoPoint_OffTable, kit_subG m_NoPoint t_BadNote hs_BadNote u_NoPoint_BadNote, kit_val cv_NoPoint, by decide⟩
  have R2 : RefF K mg X_TableError X_NoHand X_NoPoint X_NoCell X_BadFormula X_OffTable X_BadNote X_NoCell 2 := ⟨B, e_TableError, e_NoHand, e_NoPoint, e_NoCell, e_BadFormula, e_OffTable, e_BadNote, c_NoCell, exm_sub e_TableError m_TableError u_NoCell_TableError, kit_sub e_NoHand m_NoHand m_NoCell u_NoCell_NoHand, kit_sub e_NoPoint m_NoPoint m_NoCell u_NoCell_NoPoint, kit_sub e_NoCell m_NoCell m_NoCell hr_NoCell, kit_sub e_BadFormula m_BadFormula m_NoCell u_NoCell_BadFormula, kit_sub e_OffTable m_OffTable m_NoCell u_NoCell_OffTable, kit_subG m_NoCell t_BadNote hs_BadNote u_NoCell_BadNote, kit_val cv_NoCell, by decide⟩
  have R3 : RefF K mg X_TableError X_NoHand X_NoPoint X_NoCell X_BadFormula X_OffTable X_BadNote X_BadFormula 3 := ⟨B, e_TableError, e_NoHand, e_NoPoint, e_NoCell, e_BadFormula, e_OffTable, e_BadNote, c_BadFormula, exm_sub e_TableError m_TableError u_BadFormula_TableError, kit_sub e_NoHand m_NoHand m_BadFormula u_BadFormula_NoHand, kit_sub e_NoPoint m_NoPoint m_BadFormula u_BadFormula_NoPoint, kit_sub e_NoCell m_NoCell m_BadFormula u_BadFormula_NoCell, kit_sub e_BadFormula m_BadFormula m_BadFormula hr_BadFormula, kit_sub e_OffTable m_OffTable m_BadFormula u_BadFormula_OffTable, kit_subG m_BadFormula t_BadNote hs_BadNote u_BadFormula_BadNote, kit_val cv_BadFormula, by decide⟩
  have R4 : RefF K mg X_TableError X_NoHand X_NoPoint X_NoCell X_BadFormula X_OffTable X_BadNote X_OffTable 4 := ⟨B, e_TableError, e_NoHand, e_NoPoint, e_NoCell, e_BadFormula, e_OffTable, e_BadNote, c_OffTable, exm_sub e_TableError m_TableError u_OffTable_TableError, kit_sub e_NoHand m_NoHand m_OffTable u_OffTable_NoHand, kit_sub e_NoPoint m_NoPoint m_OffTable u_OffTable_NoPoint, kit_sub e_NoCell m_NoCell m_OffTable u_OffTable_NoCell, kit_sub e_BadFormula m_BadFormula m_OffTable u_OffTable_BadFormula, kit_sub e_OffTable m_OffTable m_OffTable hr_OffTable, kit_subG m_OffTable t_BadNote hs_BadNote u_OffTable_BadNote, kit_val cv_OffTable, by decide⟩
  exact ok_law l_law c_law (hTB _ (List.mem_singleton.mpr rfl)) B R0 R1 R2 R3 R4 F_l_refusal m_l_refusal b_l_refusal (C_l_begun.mono (by decide)) (C_l_take.mono (by decide)) (C_l_cell.mono (by decide)) (C_l_grown.mono (by decide)) (C_l_bad_deed.mono (by decide)) (C_l_at_points.mono (by decide)) (C_l_at_hands.mono (by decide)) (C_l_at_first.mono (by decide)) (M_doR.mono (by decide)) (M_Tree.mono (by decide)) (M_many.mono (by decide)) (M_here.mono (by decide)) (M_table.mono (by decide))
theorem walk {l : PySem.W.OpenLaw} {q : Program} {loose : List Str} {XP : (Str → Option Value) → Heap → Prop} {YP : World → Heap → Prop} {d : DefRec} {K : Params → PySem.W.Frag} (hn : l.most = some 63) (hdf : d.params.defaults = []) (hrec : ((recsOf q).any fun e => e.name == d.name) = true)
    (hY : ∀ (w : World) (h : Heap), YP w h → (K w.params).In h)
    (F : ∀ (w : World) (mg : Str → Option Value) (fa : Addr) (h : Heap), YP w h → (K w.params).In h → h.Ns mainGlobals mg → mg d.name = some (.ref fa) → LamX.OwnTab (K w.params) fa h →
      LamX.LawAtS l w (K w.params) CX0 70 63 "_law_script" mg fa h) :
    PySem.W.WalkO q loose XP YP l.row.toRowW d [] (fun f vs => PySem.call f vs) :=
  LamX.walk_ofOwn (n := 63) (k := 70) (x := "_law_script") (CX := fun _ => CX0) hn (by decide) hdf ⟨rfl, by decide, by decide⟩ hrec hY F fun _ _ _ _ _ z => z
end U
open PySem PySem.W PyProof.Rows
theorem PySem.Challenge.cw_undotable_k09_refused_and_nothing_change_holds : PySem.Challenge.rw_undotable_k09_refused_and_nothing_change.Holds := by
  w_on; o_law; k_head; (case hw => w_witness2)
  k_fill
  refine U.walk (l := PySem.Challenge.rw_undotable_k09_refused_and_nothing_change) rfl rfl (by first | rfl | decide +kernel) (fun w h Y => PySem.W.km_in_of Y) ?F
  case F =>
    intro w mg fa h Y KX G hmg O
    refine' U.all_mk KX G hmg O ?z_Tree ?pg_Tree ?hdi_Tree ?po_Tree ?sa_Tree ?mk_Tree ?kc_Tree ?n_Tree_stands ?n_Tree_points ?z_Point ?pg_Point ?hdi_Point ?po_Point ?sa_Point ?mk_Point ?kc_Point ?n_Point_origin ?n_Point_hand ?n_Point_deed ?n_Point_rows ?n_Point_contents ?a_is_cell ?l_is_cell ?c_is_cell ?k_is_cell ?a_place ?l_place ?c_place ?k_place ?a_shifted ?l_shifted ?c_shifted ?k_shifted ?a_is_number ?l_is_number ?c_is_number ?k_is_number ?a_read ?l_read ?c_read ?k_read ?a_part_at ?l_part_at ?c_part_at ?k_part_at ?a_sum_at ?l_sum_at ?c_sum_at ?k_sum_at ?a_parts_at ?l_parts_at ?c_parts_at ?k_parts_at ?a_lower_cell ?l_lower_cell ?c_lower_cell ?k_lower_cell ?a_lowered ?l_lowered ?c_lowered ?k_lowered ?a_check ?l_check ?c_check ?k_check ?a_newer_contents ?l_newer_contents ?c_newer_contents ?k_newer_contents ?a_replaced ?l_replaced ?c_replaced ?k_replaced ?a_changes ?l_changes ?c_changes ?k_changes ?a_reads_of ?l_reads_of ?c_reads_of ?k_reads_of ?a_Point___init__ ?i_Point___init__ ?l_Point___init__ ?c_Point___init__ ?k_Point___init__ ?a_Tree___init__ ?i_Tree___init__ ?l_Tree___init__ ?c_Tree___init__ ?k_Tree___init__ ?a_Tree_do ?i_Tree_do ?l_Tree_do ?c_Tree_do ?k_Tree_do ?a_Tree_here ?i_Tree_here ?l_Tree_here ?c_Tree_here ?k_Tree_here ?a_Tree_told ?i_Tree_told ?l_Tree_told ?c_Tree_told ?k_Tree_told ?a_Tree_many ?i_Tree_many ?l_Tree_many ?c_Tree_many ?k_Tree_many ?a_Tree_table ?i_Tree_table ?l_Tree_table ?c_Tree_table ?k_Tree_table ?a_Tree_worths ?i_Tree_worths ?l_Tree_worths ?c_Tree_worths ?k_Tree_worths ?a_Tree_trail ?i_Tree_trail ?l_Tree_trail ?c_Tree_trail ?k_Tree_trail ?a_Tree_road ?i_Tree_road ?l_Tree_road ?c_Tree_road ?k_Tree_road ?a_Tree_go ?i_Tree_go ?l_Tree_go ?c_Tree_go ?k_Tree_go ?a_Tree_check_hand ?i_Tree_check_hand ?l_Tree_check_hand ?c_Tree_check_hand ?k_Tree_check_hand ?a_Tree_check_point ?i_Tree_check_point ?l_Tree_check_point ?c_Tree_check_point ?k_Tree_check_point ?a_leans ?l_leans ?c_leans ?k_leans ?a_reads ?l_reads ?c_reads ?k_reads ?a_without ?l_without ?c_without ?k_without ?a_joined ?l_joined ?c_joined ?k_joined ?a_l_begun ?l_l_begun ?c_l_begun ?k_l_begun ?a_l_take ?l_l_take ?c_l_take ?k_l_take ?a_l_cell ?l_l_cell ?c_l_cell ?k_l_cell ?a_l_down ?l_l_down ?c_l_down ?k_l_down ?a_l_part ?l_l_part ?c_l_part ?k_l_part ?a_l_content ?l_l_content ?c_l_content ?k_l_content ?a_l_part_text ?l_l_part_text ?c_l_part_text ?k_l_part_text ?a_l_text ?l_l_text ?c_l_text ?k_l_text ?a_l_deed ?l_l_deed ?c_l_deed ?k_l_deed ?a_l_uses ?l_l_uses ?c_l_uses ?k_l_uses ?a_l_moved ?l_l_moved ?c_l_moved ?k_l_moved ?a_l_changes ?l_l_changes ?c_l_changes ?k_l_changes ?a_l_with ?l_l_with ?c_l_with ?k_l_with ?a_l_grown ?l_l_grown ?c_l_grown ?k_l_grown ?a_l_refusal ?l_l_refusal ?c_l_refusal ?k_l_refusal ?a_l_at_points ?l_l_at_points ?c_l_at_points ?k_l_at_points ?a_l_at_hands ?l_l_at_hands ?c_l_at_hands ?k_l_at_hands ?a_l_at_first ?l_l_at_first ?c_l_at_first ?k_l_at_first ?a_l_bad_deed ?l_l_bad_deed ?c_l_bad_deed ?k_l_bad_deed ?a_law ?l_law ?c_law ?k_law ?a_COLUMNS ?a_ROWS ?a_DEEPEST ?a_FIGURES ?a_MOST_HANDS ?a_NoCell ?k_NoCell ?x_NoCell ?b_NoCell ?t_NoCell ?a_BadFormula ?k_BadFormula ?x_BadFormula ?b_BadFormula ?t_BadFormula ?a_OffTable ?k_OffTable ?x_OffTable ?b_OffTable ?t_OffTable ?a_NoHand ?k_NoHand ?x_NoHand ?b_NoHand ?t_NoHand ?a_NoPoint ?k_NoPoint ?x_NoPoint ?b_NoPoint ?t_NoPoint ?a_TableError ?k_TableError ?x_TableError ?b_TableError ?t_TableError ?a_BadNote ?t_BadNote ?hs_BadNote ?hd_NoCell ?hs_NoCell ?hr_NoCell ?hd_BadFormula ?hs_BadFormula ?hr_BadFormula ?hd_OffTable ?hs_OffTable ?hr_OffTable ?hd_NoHand ?hs_NoHand ?hr_NoHand ?hd_NoPoint ?hs_NoPoint ?hr_NoPoint ?hd_TableError ?hs_TableError ?hr_TableError ?ca_NoHand ?cb_NoHand ?cc_NoHand ?ce_NoHand ?cf_NoHand ?cg_NoHand ?cv_NoHand ?ca_NoPoint ?cb_NoPoint ?cc_NoPoint ?ce_NoPoint ?cf_NoPoint ?cg_NoPoint ?cv_NoPoint ?ca_NoCell ?cb_NoCell ?cc_NoCell ?ce_NoCell ?cf_NoCell ?cg_NoCell ?cv_NoCell ?ca_BadFormula ?cb_BadFormula ?cc_BadFormula ?ce_BadFormula ?cf_BadFormula ?cg_BadFormula ?cv_BadFormula ?ca_OffTable ?cb_OffTable ?cc_OffTable ?ce_OffTable ?cf_OffTable ?cg_OffTable ?cv_OffTable ?u_NoHand_TableError ?u_NoHand_BadNote ?u_NoHand_NoPoint ?u_NoHand_NoCell ?u_NoHand_BadFormula ?u_NoHand_OffTable ?u_NoPoint_TableError ?u_NoPoint_BadNote ?u_NoPoint_NoHand ?u_NoPoint_NoCell ?u_NoPoint_BadFormula ?u_NoPoint_OffTable ?u_NoCell_TableError ?u_NoCell_BadNote ?u_NoCell_NoHand ?u_NoCell_NoPoint ?u_NoCell_BadFormula ?u_NoCell_OffTable ?u_BadFormula_TableError ?u_BadFormula_BadNote ?u_BadFormula_NoHand ?u_BadFormula_NoPoint ?u_BadFormula_NoCell ?u_BadFormula_OffTable ?u_OffTable_TableError ?u_OffTable_BadNote ?u_OffTable_NoHand ?u_OffTable_NoPoint ?u_OffTable_NoCell ?u_OffTable_BadFormula ?a_PARTS ?l_PARTS ?y_PARTS ?w_PARTS ?q_PARTS ?v_PARTS_0 ?v_PARTS_1 ?v_PARTS_2 ?v_PARTS_3 ?z_len ?z_range ?z_int ?z_str ?z_bool ?z_list ?z_tuple ?z_dict ?z_sorted ?z_isinstance ?z_min ?z_max ?z_ValueError ?z_abs ?z_any ?z_reversed ?lc ?va ?vb ?vc ?vd ?ve ?vf ?vn ?nP
    (case z_Tree => k_is)
    (case pg_Tree => k_is)
    (case hdi_Tree => k_is)
    (case po_Tree => k_is)
    (case sa_Tree => k_is)
    (case mk_Tree => k_is)
    (case kc_Tree => k_is)
    (case n_Tree_stands => k_is)
    (case n_Tree_points => k_is)
    (case z_Point => k_is)
    (case pg_Point => k_is)
    (case hdi_Point => k_is)
    (case po_Point => k_is)
    (case sa_Point => k_is)
    (case mk_Point => k_is)
    (case kc_Point => k_is)
    (case n_Point_origin => k_is)
    (case n_Point_hand => k_is)
    (case n_Point_deed => k_is)
    (case n_Point_rows => k_is)
    (case n_Point_contents => k_is)
    (case a_is_cell => k_is)
    (case l_is_cell => k_is)
    (case c_is_cell => k_is)
    (case k_is_cell => k_is)
    (case a_place => k_is)
    (case l_place => k_is)
    (case c_place => k_is)
    (case k_place => k_is)
    (case a_shifted => k_is)
    (case l_shifted => k_is)
    (case c_shifted => k_is)
    (case k_shifted => k_is)
    (case a_is_number => k_is)
    (case l_is_number => k_is)
    (case c_is_number => k_is)
    (case k_is_number => k_is)
    (case a_read => k_is)
    (case l_read => k_is)
    (case c_read => k_is)
    (case k_read => k_is)
    (case a_part_at => k_is)
    (case l_part_at => k_is)
    (case c_part_at => k_is)
    (case k_part_at => k_is)
    (case a_sum_at => k_is)
    (case l_sum_at => k_is)
    (case c_sum_at => k_is)
    (case k_sum_at => k_is)
    (case a_parts_at => k_is)
    (case l_parts_at => k_is)
    (case c_parts_at => k_is)
    (case k_parts_at => k_is)
    (case a_lower_cell => k_is)
    (case l_lower_cell => k_is)
    (case c_lower_cell => k_is)
    (case k_lower_cell => k_is)
    (case a_lowered => k_is)
    (case l_lowered => k_is)
    (case c_lowered => k_is)
    (case k_lowered => k_is)
    (case a_check => k_is)
    (case l_check => k_is)
    (case c_check => k_is)
    (case k_check => k_is)
    (case a_newer_contents => k_is)
    (case l_newer_contents => k_is)
    (case c_newer_contents => k_is)
    (case k_newer_contents => k_is)
    (case a_replaced => k_is)
    (case l_replaced => k_is)
    (case c_replaced => k_is)
    (case k_replaced => k_is)
    (case a_changes => k_is)
    (case l_changes => k_is)
    (case c_changes => k_is)
    (case k_changes => k_is)
    (case a_reads_of => k_is)
    (case l_reads_of => k_is)
    (case c_reads_of => k_is)
    (case k_reads_of => k_is)
    (case a_Point___init__ => k_is)
    (case i_Point___init__ => k_is)
    (case l_Point___init__ => k_is)
    (case c_Point___init__ => k_is)
    (case k_Point___init__ => k_is)
    (case a_Tree___init__ => k_is)
    (case i_Tree___init__ => k_is)
    (case l_Tree___init__ => k_is)
    (case c_Tree___init__ => k_is)
    (case k_Tree___init__ => k_is)
    (case a_Tree_do => k_is)
    (case i_Tree_do => k_is)
    (case l_Tree_do => k_is)
    (case c_Tree_do => k_is)
    (case k_Tree_do => k_is)
    (case a_Tree_here => k_is)
    (case i_Tree_here => k_is)
    (case l_Tree_here => k_is)
    (case c_Tree_here => k_is)
    (case k_Tree_here => k_is)
    (case a_Tree_told => k_is)
    (case i_Tree_told => k_is)
    (case l_Tree_told => k_is)
    (case c_Tree_told => k_is)
    (case k_Tree_told => k_is)
    (case a_Tree_many => k_is)
    (case i_Tree_many => k_is)
    (case l_Tree_many => k_is)
    (case c_Tree_many => k_is)
    (case k_Tree_many => k_is)
    (case a_Tree_table => k_is)
    (case i_Tree_table => k_is)
    (case l_Tree_table => k_is)
    (case c_Tree_table => k_is)
    (case k_Tree_table => k_is)
    (case a_Tree_worths => k_is)
    (case i_Tree_worths => k_is)
    (case l_Tree_worths => k_is)
    (case c_Tree_worths => k_is)
    (case k_Tree_worths => k_is)
    (case a_Tree_trail => k_is)
    (case i_Tree_trail => k_is)
    (case l_Tree_trail => k_is)
    (case c_Tree_trail => k_is)
    (case k_Tree_trail => k_is)
    (case a_Tree_road => k_is)
    (case i_Tree_road => k_is)
    (case l_Tree_road => k_is)
    (case c_Tree_road => k_is)
    (case k_Tree_road => k_is)
    (case a_Tree_go => k_is)
    (case i_Tree_go => k_is)
    (case l_Tree_go => k_is)
    (case c_Tree_go => k_is)
    (case k_Tree_go => k_is)
    (case a_Tree_check_hand => k_is)
    (case i_Tree_check_hand => k_is)
    (case l_Tree_check_hand => k_is)
    (case c_Tree_check_hand => k_is)
    (case k_Tree_check_hand => k_is)
    (case a_Tree_check_point => k_is)
    (case i_Tree_check_point => k_is)
    (case l_Tree_check_point => k_is)
    (case c_Tree_check_point => k_is)
    (case k_Tree_check_point => k_is)
    (case a_leans => k_is)
    (case l_leans => k_is)
    (case c_leans => k_is)
    (case k_leans => k_is)
    (case a_reads => k_is)
    (case l_reads => k_is)
    (case c_reads => k_is)
    (case k_reads => k_is)
    (case a_without => k_is)
    (case l_without => k_is)
    (case c_without => k_is)
    (case k_without => k_is)
    (case a_joined => k_is)
    (case l_joined => k_is)
    (case c_joined => k_is)
    (case k_joined => k_is)
    (case a_l_begun => k_is)
    (case l_l_begun => k_is)
    (case c_l_begun => k_is)
    (case k_l_begun => k_is)
    (case a_l_take => k_is)
    (case l_l_take => k_is)
    (case c_l_take => k_is)
    (case k_l_take => k_is)
    (case a_l_cell => k_is)
    (case l_l_cell => k_is)
    (case c_l_cell => k_is)
    (case k_l_cell => k_is)
    (case a_l_down => k_is)
    (case l_l_down => k_is)
    (case c_l_down => k_is)
    (case k_l_down => k_is)
    (case a_l_part => k_is)
    (case l_l_part => k_is)
    (case c_l_part => k_is)
    (case k_l_part => k_is)
    (case a_l_content => k_is)
    (case l_l_content => k_is)
    (case c_l_content => k_is)
    (case k_l_content => k_is)
    (case a_l_part_text => k_is)
    (case l_l_part_text => k_is)
    (case c_l_part_text => k_is)
    (case k_l_part_text => k_is)
    (case a_l_text => k_is)
    (case l_l_text => k_is)
    (case c_l_text => k_is)
    (case k_l_text => k_is)
    (case a_l_deed => k_is)
    (case l_l_deed => k_is)
    (case c_l_deed => k_is)
    (case k_l_deed => k_is)
    (case a_l_uses => k_is)
    (case l_l_uses => k_is)
    (case c_l_uses => k_is)
    (case k_l_uses => k_is)
    (case a_l_moved => k_is)
    (case l_l_moved => k_is)
    (case c_l_moved => k_is)
    (case k_l_moved => k_is)
    (case a_l_changes => k_is)
    (case l_l_changes => k_is)
    (case c_l_changes => k_is)
    (case k_l_changes => k_is)
    (case a_l_with => k_is)
    (case l_l_with => k_is)
    (case c_l_with => k_is)
    (case k_l_with => k_is)
    (case a_l_grown => k_is)
    (case l_l_grown => k_is)
    (case c_l_grown => k_is)
    (case k_l_grown => k_is)
    (case a_l_refusal => k_is)
    (case l_l_refusal => k_is)
    (case c_l_refusal => k_is)
    (case k_l_refusal => k_is)
    (case a_l_at_points => k_is)
    (case l_l_at_points => k_is)
    (case c_l_at_points => k_is)
    (case k_l_at_points => k_is)
    (case a_l_at_hands => k_is)
    (case l_l_at_hands => k_is)
    (case c_l_at_hands => k_is)
    (case k_l_at_hands => k_is)
    (case a_l_at_first => k_is)
    (case l_l_at_first => k_is)
    (case c_l_at_first => k_is)
    (case k_l_at_first => k_is)
    (case a_l_bad_deed => k_is)
    (case l_l_bad_deed => k_is)
    (case c_l_bad_deed => k_is)
    (case k_l_bad_deed => k_is)
    (case a_law => k_is)
    (case l_law => k_is)
    (case c_law => k_is)
    (case k_law => k_is)
    (case a_COLUMNS => k_is)
    (case a_ROWS => k_is)
    (case a_DEEPEST => k_is)
    (case a_FIGURES => k_is)
    (case a_MOST_HANDS => k_is)
    (case a_NoCell => k_is)
    (case k_NoCell => k_is)
    (case x_NoCell => k_exc)
    (case b_NoCell => k_is)
    (case t_NoCell => k_is)
    (case a_BadFormula => k_is)
    (case k_BadFormula => k_is)
    (case x_BadFormula => k_exc)
    (case b_BadFormula => k_is)
    (case t_BadFormula => k_is)
    (case a_OffTable => k_is)
    (case k_OffTable => k_is)
    (case x_OffTable => k_exc)
    (case b_OffTable => k_is)
    (case t_OffTable => k_is)
    (case a_NoHand => k_is)
    (case k_NoHand => k_is)
    (case x_NoHand => k_exc)
    (case b_NoHand => k_is)
    (case t_NoHand => k_is)
    (case a_NoPoint => k_is)
    (case k_NoPoint => k_is)
    (case x_NoPoint => k_exc)
    (case b_NoPoint => k_is)
    (case t_NoPoint => k_is)
    (case a_TableError => k_is)
    (case k_TableError => k_is)
    (case x_TableError => k_exc)
    (case b_TableError => k_is)
    (case t_TableError => k_is)
    (case a_BadNote => k_is)
    (case t_BadNote => k_is)
    (case hs_BadNote => k_is)
    (case hd_NoCell => k_is)
    (case hs_NoCell => k_is)
    (case hr_NoCell => k_is)
    (case hd_BadFormula => k_is)
    (case hs_BadFormula => k_is)
    (case hr_BadFormula => k_is)
    (case hd_OffTable => k_is)
    (case hs_OffTable => k_is)
    (case hr_OffTable => k_is)
    (case hd_NoHand => k_is)
    (case hs_NoHand => k_is)
    (case hr_NoHand => k_is)
    (case hd_NoPoint => k_is)
    (case hs_NoPoint => k_is)
    (case hr_NoPoint => k_is)
    (case hd_TableError => k_is)
    (case hs_TableError => k_is)
    (case hr_TableError => k_is)
    (case ca_NoHand => k_is)
    (case cb_NoHand => k_is)
    (case cc_NoHand => k_is)
    (case ce_NoHand => k_is)
    (case cf_NoHand => k_is)
    (case cg_NoHand => k_is)
    (case cv_NoHand => k_is)
    (case ca_NoPoint => k_is)
    (case cb_NoPoint => k_is)
    (case cc_NoPoint => k_is)
    (case ce_NoPoint => k_is)
    (case cf_NoPoint => k_is)
    (case cg_NoPoint => k_is)
    (case cv_NoPoint => k_is)
    (case ca_NoCell => k_is)
    (case cb_NoCell => k_is)
    (case cc_NoCell => k_is)
    (case ce_NoCell => k_is)
    (case cf_NoCell => k_is)
    (case cg_NoCell => k_is)
    (case cv_NoCell => k_is)
    (case ca_BadFormula => k_is)
    (case cb_BadFormula => k_is)
    (case cc_BadFormula => k_is)
    (case ce_BadFormula => k_is)
    (case cf_BadFormula => k_is)
    (case cg_BadFormula => k_is)
    (case cv_BadFormula => k_is)
    (case ca_OffTable => k_is)
    (case cb_OffTable => k_is)
    (case cc_OffTable => k_is)
    (case ce_OffTable => k_is)
    (case cf_OffTable => k_is)
    (case cg_OffTable => k_is)
    (case cv_OffTable => k_is)
    (case u_NoHand_TableError => k_is)
    (case u_NoHand_BadNote => k_is)
    (case u_NoHand_NoPoint => k_is)
    (case u_NoHand_NoCell => k_is)
    (case u_NoHand_BadFormula => k_is)
    (case u_NoHand_OffTable => k_is)
    (case u_NoPoint_TableError => k_is)
    (case u_NoPoint_BadNote => k_is)
    (case u_NoPoint_NoHand => k_is)
    (case u_NoPoint_NoCell => k_is)
    (case u_NoPoint_BadFormula => k_is)
    (case u_NoPoint_OffTable => k_is)
    (case u_NoCell_TableError => k_is)
    (case u_NoCell_BadNote => k_is)
    (case u_NoCell_NoHand => k_is)
    (case u_NoCell_NoPoint => k_is)
    (case u_NoCell_BadFormula => k_is)
    (case u_NoCell_OffTable => k_is)
    (case u_BadFormula_TableError => k_is)
    (case u_BadFormula_BadNote => k_is)
    (case u_BadFormula_NoHand => k_is)
    (case u_BadFormula_NoPoint => k_is)
    (case u_BadFormula_NoCell => k_is)
    (case u_BadFormula_OffTable => k_is)
    (case u_OffTable_TableError => k_is)
    (case u_OffTable_BadNote => k_is)
    (case u_OffTable_NoHand => k_is)
    (case u_OffTable_NoPoint => k_is)
    (case u_OffTable_NoCell => k_is)
    (case u_OffTable_BadFormula => k_is)
    (case a_PARTS => k_is)
    (case l_PARTS => k_is)
    (case y_PARTS => k_keys)
    (case w_PARTS => (first | k_is | decide | rfl))
    (case q_PARTS => (first | rfl | decide +kernel))
    (case v_PARTS_0 => k_is)
    (case v_PARTS_1 => k_is)
    (case v_PARTS_2 => k_is)
    (case v_PARTS_3 => k_is)
    (case z_len => k_is)
    (case z_range => k_is)
    (case z_int => k_is)
    (case z_str => k_is)
    (case z_bool => k_is)
    (case z_list => k_is)
    (case z_tuple => k_is)
    (case z_dict => k_is)
    (case z_sorted => k_is)
    (case z_isinstance => k_is)
    (case z_min => k_is)
    (case z_max => k_is)
    (case z_ValueError => k_is)
    (case z_abs => k_is)
    (case z_any => k_is)
    (case z_reversed => k_is)
    (case lc => k_is)
    (case va => (first | exact rfl | decide))
    (case vb => (first | exact rfl | decide))
    (case vc => (first | exact rfl | decide))
    (case vd => (first | exact rfl | decide))
    (case ve => (first | exact rfl | decide))
    (case vf => (first | exact rfl | decide))
    (case vn => decide)
    (case nP => (first | exact rfl | decide | with_unfolding_all rfl))
#print axioms PySem.Challenge.cw_undotable_k09_refused_and_nothing_change_holds

