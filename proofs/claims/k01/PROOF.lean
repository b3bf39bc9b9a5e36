import PyProof.Rows.All
import Wide.All
import OpenK.AllK
import Wide.FinOn
import HandS.ForMost
import HandS.ForExc
import HandS.IsInst
import HandS.StrMore
import HandS.RaiseMore
import HandS.Replace
import HandS.Flow
import HandS.Codes
import HandS.FStr
import HandS.DictComp
import HandS.Conv
import HandS.Star
import HandS.More
import KE.IntTextText
import HandS.ExcIs
import HandS.ExcOwn
import HandS.Dict
import HandS.Lambda
import HandS.EndOwn
import PySem.Challenge.RW_undotable_k01_cells
set_option Elab.async false
set_option maxRecDepth 100000
set_option maxHeartbeats 4000000
set_option linter.all false
set_option exponentiation.threshold 2000
namespace U
open PySem L2

/-! ### a def under its name -/
structure Cal (P : Program) (w : World) (K : PySem.W.Frag) (mg : Str → Option Value) (base : Heap) (k : Nat) (x : Str) (ps : List Str) (sp : Sp) : Prop where
  ex : ∃ (f : Addr) (fd : FuncData), FnOk P w K mg base CX0 k f fd ps sp ∧ mg x = some (.ref f) ∧ PySem.W.keepIn K (.ref f) = true ∧ Binds K fd ps []
theorem Cal.mono {P : Program} {w : World} {K : PySem.W.Frag} {mg : Str → Option Value} {base : Heap} {j k : Nat} {x : Str} {ps : List Str} {sp : Sp} (c : Cal P w K mg base j x ps sp) (h : j ≤ k) : Cal P w K mg base k x ps sp := by
  obtain ⟨f, fd, F, a, b, d⟩ := c.ex
  exact ⟨f, fd, F.mono h, a, b, d⟩
theorem Cal.imp {P : Program} {w : World} {K : PySem.W.Frag} {mg : Str → Option Value} {base : Heap} {k : Nat} {x : Str} {ps : List Str} {sp sp' : Sp} (c : Cal P w K mg base k x ps sp) (h : ∀ vs H Q E, sp' vs H Q E → sp vs H Q E) : Cal P w K mg base k x ps sp' := by
  obtain ⟨f, fd, F, a, b, d⟩ := c.ex
  exact ⟨f, fd, F.imp h, a, b, d⟩
def tCal (sp : Sp) (E : XK) (t : TA) : TE := fun σ H Q => t σ H fun vs H1 => sp vs H1 Q E
theorem tCal_eq (sp : Sp) (E : XK) (t : TA) : tCall sp [] E t = tCal sp E t := by
  funext σ H Q
  unfold tCall tCal
  have e : (fun (vs : List V) (H1 : Hp) => sp (vs ++ []) H1 Q E) = fun vs H1 => sp vs H1 Q E := by
    funext vs H1
    rw [List.append_nil]
  rw [e]
section
variable {X : Cx} {k : Nat} {x : Str} {ps : List Str} {sp : Sp} {p pos : Pos} {e : Expr} {es : List Expr} {t : TA}
theorem pc_c (c : Cal X.prog X.w X.K X.mg X.base k x ps sp) (hr : Room k X.A) (hg : Gl X x) (ha : PA X (e :: es) t)
    (hdb : (x == ("__debug__" : Str)) = false := by decide) (he : starEach (e :: es) X.env = (false, eval e X.env) :: starEach es X.env := by rfl) (hpl : (backTo pos (starEach es X.env)).any (·.1) = false := by rfl) :
    PE X (.Call (.Name x p) (e :: es) [] pos) (tCal sp E0 t) := by
  obtain ⟨f, fd, F, hm, kp, b⟩ := c.ex
  rw [← tCal_eq]
  exact pe_call F hr hg hm kp b .nil pass0 ha hdb he hpl
end
/-- what the builtins' names hold: nothing of the module's own -/
structure Bt (mg : Str → Option Value) : Prop where
  len : mg "len" = none
  range : mg "range" = none
  int : mg "int" = none
  str : mg "str" = none
  bool : mg "bool" = none
  list : mg "list" = none
  tuple : mg "tuple" = none
  dict : mg "dict" = none
  sorted : mg "sorted" = none
  isinstance : mg "isinstance" = none
  min : mg "min" = none
  max : mg "max" = none
  ValueError : mg "ValueError" = none
  abs : mg "abs" = none
theorem nomarkIn (b : Expr) {op : CmpOp} (h : behindInMarks op b = false := by rfl) : behindInMarks op b = false := h

theorem cmulR {i j : Int} (h1 : -(2 ^ 64) < j) (h2 : j < 2 ^ 64) : CMul i j := .inr ⟨h1, h2⟩
theorem cmulL {i j : Int} (h1 : -(2 ^ 64) < i) (h2 : i < 2 ^ 64) : CMul i j := .inl ⟨h1, h2⟩
theorem at0 {α : Type} {x : α} {r : List α} : atI (x :: r) 0 = some x := by
  have h : atI (x :: r) ((0 : Nat) : Int) = some x := atI_nat rfl
  exact h
theorem ix0 {x : V} {r : List V} : ixN (x :: r).length 0 = some 0 := by
  unfold ixN
  rw [if_pos (by decide), if_pos (by simp only [List.length_cons]; omega)]
  rfl
theorem sq0 {x : V} {r : List V} : seqIndex? 0 (x :: r).length = some 0 := by
  simp [seqIndex?]
theorem yes_ {σ : L2.St} {H : Hp} {A B : Hp → Prop} (h : A H) : tYes σ H (fun b H3 => if b = true then A H3 else B H3) := by
  show if true = true then A H else B H
  rw [if_pos rfl]
  exact h
/-- x or y, as a test: both ways meet -/
theorem or_join {A B Y : Prop} {a b : Bool} (hY : (if b = true then A else B) → Y) (h1 : (a || b) = true → A) (h2 : (a || b) = false → B) : if a = true then (if true = true then A else B) else Y := by
  cases a with
  | true => exact iteT (B := Y) (by rw [if_pos rfl]; exact h1 rfl)
  | false =>
    refine iteF (hY ?_)
    cases b with
    | true => exact iteT (h1 rfl)
    | false => exact iteF (h2 rfl)
theorem and_join {A B Y : Prop} {a b : Bool} (hY : (if b = true then A else B) → Y) (h1 : (a && b) = true → A) (h2 : (a && b) = false → B) : if a = true then Y else (if false = true then A else B) := by
  cases a with
  | false =>
    rw [if_neg Bool.false_ne_true, if_neg Bool.false_ne_true]
    exact h2 rfl
  | true =>
    rw [if_pos rfl]
    refine hY ?_
    cases b with
    | true => exact iteT (h1 rfl)
    | false => exact iteF (h2 rfl)
theorem dec_i {i j : Int} : decide (V.int i = V.int j) = decide (i = j) := by
  by_cases h : i = j
  · subst h; simp
  · rw [decide_eq_false h, decide_eq_false fun e => h (V.int.inj e)]
theorem dec_s {i j : Str} : decide (V.str i = V.str j) = decide (i = j) := by
  by_cases h : i = j
  · subst h; simp
  · rw [decide_eq_false h, decide_eq_false fun e => h (V.str.inj e)]
/-! ### heaps -/
theorem same_new {H : Hp} {p : Addr} (h : H p = none) (o : HO) : Same H (upd H p o) := fun b u q => by rw [upd_ne (ne_of_none q h)]; exact q
/-- all but what stands at b and l is as it was -/
def Keep (b l : Addr) (H H' : Hp) : Prop := ∀ c o, H c = some o → c ≠ b → c ≠ l → H' c = some o
theorem Keep.refl (b l : Addr) (H : Hp) : Keep b l H H := fun _ _ h _ _ => h
theorem Keep.trans {b l : Addr} {H H1 H2 : Hp} (x : Keep b l H H1) (y : Keep b l H1 H2) : Keep b l H H2 := fun c o h n m => y c o (x c o h n m) n m
theorem Keep.of {b l : Addr} {H H' : Hp} (s : Same H H') : Keep b l H H' := fun c o h _ _ => s c o h
theorem Keep.free {b l : Addr} {H H' : Hp} (x : Keep b l H H') {c : Addr} (hb : c ≠ b) (hl : c ≠ l) (h : H' c = none) : H c = none := by
  cases q : H c with
  | none => rfl
  | some o =>
    rw [x c o q hb hl] at h
    cases h
/-! ### the box of the script's numbers -/
structure Box (H : Hp) (b l : Addr) : Prop where
  ex : ∃ (s : Int) (ns : List Int), H b = some (.lst [.ref l, .int s]) ∧ H l = some (.lst (ns.map V.int)) ∧ 0 ≤ s ∧ s < 2147483647 ∧ ns.length ≤ 63
theorem Box.ne {H : Hp} {b l : Addr} (B : Box H b l) : b ≠ l := by
  obtain ⟨s, ns, h1, h2, _⟩ := B.ex
  refine ne_of h1 h2 fun e => ?_
  cases ns with
  | nil => cases e
  | cons a r => cases e
theorem Box.at_b {H : Hp} {b l : Addr} (B : Box H b l) : ∃ xs, H b = some (.lst xs) := by
  obtain ⟨s, ns, h1, h2, _⟩ := B.ex
  exact ⟨_, h1⟩
theorem Box.at_l {H : Hp} {b l : Addr} (B : Box H b l) : ∃ xs, H l = some (.lst xs) := by
  obtain ⟨s, ns, h1, h2, _⟩ := B.ex
  exact ⟨_, h2⟩
theorem Box.keep {H H' : Hp} {b l : Addr} (B : Box H b l) (s : Same H H') : Box H' b l := by
  obtain ⟨z, ns, h1, h2, h3⟩ := B.ex
  exact ⟨z, ns, s _ _ h1, s _ _ h2, h3⟩
/-- what is no list stands beside the box -/
theorem Box.off {H : Hp} {b l c : Addr} {o : HO} (B : Box H b l) (h : H c = some o) (n : ∀ xs, o ≠ .lst xs) : c ≠ b ∧ c ≠ l := by
  obtain ⟨xs, h1⟩ := B.at_b
  obtain ⟨ys, h2⟩ := B.at_l
  exact ⟨ne_of h h1 (n xs), ne_of h h2 (n ys)⟩
theorem Box.new {H : Hp} {b l c : Addr} (B : Box H b l) (h : H c = none) : c ≠ b ∧ c ≠ l := by
  obtain ⟨xs, h1⟩ := B.at_b
  obtain ⟨ys, h2⟩ := B.at_l
  exact ⟨(ne_of_none h1 h).symm, (ne_of_none h2 h).symm⟩

/-! ### data -/
theorem dp_ints (K : PySem.W.Frag) (H : Hp) : ∀ ns : List Int, DpAll K H (ns.map V.int) (ns.map PyData.int)
  | [] => .nil
  | n :: r => .cons (.int n) (dp_ints K H r)
theorem lay_ints : ∀ ns : List Int, PyData.canLayAll0 (ns.map PyData.int) = true
  | [] => by simp [PyData.canLayAll0]
  | n :: r => by
    have := lay_ints r
    simp [PyData.canLayAll0, PyData.canLay0, this]
theorem depth_ints : ∀ ns : List Int, PyData.depthAll (ns.map PyData.int) ≤ 1
  | [] => by simp [PyData.depthAll]
  | n :: r => by
    have := depth_ints r
    simp [PyData.depthAll, PyData.depth]
    omega
theorem shaped_ints (ns : List Int) : SeqAt.shaped (.list (ns.map PyData.int)) = true := by
  unfold SeqAt.shaped
  have h := lay_ints ns
  have d := depth_ints ns
  simp [PyData.canLay0, h, PyData.depth]
  omega
theorem shaped_nil : SeqAt.shaped (.list []) = true := by decide
theorem eqv_nil (ds : List PyData) : PyData.eqv (.list ds) (.list []) = ds.isEmpty := by
  cases ds <;> simp [PyData.eqv, PyData.eqvAll]

theorem sqT_ty {K : PySem.W.Frag} {H : Hp} {a : Addr} {xs : List V} (h : SqT K H a xs) : TyX K H (.ref a) (.type "tuple") := by
  rcases h with (h | ⟨o, h⟩) | ⟨o, its, n, h1, h2, _⟩
  · exact .base (.tup h)
  · exact .fTuple h
  · exact .kTuple h1 h2
theorem sqL_ty {K : PySem.W.Frag} {H : Hp} {a : Addr} {xs : List V} (h : SqL K H a xs) : TyX K H (.ref a) (.type "list") := by
  rcases h with (h | ⟨o, h⟩) | ⟨o, its, n, h1, h2, _⟩
  · exact .base (.lst h)
  · exact .base (.frz h)
  · exact .kList h1 h2
def tyName : PyData → String
  | .none => "NoneType"
  | .bool _ => "bool"
  | .int _ => "int"
  | .str _ => "str"
  | .list _ => "list"
  | .tuple _ => "tuple"
  | .dict _ => "dict"
theorem dp_ty {K : PySem.W.Frag} {H : Hp} {x : V} {d : PyData} (h : Dp K H x d) : TyX K H x (.type (tyName d)) := by
  cases h with
  | non => exact .base .non
  | bl b => exact .base (.bl b)
  | int i => exact .base (.int i)
  | str z => exact .base (.str z)
  | lst h _ => exact sqL_ty h
  | tup h _ => exact sqT_ty h
theorem k_NoneType_bool : kitB "NoneType" "bool" = some false := by decide +kernel
theorem k_NoneType_int : kitB "NoneType" "int" = some false := by decide +kernel
theorem k_NoneType_str : kitB "NoneType" "str" = some false := by decide +kernel
theorem k_NoneType_list : kitB "NoneType" "list" = some false := by decide +kernel
theorem k_NoneType_tuple : kitB "NoneType" "tuple" = some false := by decide +kernel
theorem k_NoneType_dict : kitB "NoneType" "dict" = some false := by decide +kernel
theorem k_bool_bool : kitB "bool" "bool" = some true := by decide +kernel
theorem k_bool_int : kitB "bool" "int" = some true := by decide +kernel
theorem k_bool_str : kitB "bool" "str" = some false := by decide +kernel
theorem k_bool_list : kitB "bool" "list" = some false := by decide +kernel
theorem k_bool_tuple : kitB "bool" "tuple" = some false := by decide +kernel
theorem k_bool_dict : kitB "bool" "dict" = some false := by decide +kernel
theorem k_int_bool : kitB "int" "bool" = some false := by decide +kernel
theorem k_int_int : kitB "int" "int" = some true := by decide +kernel
theorem k_int_str : kitB "int" "str" = some false := by decide +kernel
theorem k_int_list : kitB "int" "list" = some false := by decide +kernel
theorem k_int_tuple : kitB "int" "tuple" = some false := by decide +kernel
theorem k_int_dict : kitB "int" "dict" = some false := by decide +kernel
theorem k_str_bool : kitB "str" "bool" = some false := by decide +kernel
theorem k_str_int : kitB "str" "int" = some false := by decide +kernel
theorem k_str_str : kitB "str" "str" = some true := by decide +kernel
theorem k_str_list : kitB "str" "list" = some false := by decide +kernel
theorem k_str_tuple : kitB "str" "tuple" = some false := by decide +kernel
theorem k_str_dict : kitB "str" "dict" = some false := by decide +kernel
theorem k_list_bool : kitB "list" "bool" = some false := by decide +kernel
theorem k_list_int : kitB "list" "int" = some false := by decide +kernel
theorem k_list_str : kitB "list" "str" = some false := by decide +kernel
theorem k_list_list : kitB "list" "list" = some true := by decide +kernel
theorem k_list_tuple : kitB "list" "tuple" = some false := by decide +kernel
theorem k_list_dict : kitB "list" "dict" = some false := by decide +kernel
theorem k_tuple_bool : kitB "tuple" "bool" = some false := by decide +kernel
theorem k_tuple_int : kitB "tuple" "int" = some false := by decide +kernel
theorem k_tuple_str : kitB "tuple" "str" = some false := by decide +kernel
theorem k_tuple_list : kitB "tuple" "list" = some false := by decide +kernel
theorem k_tuple_tuple : kitB "tuple" "tuple" = some true := by decide +kernel
theorem k_tuple_dict : kitB "tuple" "dict" = some false := by decide +kernel
theorem k_dict_bool : kitB "dict" "bool" = some false := by decide +kernel
theorem k_dict_int : kitB "dict" "int" = some false := by decide +kernel
theorem k_dict_str : kitB "dict" "str" = some false := by decide +kernel
theorem k_dict_list : kitB "dict" "list" = some false := by decide +kernel
theorem k_dict_tuple : kitB "dict" "tuple" = some false := by decide +kernel
theorem k_dict_dict : kitB "dict" "dict" = some true := by decide +kernel
/-- isinstance of data -/
theorem isi_dp {K : PySem.W.Frag} {H : Hp} {x : V} {d : PyData} {Q : VK} (h : Dp K H x d) (T : String) {b : Bool} (hb : kitB (tyName d) T = some b) (q : Q (.bl b) H) : rIsi K [x, .ty T] H Q :=
  ⟨x, .ty T, _, _, b, rfl, .ty T, dp_ty h, kit_ty hb, q⟩
theorem dpAll_get {K : PySem.W.Frag} {H : Hp} : ∀ {xs : List V} {ds : List PyData}, DpAll K H xs ds → xs.length = ds.length ∧ ∀ (i : Nat) (x : V), xs[i]? = some x → ∃ d, ds[i]? = some d ∧ Dp K H x d
  | _, _, .nil => ⟨rfl, fun i x h => by simp at h⟩
  | _, _, .cons h t => by
    obtain ⟨e, g⟩ := dpAll_get t
    refine ⟨by simp [e], fun i x hx => ?_⟩
    cases i with
    | zero =>
      simp at hx
      subst hx
      exact ⟨_, rfl, h⟩
    | succ i =>
      obtain ⟨d, h1, h2⟩ := g i x (by simpa using hx)
      exact ⟨d, by simpa using h1, h2⟩
theorem dpAll_at {K : PySem.W.Frag} {H : Hp} {xs : List V} {ds : List PyData} (h : DpAll K H xs ds) {i : Nat} (hi : i < ds.length) : ∃ x, atI xs (i : Int) = some x ∧ Dp K H x ds[i] := by
  obtain ⟨e, g⟩ := dpAll_get h
  have hx : xs[i]? = some (xs[i]'(by omega)) := List.getElem?_eq_getElem _
  obtain ⟨d, h1, h2⟩ := g i _ hx
  rw [List.getElem?_eq_getElem hi] at h1
  cases h1
  exact ⟨_, atI_nat hx, h2⟩
theorem depth_get : ∀ {ds : List PyData} {i : Nat} (h : i < ds.length), PyData.depth ds[i] ≤ PyData.depthAll ds
  | [], _, h => by simp at h
  | d :: r, 0, _ => by simp [PyData.depthAll]; omega
  | d :: r, i + 1, h => by
    have := depth_get (ds := r) (i := i) (by simpa using h)
    simp [PyData.depthAll]
    omega
mutual
def szOk : PyData → Bool
  | .list xs => decide (xs.length ≤ 1000000) && szAll xs
  | .tuple xs => decide (xs.length ≤ 1000000) && szAll xs
  | _ => true
def szAll : List PyData → Bool
  | [] => true
  | x :: xs => szOk x && szAll xs
end
theorem szAll_get : ∀ {ds : List PyData} {i : Nat} (h : i < ds.length), szAll ds = true → szOk ds[i] = true
  | [], _, h, _ => by simp at h
  | d :: r, 0, _, q => by
    simp only [szAll, Bool.and_eq_true] at q
    exact q.1
  | d :: r, i + 1, h, q => by
    simp only [szAll, Bool.and_eq_true] at q
    have := szAll_get (ds := r) (i := i) (by simpa using h) q.2
    simpa using this
def spAlike (K : PySem.W.Frag) (n : Nat) : Sp := fun vs H Q _ => ∃ (x y : V) (d : PyData), vs = [x, y] ∧ Dp K H x d ∧ Dp K H y d ∧ PyData.depth d < n ∧ szOk d = true ∧ Q (.bl true) H
/-! ### the law's helpers: promises -/
def spBegun (K : PySem.W.Frag) : Sp := fun vs H Q _ => ∃ (a : Addr) (ns : List Int), vs = [.ref a] ∧ SqL K H a (ns.map V.int) ∧ ns.length ≤ 63 ∧
  ∀ (b l : Addr) (H' : Hp), Same H H' → H b = none → H l = none → Box H' b l → Q (.ref b) H'
def spTake : Sp := fun vs H Q _ => ∃ (b l : Addr) (m : Int), vs = [.ref b, .int m] ∧ Box H b l ∧ 0 < m ∧ m < 1073741824 ∧
  ∀ (r : Int) (H' : Hp), 0 ≤ r → r < m → Box H' b l → Keep b l H H' → Q (.int r) H'
/-! ### cells -/
structure Cel where
  c : Nat
  r : Nat
  hc : c < 6
  hr : r < 9
  deriving DecidableEq
def Cel.l (x : Cel) : List Nat := [97 + x.c, 49 + x.r]
def Cel.s (x : Cel) : Str := SX.S x.l
theorem Cel.len (x : Cel) : x.s.length = 2 := rfl
theorem six {p : Int → Prop} {i : Int} (h0 : 0 ≤ i) (h1 : i < 6) (h : ∀ k : Nat, k < 6 → p k) : p i := by
  have e : i = (i.toNat : Int) := by omega
  rw [e]
  exact h _ (by omega)
theorem at_abc {i : Int} (h0 : 0 ≤ i) (h1 : i < 6) : atI ("abcdef" : Str).cps.toList i = some (97 + i.toNat) := by
  have e : ("abcdef" : Str).cps.toList = [97, 98, 99, 100, 101, 102] := by decide +kernel
  rw [e]
  have : i = 0 ∨ i = 1 ∨ i = 2 ∨ i = 3 ∨ i = 4 ∨ i = 5 := by omega
  rcases this with h | h | h | h | h | h <;> subst h <;> rfl
theorem at_abc3 {i : Int} (h0 : 0 ≤ i) (h1 : i < 3) : atI ("abc" : Str).cps.toList i = some (97 + i.toNat) := by
  have e : ("abc" : Str).cps.toList = [97, 98, 99] := by decide +kernel
  rw [e]
  have : i = 0 ∨ i = 1 ∨ i = 2 := by omega
  rcases this with h | h | h <;> subst h <;> rfl
theorem at_123 {i : Int} (h0 : 0 ≤ i) (h1 : i < 9) : atI ("123456789" : Str).cps.toList i = some (49 + i.toNat) := by
  have e : ("123456789" : Str).cps.toList = [49, 50, 51, 52, 53, 54, 55, 56, 57] := by decide +kernel
  rw [e]
  have : i = 0 ∨ i = 1 ∨ i = 2 ∨ i = 3 ∨ i = 4 ∨ i = 5 ∨ i = 6 ∨ i = 7 ∨ i = 8 := by omega
  rcases this with h | h | h | h | h | h | h | h | h <;> subst h <;> rfl
theorem at_1233 {i : Int} (h0 : 0 ≤ i) (h1 : i < 3) : atI ("123" : Str).cps.toList i = some (49 + i.toNat) := by
  have e : ("123" : Str).cps.toList = [49, 50, 51] := by decide +kernel
  rw [e]
  have : i = 0 ∨ i = 1 ∨ i = 2 := by omega
  rcases this with h | h | h <;> subst h <;> rfl
theorem Cel.at0 (x : Cel) : atI x.s.cps.toList 0 = some (97 + x.c) := rfl
theorem Cel.at1 (x : Cel) : atI x.s.cps.toList 1 = some (49 + x.r) := rfl
theorem find_abc : ∀ {c : Nat}, c < 6 → Txt.find "abcdef" (SX.S [97 + c]) = (c : Int) := by decide +kernel
theorem int_one : ∀ {r : Nat}, r < 9 → PySem.intText? (SX.S [49 + r]) = some ((r : Int) + 1) := by decide +kernel
theorem str_one : ∀ {r : Nat}, r < 9 → Str.ofString (toString ((r : Int) + 1)) = SX.S [49 + r] := by decide +kernel
theorem small {n : Nat} (h : n ≤ 1000) : n ≤ sizeLine := Nat.le_of_lt (small1000 h)
theorem log_small {i : Int} (h0 : 0 ≤ i) (h1 : i ≤ 1000) : i.natAbs.log2 < 1920 := by
  have := Nat.log2_le_self i.natAbs
  omega
/-- two ints sorted -/
theorem sort2 {x y : Int} {ns : List Int} (h : ns.Perm [x, y]) (p : ns.Pairwise (· ≤ ·)) : ns = [min x y, max x y] := by
  have l := h.length_eq
  match ns, l with
  | [a, b], _ =>
    have ab : a ≤ b := by simpa using p
    have m : a = x ∧ b = y ∨ a = y ∧ b = x := by
      have ha : a ∈ [x, y] := h.mem_iff.mp (by simp)
      have hb : b ∈ [x, y] := h.mem_iff.mp (by simp)
      have hx : x ∈ [a, b] := h.mem_iff.mpr (by simp)
      have hy : y ∈ [a, b] := h.mem_iff.mpr (by simp)
      simp at ha hb hx hy
      omega
    rcases m with ⟨rfl, rfl⟩ | ⟨rfl, rfl⟩
    · rw [Int.min_eq_left ab, Int.max_eq_right ab]
    · rw [Int.min_eq_right ab, Int.max_eq_left ab]
/-- the stretch of two cells, row by row -/
def rowL (a n r : Nat) : List Str := (List.range' a n).map fun k => SX.S [97 + k, 49 + r]
def rowsL (a n b m : Nat) : List Str := (List.range' b m).flatMap fun r => rowL a n r
def strL (x y : Cel) : List Str := rowsL (min x.c y.c) (max x.c y.c + 1 - min x.c y.c) (min x.r y.r) (max x.r y.r + 1 - min x.r y.r)
theorem rowL_succ (a n r : Nat) : rowL a (n + 1) r = rowL a n r ++ [SX.S [97 + (a + n), 49 + r]] := by
  unfold rowL
  rw [List.range'_concat, List.map_append]
  simp
theorem rowsL_succ (a n b m : Nat) : rowsL a n b (m + 1) = rowsL a n b m ++ rowL a n (b + m) := by
  unfold rowsL
  rw [List.range'_concat, List.flatMap_append]
  simp
theorem rowL_len (a n r : Nat) : (rowL a n r).length = n := by
  unfold rowL
  rw [List.length_map, List.length_range']
theorem rowsL_len (a n b : Nat) : ∀ m, (rowsL a n b m).length = n * m
  | 0 => rfl
  | m + 1 => by rw [rowsL_succ, List.length_append, rowsL_len a n b m, rowL_len, Nat.mul_succ]
/-- a cell's text -/
def spCell : Sp := fun vs H Q _ => ∃ (b l : Addr), vs = [.ref b] ∧ Box H b l ∧ ∀ (c : Cel) (H' : Hp), Box H' b l → Keep b l H H' → Q (.str c.s) H'
def spStretchL : Sp := fun vs H Q _ => ∃ (x y : Cel), vs = [.str x.s, .str y.s] ∧ ∀ (p : Addr) (H' : Hp), H p = none → Same H H' → H' p = some (.lst ((strL x y).map V.str)) → Q (.ref p) H'
/-! ### contents -/
inductive W3 where
  | add | sub | mul
  deriving DecidableEq
def W3.s : W3 → Str
  | .add => "add"
  | .sub => "sub"
  | .mul => "mul"
inductive Part where
  | num (n : Int) | cel (c : Cel) | sum (c d : Cel) | op (w : W3) (p q : Part) | pick (p q r t : Part)
  deriving DecidableEq
/-- all numbers have at most six figures -/
def Part.good : Part → Prop
  | .num n => -1000000 < n ∧ n < 1000000
  | .cel _ => True
  | .sum _ _ => True
  | .op _ p q => p.good ∧ q.good
  | .pick p q r t => p.good ∧ q.good ∧ r.good ∧ t.good
def Part.hgt : Part → Nat
  | .num _ => 1
  | .cel _ => 1
  | .sum _ _ => 1
  | .op _ p q => max p.hgt q.hgt + 1
  | .pick p q r t => max (max p.hgt q.hgt) (max r.hgt t.hgt) + 1
theorem Part.hgt_pos (p : Part) : 1 ≤ p.hgt := by cases p <;> simp [Part.hgt]
/-- a part as it lies: tuples -/
def PA (K : PySem.W.Frag) (H : Hp) : Part → V → Prop
  | .num n, v => ∃ a, v = .ref a ∧ SqT K H a [.str "num", .int n]
  | .cel c, v => ∃ a, v = .ref a ∧ SqT K H a [.str "cell", .str c.s]
  | .sum c d, v => ∃ a, v = .ref a ∧ SqT K H a [.str "sum", .str c.s, .str d.s]
  | .op w p q, v => ∃ a x y, v = .ref a ∧ SqT K H a [.str w.s, x, y] ∧ PA K H p x ∧ PA K H q y
  | .pick p q r t, v => ∃ a x y z u, v = .ref a ∧ SqT K H a [.str "pick", x, y, z, u] ∧ PA K H p x ∧ PA K H q y ∧ PA K H r z ∧ PA K H t u
/-- tuples stay -/
def Tk (K : PySem.W.Frag) (H H' : Hp) : Prop := ∀ a xs, SqT K H a xs → SqT K H' a xs
theorem Tk.refl (K : PySem.W.Frag) (H : Hp) : Tk K H H := fun _ _ h => h
theorem Tk.trans {K : PySem.W.Frag} {H H1 H2 : Hp} (x : Tk K H H1) (y : Tk K H1 H2) : Tk K H H2 := fun a xs h => y a xs (x a xs h)
theorem Tk.same {K : PySem.W.Frag} {H H' : Hp} (s : Same H H') : Tk K H H' := fun a xs h => by
  rcases h with (h | ⟨o, h⟩) | h
  · exact .inl (.inl (s _ _ h))
  · exact .inl (.inr ⟨o, s _ _ h⟩)
  · exact .inr h
theorem Tk.keep {K : PySem.W.Frag} {H H' : Hp} {b l : Addr} (B : Box H b l) (k : Keep b l H H') : Tk K H H' := fun a xs h => by
  rcases h with (h | ⟨o, h⟩) | h
  · have q := B.off h fun _ e => by cases e
    exact .inl (.inl (k _ _ h q.1 q.2))
  · have q := B.off h fun _ e => by cases e
    exact .inl (.inr ⟨o, k _ _ h q.1 q.2⟩)
  · exact .inr h
theorem PA.tk {K : PySem.W.Frag} {H H' : Hp} (t : Tk K H H') : ∀ {p : Part} {v : V}, PA K H p v → PA K H' p v
  | .num n, v, ⟨a, e, h⟩ => ⟨a, e, t _ _ h⟩
  | .cel c, v, ⟨a, e, h⟩ => ⟨a, e, t _ _ h⟩
  | .sum c d, v, ⟨a, e, h⟩ => ⟨a, e, t _ _ h⟩
  | .op w p q, v, ⟨a, x, y, e, h, h1, h2⟩ => ⟨a, x, y, e, t _ _ h, PA.tk t h1, PA.tk t h2⟩
  | .pick p q r s, v, ⟨a, x, y, z, u, e, h, h1, h2, h3, h4⟩ => ⟨a, x, y, z, u, e, t _ _ h, PA.tk t h1, PA.tk t h2, PA.tk t h3, PA.tk t h4⟩
/-- a content: nothing, or a part -/
def CA (K : PySem.W.Frag) (H : Hp) : Option Part → V → Prop
  | none, v => v = .non
  | some p, v => PA K H p v
theorem CA.tk {K : PySem.W.Frag} {H H' : Hp} (t : Tk K H H') : ∀ {p : Option Part} {v : V}, CA K H p v → CA K H' p v
  | none, _, h => h
  | some _, _, h => PA.tk t h
def spPart (K : PySem.W.Frag) (n : Nat) : Sp := fun vs H Q _ => ∃ (b l : Addr) (d : Int), vs = [.ref b, .int d] ∧ Box H b l ∧ 0 ≤ d ∧ d.toNat < n ∧
  ∀ (p : Part) (v : V) (H' : Hp), p.good → p.hgt ≤ d.toNat + 1 → PA K H' p v → Box H' b l → Keep b l H H' → Q v H'
/-- a content that a text may stand for: no number within a formula alone -/
def goodC : Option Part → Nat → Prop
  | none, _ => True
  | some p, n => p.good ∧ p.hgt ≤ n
def spContent (K : PySem.W.Frag) (n : Nat) : Sp := fun vs H Q _ => ∃ (b l : Addr) (d : Int), vs = [.ref b, .int d] ∧ Box H b l ∧ 0 ≤ d ∧ d.toNat < n ∧
  ∀ (p : Option Part) (v : V) (H' : Hp), goodC p (d.toNat + 1) → CA K H' p v → Box H' b l → Keep b l H H' → Q v H'
/-! ### defs that may raise -/
structure CalX (P : Program) (w : World) (K : PySem.W.Frag) (mg : Str → Option Value) (base : Heap) (k : Nat) (x : Str) (ps : List Str) (sp : Sp) : Prop where
  ex : ∃ (f : Addr) (fd : FuncData), FnOk P w K mg base (L2.CX P w) k f fd ps sp ∧ mg x = some (.ref f) ∧ PySem.W.keepIn K (.ref f) = true ∧ Binds K fd ps []
theorem CalX.mono {P : Program} {w : World} {K : PySem.W.Frag} {mg : Str → Option Value} {base : Heap} {j k : Nat} {x : Str} {ps : List Str} {sp : Sp} (c : CalX P w K mg base j x ps sp) (h : j ≤ k) : CalX P w K mg base k x ps sp := by
  obtain ⟨f, fd, F, a, b, d⟩ := c.ex
  exact ⟨f, fd, F.mono h, a, b, d⟩
section
variable {X : Cx} {k : Nat} {x : Str} {ps : List Str} {sp : Sp} {p pos : Pos} {e : Expr} {es : List Expr} {t : TA} {E : XK}
theorem pc_x (c : CalX X.prog X.w X.K X.mg X.base k x ps sp) (hr : Room k X.A) (hg : Gl X x) (hx : Passes (L2.CX X.prog X.w) X E) (ha : L2.PA X (e :: es) t)
    (hdb : (x == ("__debug__" : Str)) = false := by decide) (he : starEach (e :: es) X.env = (false, eval e X.env) :: starEach es X.env := by rfl) (hpl : (backTo pos (starEach es X.env)).any (·.1) = false := by rfl) :
    PE X (.Call (.Name x p) (e :: es) [] pos) (tCal sp E t) := by
  obtain ⟨f, fd, F, hm, kp, b⟩ := c.ex
  rw [← tCal_eq]
  exact pe_call F hr hg hm kp b .nil hx ha hdb he hpl
end
/-- a constant of the module that is a text, an int -/
def GStr (mg : Str → Option Value) (x z : Str) : Prop := ∃ t, mg x = some (.str z t)
def GInt (mg : Str → Option Value) (x : Str) (i : Int) : Prop := ∃ t, mg x = some (.int i t)
theorem pe_gs {X : Cx} {x z : Str} {pos : Pos} (h : GStr X.mg x z) (hg : Gl X x) (hd : (x == ("__debug__" : Str)) = false := by decide) : PE X (.Name x pos) (tC (.str z)) := by
  obtain ⟨t, e⟩ := h
  exact pe_glob hg e ⟨t, rfl⟩ hd
theorem pe_gi {X : Cx} {x : Str} {i : Int} {pos : Pos} (h : GInt X.mg x i) (hg : Gl X x) (hd : (x == ("__debug__" : Str)) = false := by decide) : PE X (.Name x pos) (tC (.int i)) := by
  obtain ⟨t, e⟩ := h
  exact pe_glob hg e ⟨t, rfl⟩ hd
theorem pe_gr {X : Cx} {x : Str} {a : Addr} {pos : Pos} (h : X.mg x = some (.ref a)) (hg : Gl X x) (hd : (x == ("__debug__" : Str)) = false := by decide) : PE X (.Name x pos) (tC (.ref a)) := pe_glob hg h rfl hd
/-- an own exception class without an __init__ -/
structure ExcF (K : PySem.W.Frag) (mg : Str → Option Value) (x : Str) (C : Addr) : Prop where
  g : mg x = some (.ref C)
  k : PySem.W.keepIn K (.ref C) = true
  x : PySem.W.excIn K C [.type "ValueError", .type "Exception", .type "BaseException", .type "object"] "ValueError.__new__" = true
  b : PySem.W.subIn K (.ref C) (.type "BaseException") = some true
  t : PySem.W.typeIn K (.ref C) = some (.type "type")
theorem pmk_x {X : Cx} {x : Str} {C : Addr} {e : Expr} {ta : TE} {p pos : Pos} (E : ExcF X.K X.mg x C) (hg : Gl X x) (he : PE X e ta) (hs : starEach [e] X.env = (false, eval e X.env) :: starEach [] X.env := by rfl) (hdb : (x == ("__debug__" : Str)) = false := by decide) :
    PMk X (.Call (.Name x p) [e] [] pos) (fun σ H Q => ta σ H fun _ H1 => Q (.ref C) none H1) := SkE.pmk_own1 PySem.F.excBase_ValueError E.x E.g E.k (raises_own E.b E.t) hg he hs hdb
/-- a walk over a text's signs -/
theorem its_loop {x : Str} {H0 : Hp} {Qd : Hp → Prop} {body : V → Hp → (Hp → Prop) → Prop} (Pv : Nat → Hp → Prop) (h0 : Pv 0 H0) (hs : ∀ i c H, x.cps[i]? = some c → Pv i H → body (.str ⟨#[c]⟩) H (Pv (i + 1))) (hd : ∀ H, Pv x.cps.size H → Qd H) :
    ∃ W : Nat → Nat → Hp → Prop, (∃ m, W 0 m H0) ∧ ∀ i m H, W i m H → ((Its x).stop i H ∧ Qd H) ∨ ((Its x).go i H ∧ ∃ Nx : Hp → Prop, (∀ H', Nx H' → ∃ m', m' < m ∧ W (i + 1) m' H') ∧ ∀ v H', (Its x).yld i H v H' → body v H' Nx) := by
  refine ⟨fun i m H => m = x.cps.size - i ∧ i ≤ x.cps.size ∧ Pv i H, ⟨x.cps.size, by simp, Nat.zero_le _, h0⟩, ?_⟩
  rintro i m H ⟨rfl, hi, p⟩
  by_cases hlt : i < x.cps.size
  · refine .inr ⟨hlt, Pv (i + 1), fun H' p' => ⟨x.cps.size - (i + 1), by omega, rfl, hlt, p'⟩, fun v H' y => ?_⟩
    obtain ⟨rfl, c, hc, rfl⟩ := y
    exact hs i c _ hc p
  · have e : i = x.cps.size := by omega
    subst e
    exact .inl ⟨Nat.le_refl _, hd H p⟩
theorem wipe_out_ {σ : L2.St} {i : Nat} : ∀ {vs : List Nat} {x : Option V}, i ∈ vs → wipe (σ.set i x) vs = wipe σ vs
  | [], _, h => by simp at h
  | v :: vs, x, h => by
    show (wipe (σ.set i x) vs).set v none = (wipe σ vs).set v none
    rcases List.mem_cons.mp h with rfl | h
    · have c : ∀ (ws : List Nat) (τ : L2.St), (wipe (τ.set i x) ws).set i none = (wipe τ ws).set i none := by
        intro ws
        induction ws with
        | nil => intro τ; simp [wipe]
        | cons w ws ih =>
          intro τ
          show ((wipe (τ.set i x) ws).set w none).set i none = ((wipe τ ws).set w none).set i none
          by_cases e : w = i
          · subst e
            rw [List.set_set, List.set_set]
            exact ih τ
          · rw [List.set_comm _ _ e, ih τ, List.set_comm _ _ (Ne.symm e)]
      exact c vs σ
    · rw [wipe_out_ h]
theorem wipe_wipe {σ : L2.St} : ∀ {vs : List Nat}, wipe (wipe σ vs) vs = wipe σ vs
  | [] => rfl
  | v :: vs => by
    show (wipe ((wipe σ vs).set v none) vs).set v none = (wipe σ vs).set v none
    by_cases h : v ∈ vs
    · rw [wipe_out_ h, wipe_wipe]
    · have c : ∀ (ws : List Nat) (τ : L2.St), (wipe (τ.set v none) ws).set v none = (wipe τ ws).set v none := by
        intro ws
        induction ws with
        | nil => intro τ; simp [wipe]
        | cons w ws ih =>
          intro τ
          show ((wipe (τ.set v none) ws).set w none).set v none = ((wipe τ ws).set w none).set v none
          by_cases e : w = v
          · subst e
            rw [List.set_set, List.set_set]
            exact ih τ
          · rw [List.set_comm _ _ e, ih τ, List.set_comm _ _ (Ne.symm e)]
      rw [c, wipe_wipe]
theorem wipe_in {σ : L2.St} {vs : List Nat} {i : Nat} {x : Option V} (h : i ∈ vs) : wipe ((wipe σ vs).set i x) vs = wipe σ vs := by rw [wipe_out_ h, wipe_wipe]
end U

namespace U
open PySem L2
/-! ### texts as lists of signs -/
/-- a number's figures -/
def nl : Int → List Nat
  | .ofNat n => TL.numL n
  | .negSucc n => 45 :: TL.numL (n + 1)
def numS (n : Int) : Str := Str.ofString (toString n)
theorem numS_nl (n : Int) : numS n = SX.S (nl n) := by
  cases n with
  | ofNat n => exact SX.num_S n
  | negSucc n =>
    refine TL.ext_tl ?_
    have e : toString (Int.negSucc n) = "-" ++ toString ((n + 1 : Nat) : Int) := rfl
    have q := TL.tl_num (n + 1)
    unfold numS
    rw [e, TL.tl_ofString, String.toList_append, List.map_append]
    rw [TL.tl_ofString] at q
    rw [q]
    rfl
theorem nl_free {n : Int} {s : Nat} (h : s < 45 ∨ 57 < s ∨ s = 46 ∨ s = 47) : s ∉ nl n := by
  cases n with
  | ofNat n => exact TL.numL_free (by omega)
  | negSucc n =>
    intro hm
    rcases List.mem_cons.mp hm with e | e
    · omega
    · exact TL.numL_free (by omega) e
theorem nl_len {n : Int} (h0 : -1000000 < n) (h1 : n < 1000000) : (nl n).length ≤ 7 := by
  cases n with
  | ofNat n =>
    have := TL.numL_len (n := n) (k := 6) (by decide) (by simp only [Int.ofNat_eq_natCast] at h1; omega)
    show (TL.numL n).length ≤ 7
    omega
  | negSucc n =>
    have := TL.numL_len (n := n + 1) (k := 6) (by decide) (by omega)
    show (TL.numL (n + 1)).length + 1 ≤ 7
    omega
theorem nl_ne (n : Int) : nl n ≠ [] := by
  cases n with
  | ofNat n => exact TL.numL_ne n
  | negSucc n => exact List.cons_ne_nil _ _
def W3.l : W3 → List Nat
  | .add => [97, 100, 100]
  | .sub => [115, 117, 98]
  | .mul => [109, 117, 108]
theorem W3.s_l (w : W3) : w.s = SX.S w.l := by cases w <;> decide +kernel
def sumL : List Nat := [115, 117, 109]
def pickL : List Nat := [112, 105, 99, 107]
/-- the words of a part -/
def Part.wl : Part → List (List Nat)
  | .num n => [nl n]
  | .cel c => [c.l]
  | .sum c d => [sumL, c.l, d.l]
  | .op w p q => w.l :: (p.wl ++ q.wl)
  | .pick p q r t => pickL :: (p.wl ++ (q.wl ++ (r.wl ++ t.wl)))
theorem Part.wl_ne (p : Part) : p.wl ≠ [] := by cases p <;> exact List.cons_ne_nil _ _
def Part.tx (p : Part) : List Nat := TL.joinL [32] p.wl
theorem joinL_app {s : List Nat} : ∀ {xs ys : List (List Nat)}, xs ≠ [] → ys ≠ [] → TL.joinL s (xs ++ ys) = TL.joinL s xs ++ (s ++ TL.joinL s ys)
  | [], _, h, _ => absurd rfl h
  | [x], [], _, h => absurd rfl h
  | [x], y :: r, _, _ => rfl
  | x :: x2 :: r, ys, _, h => by
    show x ++ (s ++ TL.joinL s (x2 :: r ++ ys)) = (x ++ (s ++ TL.joinL s (x2 :: r))) ++ (s ++ TL.joinL s ys)
    rw [joinL_app (List.cons_ne_nil _ _) h]
    simp only [List.append_assoc]
def Part.kids : Part → List Part
  | .op _ p q => [p, q]
  | .pick p q r t => [p, q, r, t]
  | _ => []
def Part.word : Part → Str
  | .num _ => "num"
  | .cel _ => "cell"
  | .sum _ _ => "sum"
  | .op w _ _ => w.s
  | .pick _ _ _ _ => "pick"
def Part.isOp : Part → Bool
  | .op _ _ _ => true
  | .pick _ _ _ _ => true
  | _ => false
theorem Part.tx_op (w : W3) (p q : Part) : (Part.op w p q).tx = w.l ++ ([32] ++ TL.joinL [32] [p.tx, q.tx]) := by
  show TL.joinL [32] ([w.l] ++ (p.wl ++ q.wl)) = _
  rw [joinL_app (by simp) (by simp [p.wl_ne]), joinL_app p.wl_ne q.wl_ne]
  rfl
theorem Part.tx_pick (p q r t : Part) : (Part.pick p q r t).tx = pickL ++ ([32] ++ TL.joinL [32] [p.tx, q.tx, r.tx, t.tx]) := by
  show TL.joinL [32] ([pickL] ++ (p.wl ++ (q.wl ++ (r.wl ++ t.wl)))) = _
  rw [joinL_app (by simp) (by simp [p.wl_ne]), joinL_app p.wl_ne (by simp [q.wl_ne]), joinL_app q.wl_ne (by simp [r.wl_ne]), joinL_app r.wl_ne t.wl_ne]
  rfl
/-- how long a part's text is -/
theorem Part.tx_len : ∀ {p : Part}, p.good → p.tx.length + 8 ≤ 10 * 4 ^ p.hgt
  | .num n, h => by
    have := nl_len h.1 h.2
    show (nl n).length + 8 ≤ 40
    omega
  | .cel c, _ => by show 2 + 8 ≤ 40; omega
  | .sum c d, _ => by show 9 + 8 ≤ 40; omega
  | .op w p q, h => by
    have h1 := Part.tx_len h.1
    have h2 := Part.tx_len h.2
    have e1 : 4 ^ p.hgt ≤ 4 ^ (max p.hgt q.hgt) := Nat.pow_le_pow_right (by decide) (by omega)
    have e2 : 4 ^ q.hgt ≤ 4 ^ (max p.hgt q.hgt) := Nat.pow_le_pow_right (by decide) (by omega)
    have e3 : 4 ^ (Part.op w p q).hgt = 4 ^ (max p.hgt q.hgt) * 4 := by show 4 ^ (max p.hgt q.hgt + 1) = _; rw [Nat.pow_succ]
    have w3 : w.l.length = 3 := by cases w <;> rfl
    rw [Part.tx_op, e3]
    show (w.l ++ (32 :: (p.tx ++ (32 :: q.tx)))).length + 8 ≤ _
    simp only [List.length_append, List.length_cons]
    omega
  | .pick p q r t, h => by
    have h1 := Part.tx_len h.1
    have h2 := Part.tx_len h.2.1
    have h3 := Part.tx_len h.2.2.1
    have h4 := Part.tx_len h.2.2.2
    have e1 : 4 ^ p.hgt ≤ 4 ^ (max (max p.hgt q.hgt) (max r.hgt t.hgt)) := Nat.pow_le_pow_right (by decide) (by omega)
    have e2 : 4 ^ q.hgt ≤ 4 ^ (max (max p.hgt q.hgt) (max r.hgt t.hgt)) := Nat.pow_le_pow_right (by decide) (by omega)
    have e3 : 4 ^ r.hgt ≤ 4 ^ (max (max p.hgt q.hgt) (max r.hgt t.hgt)) := Nat.pow_le_pow_right (by decide) (by omega)
    have e4 : 4 ^ t.hgt ≤ 4 ^ (max (max p.hgt q.hgt) (max r.hgt t.hgt)) := Nat.pow_le_pow_right (by decide) (by omega)
    have e5 : 4 ^ (Part.pick p q r t).hgt = 4 ^ (max (max p.hgt q.hgt) (max r.hgt t.hgt)) * 4 := by show 4 ^ (max (max p.hgt q.hgt) (max r.hgt t.hgt) + 1) = _; rw [Nat.pow_succ]
    rw [Part.tx_pick, e5]
    show (pickL ++ (32 :: (p.tx ++ (32 :: (q.tx ++ (32 :: (r.tx ++ (32 :: t.tx)))))))).length + 8 ≤ _
    simp only [List.length_append, List.length_cons]
    have : pickL.length = 4 := rfl
    omega
theorem Part.tx_le {p : Part} (h : p.good) (n : p.hgt ≤ 8) : p.tx.length ≤ 700000 := by
  have h1 := Part.tx_len h
  have e : 4 ^ p.hgt ≤ 4 ^ 8 := Nat.pow_le_pow_right (by decide) n
  have e2 : (4 : Nat) ^ 8 = 65536 := by decide
  omega
theorem Part.kid_good {p q : Part} (h : p.good) (m : q ∈ p.kids) : q.good := by
  cases p with
  | op w a b =>
    simp only [Part.kids, List.mem_cons, List.not_mem_nil, or_false] at m
    rcases m with rfl | rfl
    · exact h.1
    · exact h.2
  | pick a b c d =>
    simp only [Part.kids, List.mem_cons, List.not_mem_nil, or_false] at m
    rcases m with rfl | rfl | rfl | rfl
    · exact h.1
    · exact h.2.1
    · exact h.2.2.1
    · exact h.2.2.2
  | _ => simp [Part.kids] at m
theorem Part.kid_hgt {p q : Part} (m : q ∈ p.kids) : q.hgt < p.hgt := by
  cases p with
  | op w a b =>
    simp only [Part.kids, List.mem_cons, List.not_mem_nil, or_false] at m
    show _ < max a.hgt b.hgt + 1
    rcases m with rfl | rfl <;> omega
  | pick a b c d =>
    simp only [Part.kids, List.mem_cons, List.not_mem_nil, or_false] at m
    show _ < max (max a.hgt b.hgt) (max c.hgt d.hgt) + 1
    rcases m with rfl | rfl | rfl | rfl <;> omega
  | _ => simp [Part.kids] at m
/-! ### parts as they lie, by word and kids -/
def PAs (K : PySem.W.Frag) (H : Hp) : List Part → List V → Prop
  | [], [] => True
  | p :: ps, x :: xs => PA K H p x ∧ PAs K H ps xs
  | _, _ => False
theorem PAs.tk {K : PySem.W.Frag} {H H' : Hp} (t : Tk K H H') : ∀ {ps : List Part} {xs : List V}, PAs K H ps xs → PAs K H' ps xs
  | [], [], _ => trivial
  | _ :: _, _ :: _, h => ⟨PA.tk t h.1, PAs.tk t h.2⟩
theorem PAs.len {K : PySem.W.Frag} {H : Hp} : ∀ {ps : List Part} {xs : List V}, PAs K H ps xs → xs.length = ps.length
  | [], [], _ => rfl
  | _ :: _, _ :: _, h => by simp [PAs.len h.2]
theorem PAs.get {K : PySem.W.Frag} {H : Hp} : ∀ {ps : List Part} {xs : List V} {i : Nat} {x : V}, PAs K H ps xs → xs[i]? = some x → ∃ p, ps[i]? = some p ∧ PA K H p x
  | [], [], i, x, _, e => by simp at e
  | p :: _, y :: _, 0, x, h, e => by
    simp at e
    subst e
    exact ⟨p, rfl, h.1⟩
  | _ :: ps, _ :: xs, i + 1, x, h, e => by
    obtain ⟨q, h1, h2⟩ := PAs.get (i := i) h.2 (by simpa using e)
    exact ⟨q, by simpa using h1, h2⟩
theorem PA.node {K : PySem.W.Frag} {H : Hp} {p : Part} {v : V} (h : PA K H p v) (o : p.isOp = true) : ∃ a xs, v = .ref a ∧ SqT K H a (.str p.word :: xs) ∧ PAs K H p.kids xs := by
  cases p with
  | op w p q =>
    obtain ⟨a, x, y, e, h1, h2, h3⟩ := h
    exact ⟨a, [x, y], e, h1, h2, h3, trivial⟩
  | pick p q r t =>
    obtain ⟨a, x, y, z, u, e, h1, h2, h3, h4, h5⟩ := h
    exact ⟨a, [x, y, z, u], e, h1, h2, h3, h4, h5, trivial⟩
  | _ => exact absurd o Bool.false_ne_true
theorem PA.head {K : PySem.W.Frag} {H : Hp} {p : Part} {v : V} (h : PA K H p v) : ∃ a xs, v = .ref a ∧ SqT K H a (.str p.word :: xs) := by
  cases p with
  | num n => obtain ⟨a, e, h⟩ := h; exact ⟨a, _, e, h⟩
  | cel c => obtain ⟨a, e, h⟩ := h; exact ⟨a, _, e, h⟩
  | sum c d => obtain ⟨a, e, h⟩ := h; exact ⟨a, _, e, h⟩
  | op w p q => obtain ⟨a, x, y, e, h, _⟩ := h; exact ⟨a, _, e, h⟩
  | pick p q r t => obtain ⟨a, x, y, z, u, e, h, _⟩ := h; exact ⟨a, _, e, h⟩
def Part.isNum : Part → Bool
  | .num _ => true
  | _ => false
def Part.isCel : Part → Bool
  | .cel _ => true
  | _ => false
def Part.isSum : Part → Bool
  | .sum _ _ => true
  | _ => false
theorem ws_num (w : W3) : decide (w.s = "num") = false := by cases w <;> decide +kernel
theorem ws_cell (w : W3) : decide (w.s = "cell") = false := by cases w <;> decide +kernel
theorem ws_sum (w : W3) : decide (w.s = "sum") = false := by cases w <;> decide +kernel
theorem ws_pick (w : W3) : decide (w.s = "pick") = false := by cases w <;> decide +kernel
theorem Part.w_num (p : Part) : decide (p.word = "num") = p.isNum := by
  cases p with
  | op w p q => exact ws_num w
  | num n => exact (by decide +kernel : decide (("num" : Str) = "num") = true)
  | cel c => exact (by decide +kernel : decide (("cell" : Str) = "num") = false)
  | sum c d => exact (by decide +kernel : decide (("sum" : Str) = "num") = false)
  | pick p q r t => exact (by decide +kernel : decide (("pick" : Str) = "num") = false)
theorem Part.w_cell (p : Part) : decide (p.word = "cell") = p.isCel := by
  cases p with
  | op w p q => exact ws_cell w
  | num n => exact (by decide +kernel : decide (("num" : Str) = "cell") = false)
  | cel c => exact (by decide +kernel : decide (("cell" : Str) = "cell") = true)
  | sum c d => exact (by decide +kernel : decide (("sum" : Str) = "cell") = false)
  | pick p q r t => exact (by decide +kernel : decide (("pick" : Str) = "cell") = false)
theorem Part.w_sum (p : Part) : decide (p.word = "sum") = p.isSum := by
  cases p with
  | op w p q => exact ws_sum w
  | num n => exact (by decide +kernel : decide (("num" : Str) = "sum") = false)
  | cel c => exact (by decide +kernel : decide (("cell" : Str) = "sum") = false)
  | sum c d => exact (by decide +kernel : decide (("sum" : Str) = "sum") = true)
  | pick p q r t => exact (by decide +kernel : decide (("pick" : Str) = "sum") = false)
theorem cut1 (x : V) (xs : List V) : cutV (x :: xs) (some 1) none = xs := by
  unfold cutV HT.sIx
  simp
theorem call_str_any {X : Cx} : CallR X (.type "str") (fun xs H Q => (∃ i, xs = [V.int i] ∧ i.natAbs.log2 < 1920 ∧ Q (.str (toString i)) H) ∨ ∃ a, xs = [V.str a] ∧ Q (.str a) H) := CallR.or call_str_int SkE.call_str_str
def blankS : Str := SX.S [32]
theorem blank_eq : (" " : Str) = SX.S [32] := by decide +kernel
def spPT (K : PySem.W.Frag) (n : Nat) : Sp := fun vs H Q _ => ∃ (p : Part) (v : V), vs = [v] ∧ PA K H p v ∧ p.good ∧ p.hgt ≤ n ∧ p.hgt ≤ 8 ∧ ∀ (H' : Hp), Same H H' → Q (.str (SX.S p.tx)) H'
theorem inW (p : Part) : inV (.str p.word) [.str "num", .str "cell"] = (p.isNum || p.isCel) := by
  have e : ∀ z : Str, inV (.str z) [.str "num", .str "cell"] = (decide (("num" : Str) = z) || decide (("cell" : Str) = z)) := fun z => by
    simp [inV, eqV, Bool.beq_eq_decide_eq]
  rw [e, ← Part.w_num, ← Part.w_cell]
  simp only [eq_comm]
theorem log_ok {i : Int} (h0 : -1000000 < i) (h1 : i < 1000000) : i.natAbs.log2 < 1920 := by
  by_cases h : i.natAbs = 0
  · rw [h]
    decide
  · rw [Nat.log2_lt h]
    have : (2 : Nat) ^ 20 ≤ 2 ^ 1920 := Nat.pow_le_pow_right (by decide) (by decide)
    have e : (2 : Nat) ^ 20 = 1048576 := by decide
    omega
theorem sumS : ("sum" : Str) = SX.S sumL := by decide +kernel
theorem sumS_ : ("sum " : Str) = SX.S (sumL ++ [32]) := by decide +kernel
theorem pickS : ("pick" : Str) = SX.S pickL := by decide +kernel
theorem S_app (a b : List Nat) : SX.S a ++ SX.S b = SX.S (a ++ b) := SX.S_cat a b
theorem S_length (a : List Nat) : (SX.S a).length = a.length := SX.S_len a
def Part.wd : Part → List Nat
  | .op w _ _ => w.l
  | _ => pickL
theorem Part.wd_eq {p : Part} (o : p.isOp = true) : p.word = SX.S p.wd := by
  cases p with
  | op w p q => exact w.s_l
  | pick p q r t => exact pickS
  | _ => exact absurd o Bool.false_ne_true
theorem Part.tx_kids {p : Part} (o : p.isOp = true) : p.tx = p.wd ++ ([32] ++ TL.joinL [32] (p.kids.map Part.tx)) := by
  cases p with
  | op w p q => exact Part.tx_op w p q
  | pick p q r t => exact Part.tx_pick p q r t
  | _ => exact absurd o Bool.false_ne_true
theorem Part.wd_len (p : Part) : p.wd.length ≤ 4 := by
  cases p with
  | op w p q => cases w <;> simp [Part.wd, W3.l]
  | _ => simp [Part.wd, pickL]
theorem Part.kids_len (p : Part) : p.kids.length ≤ 4 := by cases p <;> simp [Part.kids]
theorem Part.kinds (p : Part) : (∃ n, p = .num n) ∨ (∃ c, p = .cel c) ∨ (∃ c d, p = .sum c d) ∨ p.isOp = true := by
  cases p with
  | num n => exact .inl ⟨n, rfl⟩
  | cel c => exact .inr (.inl ⟨c, rfl⟩)
  | sum c d => exact .inr (.inr (.inl ⟨c, d, rfl⟩))
  | op w p q => exact .inr (.inr (.inr rfl))
  | pick p q r t => exact .inr (.inr (.inr rfl))
theorem Part.op_not {p : Part} (o : p.isOp = true) : p.isNum = false ∧ p.isCel = false ∧ p.isSum = false := by
  cases p with
  | op w p q => exact ⟨rfl, rfl, rfl⟩
  | pick p q r t => exact ⟨rfl, rfl, rfl⟩
  | _ => exact absurd o Bool.false_ne_true
theorem sl1_ne (x : V) (xs : List V) : ¬ (HT.sIx (x :: xs).length 0 (some 1) = 0 ∧ HT.sIx (x :: xs).length (x :: xs).length none = (x :: xs).length) := by
  rintro ⟨h, _⟩
  unfold HT.sIx at h
  simp at h
theorem sum_le {α : Type} {f : α → Nat} {B : Nat} : ∀ {l : List α}, (∀ x ∈ l, f x ≤ B) → (l.map f).sum ≤ l.length * B
  | [], _ => by simp
  | x :: r, h => by
    have h1 := h x (by simp)
    have h2 := sum_le (l := r) fun y hy => h y (by simp [hy])
    rw [List.map_cons, List.sum_cons, List.length_cons, Nat.succ_mul]
    omega
theorem take_next {α : Type} {l : List α} {i : Nat} {x : α} (h : l[i]? = some x) : l.take (i + 1) = l.take i ++ [x] := by
  rw [List.take_add_one, h]
  rfl
theorem join_kids (l : List Part) : Txt.join " " (l.map fun z => SX.S z.tx) = SX.S (TL.joinL [32] (l.map Part.tx)) := by
  rw [blank_eq, ← SX.join_S, List.map_map]
  rfl
theorem kids_size {l : List Part} (h4 : l.length ≤ 4) (hg : ∀ z ∈ l, z.good ∧ z.hgt ≤ 8) : ((l.map fun z => SX.S z.tx).map (·.length)).sum + (l.map fun z => SX.S z.tx).length * (" " : Str).length ≤ 16777216 := by
  have h1 : (" " : Str).length = 1 := by rw [blank_eq]; rfl
  rw [h1, List.map_map, List.length_map]
  have h2 := sum_le (f := (fun x : Str => x.length) ∘ fun z : Part => SX.S z.tx) (B := 700000) (l := l) fun z hz => by
    show (SX.S z.tx).length ≤ 700000
    rw [S_length]
    exact Part.tx_le (hg z hz).1 (hg z hz).2
  have h3 : l.length * 700000 ≤ 4 * 700000 := Nat.mul_le_mul_right _ h4
  omega
/-! ### a content's text -/
def ctx : Option Part → List Nat
  | none => []
  | some (.num n) => nl n
  | some p => [61, 32] ++ p.tx
theorem ctx_not {p : Part} (h : p.isNum = false) : ctx (some p) = [61, 32] ++ p.tx := by
  cases p with
  | num n => exact absurd h.symm Bool.false_ne_true
  | _ => rfl
theorem eqS : ("= " : Str) = SX.S [61, 32] := by decide +kernel
def spText (K : PySem.W.Frag) : Sp := fun vs H Q _ => ∃ (p : Option Part) (v : V), vs = [v] ∧ CA K H p v ∧ goodC p 8 ∧ ∀ (H' : Hp), Same H H' → Q (.str (SX.S (ctx p))) H'
/-! ### the cells that a content reads -/
def addU (acc : List Str) (x : Str) : List Str := if x ∈ acc then acc else acc ++ [x]
def dedupe (l : List Str) : List Str := l.foldl addU []
theorem mem_addU {acc : List Str} {x y : Str} : y ∈ addU acc x ↔ y ∈ acc ∨ y = x := by
  unfold addU
  by_cases h : x ∈ acc
  · rw [if_pos h]
    constructor
    · exact .inl
    · rintro (q | rfl)
      · exact q
      · exact h
  · rw [if_neg h]
    simp
theorem mem_foldU : ∀ {l acc : List Str} {y : Str}, y ∈ l.foldl addU acc ↔ y ∈ acc ∨ y ∈ l
  | [], acc, y => by simp
  | x :: r, acc, y => by
    rw [List.foldl_cons, mem_foldU, mem_addU]
    simp only [List.mem_cons]
    constructor
    · rintro ((h | h) | h)
      · exact .inl h
      · exact .inr (.inl h)
      · exact .inr (.inr h)
    · rintro (h | h | h)
      · exact .inl (.inl h)
      · exact .inl (.inr h)
      · exact .inr h
theorem fold_addU (acc pre : List Str) (x : Str) : (addU pre x).foldl addU acc = addU (pre.foldl addU acc) x := by
  by_cases h : x ∈ pre
  · have e : addU pre x = pre := if_pos h
    have e2 : addU (pre.foldl addU acc) x = pre.foldl addU acc := if_pos (mem_foldU.mpr (.inr h))
    rw [e, e2]
  · have e : addU pre x = pre ++ [x] := if_neg h
    rw [e, List.foldl_append]
    rfl
theorem fold_fold (acc : List Str) : ∀ (l pre : List Str), (l.foldl addU pre).foldl addU acc = l.foldl addU (pre.foldl addU acc)
  | [], pre => rfl
  | x :: r, pre => by
    rw [List.foldl_cons, fold_fold acc r (addU pre x), fold_addU]
    rfl
theorem fold_dedupe (acc l : List Str) : (dedupe l).foldl addU acc = l.foldl addU acc := fold_fold acc l []
theorem dedupe_nodup : ∀ {l acc : List Str}, (acc ++ l).Nodup → l.foldl addU acc = acc ++ l
  | [], acc, _ => by simp
  | x :: r, acc, h => by
    have hx : x ∉ acc := fun q => by
      have := List.nodup_append.mp h
      exact this.2.2 x q x (by simp) rfl
    have e : addU acc x = acc ++ [x] := if_neg hx
    rw [List.foldl_cons, e, dedupe_nodup (by simpa using h)]
    simp
theorem foldU_len : ∀ (l acc : List Str), (l.foldl addU acc).length ≤ acc.length + l.length
  | [], acc => by simp
  | x :: r, acc => by
    have h1 := foldU_len r (addU acc x)
    have h2 : (addU acc x).length ≤ acc.length + 1 := by
      unfold addU
      split <;> simp
    rw [List.foldl_cons, List.length_cons]
    omega
theorem rowL_mem {a n r : Nat} {z : Str} : z ∈ rowL a n r ↔ ∃ k, a ≤ k ∧ k < a + n ∧ z = SX.S [97 + k, 49 + r] := by
  unfold rowL
  simp only [List.mem_map, List.mem_range'_1]
  constructor
  · rintro ⟨k, ⟨h1, h2⟩, rfl⟩
    exact ⟨k, h1, h2, rfl⟩
  · rintro ⟨k, h1, h2, rfl⟩
    exact ⟨k, ⟨h1, h2⟩, rfl⟩
theorem S2_inj {a b c d : Nat} (h : SX.S [97 + a, 49 + b] = SX.S [97 + c, 49 + d]) : a = c ∧ b = d := by
  have q := SX.S_inj h
  simp only [List.cons.injEq, and_true] at q
  omega
theorem rowL_nodup (a r : Nat) : ∀ n, (rowL a n r).Nodup
  | 0 => by simp [rowL]
  | n + 1 => by
    rw [rowL_succ, List.nodup_append]
    refine ⟨rowL_nodup a r n, by simp, ?_⟩
    rintro x hx y hy rfl
    obtain ⟨k, h1, h2, e⟩ := rowL_mem.mp hx
    have e2 : x = SX.S [97 + (a + n), 49 + r] := by simpa using hy
    rw [e] at e2
    have := S2_inj e2
    omega
theorem rowsL_mem {a n b m : Nat} {z : Str} : z ∈ rowsL a n b m ↔ ∃ k r, a ≤ k ∧ k < a + n ∧ b ≤ r ∧ r < b + m ∧ z = SX.S [97 + k, 49 + r] := by
  unfold rowsL
  simp only [List.mem_flatMap, List.mem_range'_1, rowL_mem]
  constructor
  · rintro ⟨r, ⟨h1, h2⟩, k, h3, h4, rfl⟩
    exact ⟨k, r, h3, h4, h1, h2, rfl⟩
  · rintro ⟨k, r, h3, h4, h1, h2, rfl⟩
    exact ⟨r, ⟨h1, h2⟩, k, h3, h4, rfl⟩
theorem rowsL_nodup (a n b : Nat) : ∀ m, (rowsL a n b m).Nodup
  | 0 => by simp [rowsL]
  | m + 1 => by
    rw [rowsL_succ, List.nodup_append]
    refine ⟨rowsL_nodup a n b m, rowL_nodup _ _ _, ?_⟩
    rintro x hx y hy rfl
    obtain ⟨k, r, h1, h2, h3, h4, e⟩ := rowsL_mem.mp hx
    obtain ⟨k', h1', h2', e'⟩ := rowL_mem.mp hy
    rw [e] at e'
    have := S2_inj e'
    omega
theorem strL_nodup (x y : Cel) : (strL x y).Nodup := rowsL_nodup _ _ _ _
theorem strL_len (x y : Cel) : (strL x y).length ≤ 54 := by
  unfold strL
  rw [rowsL_len]
  have h1 := x.hc
  have h2 := y.hc
  have h3 := x.hr
  have h4 := y.hr
  have : (max x.c y.c + 1 - min x.c y.c) * (max x.r y.r + 1 - min x.r y.r) ≤ 6 * 9 := Nat.mul_le_mul (by omega) (by omega)
  omega
/-- all that a part reads, as often as it stands there -/
def Part.cells : Part → List Str
  | .num _ => []
  | .cel c => [c.s]
  | .sum c d => strL c d
  | .op _ p q => p.cells ++ q.cells
  | .pick p q r t => p.cells ++ (q.cells ++ (r.cells ++ t.cells))
theorem Part.cells_kids {p : Part} (o : p.isOp = true) : p.cells = p.kids.flatMap Part.cells := by
  cases p with
  | op w p q => simp [Part.kids, Part.cells]
  | pick p q r t => simp [Part.kids, Part.cells]
  | _ => exact absurd o Bool.false_ne_true
def Part.reads (p : Part) : List Str := dedupe p.cells
def readsC : Option Part → List Str
  | none => []
  | some p => p.reads
theorem Part.cells_len : ∀ (p : Part), p.cells.length ≤ 54 * 4 ^ p.hgt
  | .num n => by simp [Part.cells]
  | .cel c => by simp [Part.cells, Part.hgt]
  | .sum c d => by
    have := strL_len c d
    show (strL c d).length ≤ 54 * 4 ^ 1
    omega
  | .op w p q => by
    have h1 := Part.cells_len p
    have h2 := Part.cells_len q
    have e1 : 4 ^ p.hgt ≤ 4 ^ (max p.hgt q.hgt) := Nat.pow_le_pow_right (by decide) (by omega)
    have e2 : 4 ^ q.hgt ≤ 4 ^ (max p.hgt q.hgt) := Nat.pow_le_pow_right (by decide) (by omega)
    have e3 : 4 ^ (Part.op w p q).hgt = 4 ^ (max p.hgt q.hgt) * 4 := by show 4 ^ (max p.hgt q.hgt + 1) = _; rw [Nat.pow_succ]
    rw [e3]
    show (p.cells ++ q.cells).length ≤ _
    rw [List.length_append]
    omega
  | .pick p q r t => by
    have h1 := Part.cells_len p
    have h2 := Part.cells_len q
    have h3 := Part.cells_len r
    have h4 := Part.cells_len t
    have e1 : 4 ^ p.hgt ≤ 4 ^ (max (max p.hgt q.hgt) (max r.hgt t.hgt)) := Nat.pow_le_pow_right (by decide) (by omega)
    have e2 : 4 ^ q.hgt ≤ 4 ^ (max (max p.hgt q.hgt) (max r.hgt t.hgt)) := Nat.pow_le_pow_right (by decide) (by omega)
    have e3 : 4 ^ r.hgt ≤ 4 ^ (max (max p.hgt q.hgt) (max r.hgt t.hgt)) := Nat.pow_le_pow_right (by decide) (by omega)
    have e4 : 4 ^ t.hgt ≤ 4 ^ (max (max p.hgt q.hgt) (max r.hgt t.hgt)) := Nat.pow_le_pow_right (by decide) (by omega)
    have e5 : 4 ^ (Part.pick p q r t).hgt = 4 ^ (max (max p.hgt q.hgt) (max r.hgt t.hgt)) * 4 := by show 4 ^ (max (max p.hgt q.hgt) (max r.hgt t.hgt) + 1) = _; rw [Nat.pow_succ]
    rw [e5]
    show (p.cells ++ (q.cells ++ (r.cells ++ t.cells))).length ≤ _
    simp only [List.length_append]
    omega
theorem Part.cells_le {p : Part} (h : p.hgt ≤ 8) : p.cells.length ≤ 3600000 := by
  have h1 := Part.cells_len p
  have e : 4 ^ p.hgt ≤ 4 ^ 8 := Nat.pow_le_pow_right (by decide) h
  have e2 : (4 : Nat) ^ 8 = 65536 := by decide
  omega
theorem inS (x : Str) (l : List Str) : inV (.str x) (l.map V.str) = decide (x ∈ l) := by
  induction l with
  | nil => rfl
  | cons y r ih =>
    have e : inV (.str x) ((y :: r).map V.str) = (eqV (.str y) (.str x) || inV (.str x) (r.map V.str)) := rfl
    rw [e, ih]
    have e2 : eqV (.str y) (.str x) = decide (y = x) := by simp [eqV, Bool.beq_eq_decide_eq]
    rw [e2]
    by_cases h : y = x
    · subst h; simp
    · by_cases h2 : x ∈ r
      · simp [h, h2]
      · simp [h, h2]
        exact fun e => h e.symm
theorem flat_strs : ∀ l : List Str, (l.map V.str).all flatV = true
  | [] => rfl
  | _ :: r => flat_strs r
def spReads (K : PySem.W.Frag) (n : Nat) : Sp := fun vs H Q _ => ∃ (p : Option Part) (v : V), vs = [v] ∧ CA K H p v ∧ (∀ q, p = some q → q.hgt < n ∧ q.hgt ≤ 8) ∧ 0 < n ∧
  ∀ (r : Addr) (H' : Hp), H r = none → Same H H' → H' r = some (.lst ((readsC p).map V.str)) → Q (.ref r) H'
/-! ### the program's cells -/
def isCelL : List Nat → Bool
  | [a, b] => decide (97 ≤ a) && decide (a ≤ 102) && (decide (49 ≤ b) && decide (b ≤ 57))
  | _ => false
theorem isCelL_cel (c : Cel) : isCelL c.l = true := by
  have := c.hc
  have := c.hr
  simp [isCelL, Cel.l]
  omega
theorem isCelL_iff {l : List Nat} (h : isCelL l = true) : ∃ c : Cel, l = c.l := by
  match l, h with
  | [a, b], h =>
    simp only [isCelL, Bool.and_eq_true, decide_eq_true_eq] at h
    refine ⟨⟨a - 97, b - 49, by omega, by omega⟩, ?_⟩
    show [a, b] = [97 + (a - 97), 49 + (b - 49)]
    congr 1
    · omega
    · congr 1
      omega
theorem Cel.l_inj {c d : Cel} (h : c.l = d.l) : c = d := by
  cases c
  cases d
  simp only [Cel.l, List.cons.injEq, and_true] at h
  congr 1 <;> omega
def spIsCell : Sp := fun vs H Q _ => ∃ l : List Nat, vs = [.str (SX.S l)] ∧ l.length ≤ sizeLine ∧ Q (.bl (isCelL l)) H
def spPlace (CN : Addr) : Sp := fun vs H Q E => ∃ l : List Nat, vs = [.str (SX.S l)] ∧ l.length ≤ 10000000 ∧ (∀ c : Cel, l = c.l → ∀ t, H t = none → Q (.ref t) (upd H t (.tup [.int c.c, .int c.r]))) ∧ (isCelL l = false → E (.ref CN) none H)
def spStretch (CN : Addr) : Sp := fun vs H Q E => ∃ l m : List Nat, vs = [.str (SX.S l), .str (SX.S m)] ∧ l.length ≤ 10000000 ∧ m.length ≤ 10000000 ∧
  (∀ c d : Cel, l = c.l → m = d.l → ∀ (p : Addr) (H' : Hp), H p = none → Same H H' → H' p = some (.lst ((strL c d).map V.str)) → Q (.ref p) H') ∧ ((isCelL l = false ∨ isCelL m = false) → ∀ H', Same H H' → E (.ref CN) none H')
def spShifted (CN : Addr) : Sp := fun vs H Q E => ∃ (l : List Nat) (n : Int), vs = [.str (SX.S l), .int n] ∧ l.length ≤ 10000000 ∧
  (∀ c : Cel, l = c.l → ∀ (H' : Hp), Same H H' → (∀ d : Cel, d.c = c.c → (d.r : Int) = c.r + n → Q (.str d.s) H') ∧ ((c.r : Int) + n < 0 ∨ 9 ≤ (c.r : Int) + n → Q (.str (SX.S [])) H')) ∧ (isCelL l = false → ∀ H', Same H H' → E (.ref CN) none H')
theorem col_in (a : Nat) : decide (a ∈ ("abcdef" : Str).cps.toList) = (decide (97 ≤ a) && decide (a ≤ 102)) := by
  have e : ("abcdef" : Str).cps.toList = [97, 98, 99, 100, 101, 102] := by decide +kernel
  rw [e, Bool.eq_iff_iff]
  simp
  omega
theorem row_in (a : Nat) : decide (a ∈ ("123456789" : Str).cps.toList) = (decide (49 ≤ a) && decide (a ≤ 57)) := by
  have e : ("123456789" : Str).cps.toList = [49, 50, 51, 52, 53, 54, 55, 56, 57] := by decide +kernel
  rw [e, Bool.eq_iff_iff]
  simp
  omega
theorem col_idx : ∀ {c : Nat}, c < 6 → (Builtin.Str.occurrences ("abcdef" : Str) (SX.S [97 + c]) 0 ("abcdef" : Str).length 1).head? = some c := by decide +kernel
theorem row_idx : ∀ {c : Nat}, c < 9 → (Builtin.Str.occurrences ("123456789" : Str) (SX.S [49 + c]) 0 ("123456789" : Str).length 1).head? = some c := by decide +kernel
theorem head_rest {l : List Nat} {x : Nat} (h : l.head? = some x) : ∃ r, l = x :: r := by
  cases l with
  | nil => cases h
  | cons y r => cases h; exact ⟨r, rfl⟩
theorem cut_col : ∀ {a : Nat}, a < 6 → ∀ {n : Nat}, n < 7 → a + n ≤ 6 → cutS ("abcdef" : Str) (some (a : Int)) (some ((a + n : Nat) : Int)) = SX.S (List.range' (97 + a) n) := by decide +kernel
theorem cut_row : ∀ {a : Nat}, a < 9 → ∀ {n : Nat}, n < 10 → a + n ≤ 9 → cutS ("123456789" : Str) (some (a : Int)) (some ((a + n : Nat) : Int)) = SX.S (List.range' (49 + a) n) := by decide +kernel
theorem range_at {a n i c : Nat} (h : (SX.S (List.range' a n)).cps[i]? = some c) : i < n ∧ c = a + i := by
  have h : (List.range' a n).toArray[i]? = some c := h
  rw [List.getElem?_toArray] at h
  obtain ⟨hi, e⟩ := List.getElem?_eq_some_iff.mp h
  rw [List.getElem_range'] at e
  rw [List.length_range'] at hi
  exact ⟨hi, by omega⟩
theorem range_size (a n : Nat) : (SX.S (List.range' a n)).cps.size = n := by simp [SX.S]
theorem ten_m {n : Nat} (h : n ≤ 10000000) : n ≤ sizeLine := by rw [sizeLine_eq]; omega
/-! ### the program's words and cells -/
def svs (l : List (List Nat)) : List V := l.map fun z => V.str (SX.S z)
theorem svs_len (l : List (List Nat)) : (svs l).length = l.length := List.length_map _
theorem svs_app (l m : List (List Nat)) : svs (l ++ m) = svs l ++ svs m := List.map_append
theorem svs_map (l : List (List Nat)) : svs l = (l.map SX.S).map V.str := by
  unfold svs
  rw [List.map_map]
  rfl
def spWords (K : PySem.W.Frag) (n : Nat) : Sp := fun vs H Q _ => ∃ (p : Part) (v : V), vs = [v] ∧ PA K H p v ∧ p.good ∧ p.hgt ≤ n ∧ p.hgt ≤ 8 ∧ ∀ (r : Addr) (H' : Hp), H r = none → Same H H' → H' r = some (.lst (svs p.wl)) → Q (.ref r) H'
def spCells (K : PySem.W.Frag) (n : Nat) : Sp := fun vs H Q _ => ∃ (p : Part) (v : V), vs = [v] ∧ PA K H p v ∧ p.hgt ≤ n ∧ p.hgt ≤ 8 ∧ ∀ (r : Addr) (H' : Hp), H r = none → Same H H' → H' r = some (.lst (p.cells.map V.str)) → Q (.ref r) H'
theorem Part.wl_kids {p : Part} (o : p.isOp = true) : p.wl = p.wd :: p.kids.flatMap Part.wl := by
  cases p with
  | op w p q => simp [Part.kids, Part.wl, Part.wd]
  | pick p q r t => simp [Part.kids, Part.wl, Part.wd]
  | _ => exact absurd o Bool.false_ne_true
theorem joinL_len {s : List Nat} : ∀ l : List (List Nat), l.length ≤ (TL.joinL (32 :: s) l).length + 1
  | [] => by simp [TL.joinL]
  | [x] => by simp [TL.joinL]
  | x :: y :: r => by
    have := joinL_len (s := s) (y :: r)
    show (x :: y :: r).length ≤ (x ++ ((32 :: s) ++ TL.joinL (32 :: s) (y :: r))).length + 1
    simp only [List.length_append, List.length_cons] at this ⊢
    omega
theorem Part.wl_len {p : Part} (h : p.good) (n : p.hgt ≤ 8) : p.wl.length ≤ 700001 := by
  have h1 := Part.tx_le h n
  have h2 := joinL_len (s := []) p.wl
  unfold Part.tx at h1
  omega
theorem joinL_sum : ∀ l : List (List Nat), (l.map List.length).sum + l.length ≤ (TL.joinL [32] l).length + 1
  | [] => by simp
  | [x] => by simp [TL.joinL]
  | x :: y :: r => by
    have := joinL_sum (y :: r)
    show _ ≤ (x ++ ([32] ++ TL.joinL [32] (y :: r))).length + 1
    simp only [List.map_cons, List.sum_cons, List.length_append, List.length_cons, List.length_nil] at this ⊢
    omega
theorem join_wl (p : Part) : Txt.join " " (p.wl.map SX.S) = SX.S p.tx := by
  rw [blank_eq, SX.join_S]
  rfl
theorem wl_size {p : Part} (h : p.good) (n : p.hgt ≤ 8) : ((p.wl.map SX.S).map (·.length)).sum + (p.wl.map SX.S).length * (" " : Str).length ≤ 16777216 := by
  have h1 : (" " : Str).length = 1 := by rw [blank_eq]; rfl
  have h2 := joinL_sum p.wl
  have h3 := Part.tx_le h n
  unfold Part.tx at h3
  rw [h1, SX.lens, List.length_map]
  have e : p.wl.map (fun x => x.length) = p.wl.map List.length := rfl
  rw [e]
  omega
theorem keepTk {K : PySem.W.Frag} {r : Addr} {G G' : Hp} {ys : List V} (g : G r = some (.lst ys)) (kp : Keep r r G G') : Tk K G G' := fun a0 zs h => by
  rcases h with (h | ⟨o, h⟩) | h
  · have ne : a0 ≠ r := ne_of h g (by intro z; cases z)
    exact .inl (.inl (kp _ _ h ne ne))
  · have ne : a0 ≠ r := ne_of h g (by intro z; cases z)
    exact .inl (.inr ⟨o, kp _ _ h ne ne⟩)
  · exact .inr h
end U

namespace U
open PySem L2 PyProof.Rows
section
variable {X : Cx}
/-- name = {k: v for ..} on one line, the name a local -/
theorem ps_setDc {i : Nat} {y : Str} {py : Pos} {kx vx tg iter : Expr} {ifs : List Expr} {scope : Scope} {own : List (Str × Nat)} {pos spos : Pos} {wi : TI} {g : TG} {tt : TT} {tk tv : TE} (hc : X.calm = true) (hN : X.N.Nodup) (hy : X.N[i]? = some y)
    (hyl : X.env.scope.names.lookup y = some .local) (hsw : swapsWith (.DictComp kx vx [⟨tg, iter, ifs, 0⟩] scope pos) (some (.Name y py)) spos.line X.env = pure true) (hi : PI X tg iter wi) (ok : BlkOk X.N X.env.scope scope own)
    (hg : ∀ (s : Shared) (H : Hp) (C : Addr) (cl : List (Str × Addr)) (fp : List Addr), PG (X.blk s H scope (compEnvC scope cl C X.env) fp) tg g)
    (ht : ∀ (s : Shared) (H : Hp) (C : Addr) (cl : List (Str × Addr)) (fp : List Addr), PTs (X.blk s H scope (compEnvC scope cl C X.env) fp) ifs tt)
    (hk : ∀ (s : Shared) (H : Hp) (C : Addr) (cl : List (Str × Addr)) (fp : List Addr), PE (X.blk s H scope (compEnvC scope cl C X.env) fp) kx tk)
    (hv : ∀ (s : Shared) (H : Hp) (C : Addr) (cl : List (Str × Addr)) (fp : List Addr), PE (X.blk s H scope (compEnvC scope cl C X.env) fp) vx tv)
    (hs : ∀ x, foldedSetIterable iter X.env x = pure x := by intro _; rfl) :
    PS X (.Assign [.Name y py] (.DictComp kx vx [⟨tg, iter, ifs, 0⟩] scope pos) spos) (tAsg (tDc wi g tt tk tv (own.map (·.2))) (gName i)) := by
  refine ⟨fun pins s σ H D I h => ?_⟩
  rw [exec_Assign_Name_used _ _ _ _ hsw]
  refine wpAny_bind (wpAny_standAt (wpAny_bind ?_))
  have h : tDc wi g tt tk tv (own.map (·.2)) σ H (fun x H1 => gName i x σ H1 D.nx) := h
  refine wpAny_bind (thn (dc_core (use := some (assign (.Name y py) X.env)) (Qf := fun _ s' => SP X pins D .next s') hc hN I hi ok hg ht hk hv hs h fun L C s' m H' I' q hn f => ?_) fun _ s' hq => wpAny_pure (wpAny_pure hq))
  refine wpAny_assign_Name (store_ok2 (v := V.ref L) I' hN hy (.inl hyl) rfl (fun s2 I2 ⟨a, sb, ha⟩ => ?_) (.inr hyl))
  have f1 := f.2.1
  have haC : C ≠ a := by
    rcases ha with z | z
    · exact z ▸ f1
    · exact fun e => f.2.2.2.2.1 y a z e.symm
  refine ⟨m, hn.sameBut sb haC, fun h3 sb3 => ?_⟩
  exact ⟨_, H', I2.turned (t' := s2.toks) (fun b o hb e => (sb3.2 b hb).trans e) f.1 f1 f.2.2.2.1 f.2.2.2.2.1 f.2.2.2.2.2, q⟩
theorem sw_dc {kx vx : Expr} {gs : List Comprehension} {scope : Scope} {pos py : Pos} {y : Str} {l : Nat} {env : Env} (hk : env.scope.kind = .function) (hy : env.scope.names.lookup y = some .local) (hl : (py.line == pos.line) = true)
    (ha : (scope.names.any fun (n, k) => n == y && (k == .local || k == .cell)) = false) : swapsWith (.DictComp kx vx gs scope pos) (some (.Name y py)) l env = pure true :=
  sw_true (elt := kx) (gs := gs) (scope := scope) (pos := pos) (py := py) (y := y) (l := l) (env := env) hk hy hl ha
/-- a walk over a list that stays -/
theorem itl_loop {K : PySem.W.Frag} {a : Addr} {xs : List V} {H0 : Hp} {Qd : Hp → Prop} {body : V → Hp → (Hp → Prop) → Prop} (Pv : Nat → Hp → Prop) (h0 : Pv 0 H0) (hl : ∀ i H, i ≤ xs.length → Pv i H → SqL K H a xs)
    (hs : ∀ i x H, xs[i]? = some x → Pv i H → body x H (Pv (i + 1))) (hd : ∀ H, Pv xs.length H → Qd H) :
    ∃ W : Nat → Nat → Hp → Prop, (∃ m, W 0 m H0) ∧ ∀ i m H, W i m H → ((Itl K a).stop i H ∧ Qd H) ∨ ((Itl K a).go i H ∧ ∃ Nx : Hp → Prop, (∀ H', Nx H' → ∃ m', m' < m ∧ W (i + 1) m' H') ∧ ∀ v H', (Itl K a).yld i H v H' → body v H' Nx) := by
  refine ⟨fun i m H => m = xs.length - i ∧ i ≤ xs.length ∧ Pv i H, ⟨xs.length, by simp, Nat.zero_le _, h0⟩, fun i m H ⟨em, hi, p⟩ => ?_⟩
  subst em
  have q := hl i H hi p
  rcases Nat.lt_or_ge i xs.length with hlt | hge
  · exact .inr ⟨⟨xs, xs[i], q, List.getElem?_eq_getElem hlt⟩, Pv (i + 1), fun H' p' => ⟨xs.length - (i + 1), by omega, rfl, hlt, p'⟩, fun v H' y => by
      obtain ⟨e, y⟩ := y
      rw [e]
      exact hs i v H (y xs q) p⟩
  · have e : i = xs.length := by omega
    exact .inl ⟨⟨xs, q, hge⟩, hd H (e ▸ p)⟩
theorem itt_loop {K : PySem.W.Frag} {a : Addr} {xs : List V} {H0 : Hp} {Qd : Hp → Prop} {body : V → Hp → (Hp → Prop) → Prop} (Pv : Nat → Hp → Prop) (h0 : Pv 0 H0) (hl : ∀ i H, i ≤ xs.length → Pv i H → SqT K H a xs)
    (hs : ∀ i x H, xs[i]? = some x → Pv i H → body x H (Pv (i + 1))) (hd : ∀ H, Pv xs.length H → Qd H) :
    ∃ W : Nat → Nat → Hp → Prop, (∃ m, W 0 m H0) ∧ ∀ i m H, W i m H → ((Itt K a).stop i H ∧ Qd H) ∨ ((Itt K a).go i H ∧ ∃ Nx : Hp → Prop, (∀ H', Nx H' → ∃ m', m' < m ∧ W (i + 1) m' H') ∧ ∀ v H', (Itt K a).yld i H v H' → body v H' Nx) := by
  refine ⟨fun i m H => m = xs.length - i ∧ i ≤ xs.length ∧ Pv i H, ⟨xs.length, by simp, Nat.zero_le _, h0⟩, fun i m H ⟨em, hi, p⟩ => ?_⟩
  subst em
  have q := hl i H hi p
  rcases Nat.lt_or_ge i xs.length with hlt | hge
  · exact .inr ⟨⟨xs, xs[i], q, List.getElem?_eq_getElem hlt⟩, Pv (i + 1), fun H' p' => ⟨xs.length - (i + 1), by omega, rfl, hlt, p'⟩, fun v H' y => by
      obtain ⟨e, y⟩ := y
      rw [e]
      exact hs i v H (y xs q) p⟩
  · have e : i = xs.length := by omega
    exact .inl ⟨⟨xs, q, hge⟩, hd H (e ▸ p)⟩
theorem put_keys {κ : Type} [DecidableEq κ] (kvs : List (κ × V)) (k : κ) (v : V) : (putK kvs k v).map (·.1) = if k ∈ kvs.map (·.1) then kvs.map (·.1) else kvs.map (·.1) ++ [k] := by
  unfold putK
  have e : (kvs.any fun kv => decide (kv.1 = k)) = decide (k ∈ kvs.map (·.1)) := by
    rw [Bool.eq_iff_iff]
    simp only [List.any_eq_true, decide_eq_true_eq, List.mem_map]
  rw [e]
  by_cases h : k ∈ kvs.map (·.1)
  · rw [decide_eq_true h, if_pos rfl, if_pos h, List.map_map]
    refine List.map_congr_left fun p _ => ?_
    show (if p.1 = k then (p.1, v) else p).1 = p.1
    split <;> rfl
  · rw [decide_eq_false h, if_neg Bool.false_ne_true, if_neg h, List.map_append]
    rfl
/-- the dict's keys are the texts so far -/
theorem put_addU {kvs : List (Key × V)} {l : List Str} (h : kvs.map (·.1) = l.map Sum.inr) (x : Str) (v : V) : (putK kvs (Sum.inr x) v).map (·.1) = (addU l x).map Sum.inr := by
  rw [put_keys, h]
  have e : (Sum.inr x : Key) ∈ l.map Sum.inr ↔ x ∈ l := by
    simp
  unfold addU
  by_cases hx : x ∈ l
  · rw [if_pos hx, if_pos (e.mpr hx)]
  · rw [if_neg hx, if_neg fun z => hx (e.mp z), List.map_append]
    rfl
def spRC (K : PySem.W.Frag) : Sp := fun vs H Q _ => ∃ (p : Option Part) (v : V), vs = [v] ∧ CA K H p v ∧ (∀ q, p = some q → q.hgt ≤ 8) ∧
  ∀ (r : Addr) (H' : Hp), H r = none → Same H H' → H' r = some (.lst ((readsC p).map V.str)) → Q (.ref r) H'
end
end U

namespace U
open PySem L2 PyProof.Rows
/-! ### how a content is read: the mirror -/
def isDig (c : Nat) : Bool := decide (48 ≤ c) && decide (c ≤ 57)
def figsL (l : List Nat) : List Nat := match l with
  | 45 :: r => r
  | _ => l
def isNumL (l : List Nat) : Bool := (figsL l).all isDig && (!(figsL l).isEmpty && (decide ((figsL l).length ≤ 6) && (decide (l = [48]) || decide ((figsL l).head? ≠ some 48))))
def valL (l : List Nat) : Int := match l with
  | 45 :: r => -((NumText.digitsVal r : Nat) : Int)
  | _ => ((NumText.digitsVal l : Nat) : Int)
def celOf (l : List Nat) : Cel := match l with
  | [a, b] => ⟨(a - 97) % 6, (b - 49) % 9, Nat.mod_lt _ (by decide), Nat.mod_lt _ (by decide)⟩
  | _ => ⟨0, 0, by decide, by decide⟩
theorem celOf_l (c : Cel) : celOf c.l = c := by
  have h1 := c.hc
  have h2 := c.hr
  cases c with
  | mk a b _ _ =>
    show (⟨(97 + a - 97) % 6, (49 + b - 49) % 9, _, _⟩ : Cel) = _
    congr 1 <;> (simp only at h1 h2; omega)
def addL : List Nat := [97, 100, 100]
def subL : List Nat := [115, 117, 98]
def mulL : List Nat := [109, 117, 108]
def w3of (l : List Nat) : W3 := if l = addL then .add else if l = subL then .sub else .mul
def arity (l : List Nat) : Option Nat := if l = addL ∨ l = subL ∨ l = mulL then some 2 else if l = pickL then some 4 else none
def mkP (w : List Nat) : List Part → Option Part
  | [p, q] => some (.op (w3of w) p q)
  | [p, q, r, t] => some (.pick p q r t)
  | _ => none
abbrev Ws := List (List Nat)
def seqP (f : Ws → Option (Part × Ws)) : Nat → Ws → Option (List Part × Ws)
  | 0, ws => some ([], ws)
  | m + 1, ws => match f ws with
    | none => none
    | some (p, r) => match seqP f m r with
      | none => none
      | some (ps, r') => some (p :: ps, r')
def sumP : Ws → Option (Part × Ws)
  | c :: d :: r => if isCelL c = true ∧ isCelL d = true then some (.sum (celOf c) (celOf d), r) else none
  | _ => none
def pt : Nat → Ws → Option (Part × Ws)
  | 0, _ => none
  | _ + 1, [] => none
  | n + 1, w :: r =>
    if isNumL w = true then some (.num (valL w), r)
    else if isCelL w = true then some (.cel (celOf w), r)
    else if w = sumL then sumP r
    else match arity w with
      | none => none
      | some m => match seqP (pt n) m r with
        | none => none
        | some (ps, r') => match mkP w ps with
          | none => none
          | some p => some (p, r')
def spIsNum : Sp := fun vs H Q _ => ∃ l : List Nat, vs = [.str (SX.S l)] ∧ l.length ≤ 10000000 ∧ Q (.bl (isNumL l)) H
/-- words that may be asked: none longer than ten million signs -/
def okW (W : Ws) : Prop := ∀ w ∈ W, w.length ≤ 10000000
def spPartAt (K : PySem.W.Frag) (CB : Addr) (n : Nat) : Sp := fun vs H Q E => ∃ (a : Addr) (W : Ws) (k : Nat) (d : Int), vs = [.ref a, .int k, .int d] ∧ SqL K H a (svs W) ∧ okW W ∧ k ≤ W.length ∧ (n : Int) + d = 6 ∧
  (∀ p r, pt n (W.drop k) = some (p, r) → ∀ (t : Addr) (v : V) (H' : Hp), Same H H' → PA K H' p v → r.length ≤ W.length → H' t = some (.tup [v, .int ((W.length - r.length : Nat) : Int)]) → r = W.drop (W.length - r.length) → Q (.ref t) H') ∧
  (pt n (W.drop k) = none → ∀ H', Same H H' → E (.ref CB) none H')
def spSumAt (K : PySem.W.Frag) (CB : Addr) : Sp := fun vs H Q E => ∃ (a : Addr) (W : Ws) (k : Nat), vs = [.ref a, .int k] ∧ SqL K H a (svs W) ∧ okW W ∧ k < W.length ∧
  (∀ p r, sumP (W.drop (k + 1)) = some (p, r) → ∀ (t : Addr) (v : V) (H' : Hp), Same H H' → PA K H' p v → r.length ≤ W.length → H' t = some (.tup [v, .int ((W.length - r.length : Nat) : Int)]) → r = W.drop (W.length - r.length) → Q (.ref t) H') ∧
  (sumP (W.drop (k + 1)) = none → ∀ H', Same H H' → E (.ref CB) none H')
def spPartsAt (K : PySem.W.Frag) (CB : Addr) (n : Nat) : Sp := fun vs H Q E => ∃ (a : Addr) (W : Ws) (k : Nat) (d : Int) (w : List Nat) (m : Nat), vs = [.ref a, .int k, .int d] ∧ SqL K H a (svs W) ∧ okW W ∧ k < W.length ∧ W[k]? = some w ∧ arity w = some m ∧ (n : Int) + d + 1 = 6 ∧
  (∀ ps r p, seqP (pt n) m (W.drop (k + 1)) = some (ps, r) → mkP w ps = some p → ∀ (t : Addr) (v : V) (H' : Hp), Same H H' → PA K H' p v → r.length ≤ W.length → H' t = some (.tup [v, .int ((W.length - r.length : Nat) : Int)]) → r = W.drop (W.length - r.length) → Q (.ref t) H') ∧
  (seqP (pt n) m (W.drop (k + 1)) = none → ∀ H', Same H H' → E (.ref CB) none H')
def spPartsX (K : PySem.W.Frag) (CB : Addr) : Nat → Sp
  | 0 => fun _ _ _ _ => False
  | n + 1 => spPartsAt K CB n
/-- the dict PARTS of the module -/
structure PartsF (K : PySem.W.Frag) (w : World) (a : Addr) : Prop where
  dict : ∃ es n, KDict K w a es n
  two : ∀ l, arity l = some 2 → ∃ t, PySem.W.nsIn K a (SX.S l) = some (some (.int 2 t))
  four : ∀ l, arity l = some 4 → ∃ t, PySem.W.nsIn K a (SX.S l) = some (some (.int 4 t))
  no : ∀ l, arity l = none → PySem.W.nsIn K a (SX.S l) = some none
theorem arity_cases (l : List Nat) : arity l = some 2 ∨ arity l = some 4 ∨ arity l = none := by
  unfold arity
  split
  · exact .inl rfl
  · split
    · exact .inr (.inl rfl)
    · exact .inr (.inr rfl)
theorem seqP_len {f : Ws → Option (Part × Ws)} : ∀ {m : Nat} {ws : Ws} {ps : List Part} {r : Ws}, seqP f m ws = some (ps, r) → ps.length = m
  | 0, ws, ps, r, h => by
    cases h
    rfl
  | m + 1, ws, ps, r, h => by
    unfold seqP at h
    split at h
    · cases h
    · split at h
      · cases h
      · cases h
        rename_i q
        simp [seqP_len q]
theorem mkP_some {w : List Nat} {ps : List Part} {m : Nat} (h : arity w = some m) (hl : ps.length = m) : ∃ p, mkP w ps = some p := by
  rcases arity_cases w with e | e | e
  · rw [e] at h
    cases h
    match ps, hl with
    | [p, q], _ => exact ⟨_, rfl⟩
  · rw [e] at h
    cases h
    match ps, hl with
    | [p, q, r, t], _ => exact ⟨_, rfl⟩
  · rw [e] at h
    cases h
theorem mkP_pa {K : PySem.W.Frag} {H : Hp} {w : List Nat} {ps : List Part} {m : Nat} {p : Part} {t : Addr} {xs : List V} (h : arity w = some m) (hl : ps.length = m) (hp : mkP w ps = some p) (ht : SqT K H t (.str (SX.S w) :: xs)) (hx : PAs K H ps xs) : PA K H p (.ref t) := by
  have lx := hx.len
  rcases arity_cases w with e | e | e
  · rw [e] at h
    cases h
    match ps, hl, hp, hx with
    | [p, q], _, hp, hx =>
      cases hp
      match xs, lx, hx with
      | [x, y], _, hx =>
        have ew : (w3of w).s = SX.S w := by
          rw [W3.s_l]
          unfold arity at e
          split at e
          · rename_i z
            unfold w3of
            rcases z with rfl | rfl | rfl
            · rw [if_pos rfl]; rfl
            · rw [if_neg (by decide), if_pos rfl]; rfl
            · rw [if_neg (by decide), if_neg (by decide)]; rfl
          · split at e
            · cases e
            · cases e
        exact ⟨t, x, y, rfl, by rw [ew]; exact ht, hx.1, hx.2.1⟩
  · rw [e] at h
    cases h
    match ps, hl, hp, hx with
    | [p, q, r, u], _, hp, hx =>
      cases hp
      match xs, lx, hx with
      | [x, y, z, a], _, hx =>
        have ew : ("pick" : Str) = SX.S w := by
          rw [pickS]
          unfold arity at e
          split at e
          · cases e
          · split at e
            · rename_i z
              rw [z]
            · cases e
        exact ⟨t, x, y, z, a, rfl, by rw [ew]; exact ht, hx.1, hx.2.1, hx.2.2.1, hx.2.2.2.1⟩
  · rw [e] at h
    cases h
theorem PAs.snoc {K : PySem.W.Frag} {H : Hp} {p : Part} {x : V} : ∀ {ps : List Part} {xs : List V}, PAs K H ps xs → PA K H p x → PAs K H (ps ++ [p]) (xs ++ [x])
  | [], [], _, h => ⟨h, trivial⟩
  | _ :: _, _ :: _, h, q => ⟨h.1, PAs.snoc h.2 q⟩
theorem svs_at {W : Ws} {k : Nat} {w : List Nat} (h : W[k]? = some w) : atI (svs W) (k : Int) = some (.str (SX.S w)) := atI_nat (by unfold svs; rw [List.getElem?_map, h]; rfl)
theorem drop_at {W : Ws} {k : Nat} (h : k < W.length) : ∃ w, W[k]? = some w ∧ W.drop k = w :: W.drop (k + 1) := ⟨W[k], List.getElem?_eq_getElem h, List.drop_eq_getElem_cons h⟩
/-! ### numbers as texts -/
theorem minusS : ("-" : Str) = SX.S [45] := by decide +kernel
theorem figsL_neg (r : List Nat) : figsL (45 :: r) = r := rfl
theorem figsL_ne {c : Nat} (r : List Nat) (h : c ≠ 45) : figsL (c :: r) = c :: r := by
  unfold figsL
  split
  · rename_i e
    cases e
    exact absurd rfl h
  · rfl
theorem rp_minus (l : List Nat) : Txt.removeprefix (SX.S l) "-" = SX.S (figsL l) := by
  rw [minusS]
  unfold Txt.removeprefix
  rw [StrLaws.subAt_eq]
  have e0 : (SX.S l).cps.toList = l := rfl
  have e1 : (SX.S [45]).cps.toList = [45] := rfl
  have e2 : (SX.S [45]).length = 1 := rfl
  rw [e0, e1, e2, List.drop_zero]
  cases l with
  | nil => rfl
  | cons c r =>
    by_cases h : c = 45
    · subst h
      have e3 : (List.take 1 (45 :: r) == [45]) = true := by simp
      rw [e3, if_pos rfl]
      unfold Txt.affix
      rw [S_length]
      have e4 : ((45 :: r).length - 1 == (45 :: r).length) = false := by simp
      simp only [e4, Bool.false_eq_true, if_false]
      refine TL.ext_tl ?_
      show (Builtin.Str.strSub (SX.S (45 :: r)) 1 (45 :: r).length).cps.toList = r
      rw [StrLaws.strSub_toList, e0]
      simp
    · have e3 : (List.take 1 (c :: r) == [45]) = false := by
        simp [h]
      rw [e3, if_neg Bool.false_ne_true, figsL_ne r h]
      rfl
theorem dig_ascii : ∀ {c : Nat}, c < 128 → Unicode.isDigit c = isDig c := by decide +kernel
theorem num_ok (f : List Nat) : (Txt.isascii (SX.S f) && Txt.isdigit (SX.S f)) = (f.all isDig && !f.isEmpty) := by
  have e1 : Txt.isascii (SX.S f) = f.all (fun c => decide (c < 128)) := by
    unfold Txt.isascii SX.S
    simp
  have e2 : Txt.isdigit (SX.S f) = (!f.isEmpty && f.all Unicode.isDigit) := by
    unfold Txt.isdigit
    rw [S_length]
    have e : (SX.S f).cps.all Unicode.isDigit = f.all Unicode.isDigit := by unfold SX.S; simp
    rw [e]
    cases f <;> simp
  rw [e1, e2, Bool.eq_iff_iff]
  simp only [Bool.and_eq_true, List.all_eq_true, decide_eq_true_eq]
  constructor
  · rintro ⟨h1, h2, h3⟩
    exact ⟨fun c hc => (dig_ascii (h1 c hc)) ▸ h3 c hc, h2⟩
  · rintro ⟨h1, h2⟩
    have lt : ∀ c ∈ f, c < 128 := fun c hc => by
      have := h1 c hc
      simp only [isDig, Bool.and_eq_true, decide_eq_true_eq] at this
      omega
    exact ⟨lt, h2, fun c hc => (dig_ascii (lt c hc)).symm ▸ h1 c hc⟩
theorem zeroS : ("0" : Str) = SX.S [48] := by decide +kernel
theorem isNumL_len {l : List Nat} (h : isNumL l = true) : l.length ≤ 7 := by
  unfold isNumL at h
  simp only [Bool.and_eq_true, decide_eq_true_eq] at h
  have := h.2.2.1
  cases l with
  | nil => simp
  | cons c r =>
    by_cases e : c = 45
    · subst e
      rw [figsL_neg] at this
      simp only [List.length_cons]
      omega
    · rw [figsL_ne r e] at this
      omega
theorem isNumL_val {l : List Nat} (h : isNumL l = true) : PySem.intText? (SX.S l) = some (valL l) := by
  have hl := isNumL_len h
  unfold isNumL at h
  simp only [Bool.and_eq_true, decide_eq_true_eq, List.all_eq_true, Bool.not_eq_true', List.isEmpty_eq_false_iff] at h
  obtain ⟨h1, h2, _, _⟩ := h
  have dig : ∀ c ∈ figsL l, 48 ≤ c ∧ c ≤ 57 := fun c hc => by
    have := h1 c hc
    simpa [isDig] using this
  cases l with
  | nil => exact absurd rfl h2
  | cons c r =>
    by_cases e : c = 45
    · subst e
      rw [figsL_neg] at dig h2
      exact PySem.intText_neg (x := SX.S (45 :: r)) rfl dig h2 (by rw [S_length]; omega)
    · rw [figsL_ne r e] at dig h2
      have q := PySem.intText_digits (x := SX.S (c :: r)) dig h2 (by rw [S_length]; omega)
      rw [q]
      unfold valL
      split
      · rename_i z
        cases z
        exact absurd rfl e
      · rfl
theorem cut_nat (l : List V) (i j : Nat) : cutV l (some (i : Int)) (some (j : Int)) = (l.drop i).take (j - i) := by
  unfold cutV
  rw [HT.sIx_nat, HT.sIx_nat]
  by_cases h : i ≤ l.length
  · rw [Nat.min_eq_left h, List.take_eq_take_iff, List.length_drop]
    omega
  · rw [List.drop_eq_nil_of_le (by omega), List.drop_eq_nil_of_le (by omega)]
    simp
theorem cut_from (l : List V) (i : Nat) : cutV l (some (i : Int)) none = l.drop i := by
  unfold cutV
  rw [HT.sIx_nat, HT.sIx_none]
  by_cases h : i ≤ l.length
  · rw [Nat.min_eq_left h, List.take_of_length_le]
    rw [List.length_drop]
    omega
  · rw [List.drop_eq_nil_of_le (by omega), List.drop_eq_nil_of_le (by omega)]
    simp
theorem cut_to (l : List V) (j : Nat) : cutV l none (some (j : Int)) = l.take j := by
  unfold cutV
  rw [HT.sIx_nat, HT.sIx_none, List.drop_zero, List.take_eq_take_iff]
  omega
theorem cut_two (l : List V) (k : Nat) : cutV l (some ((k : Int) + 1)) (some ((k : Int) + 3)) = (l.drop (k + 1)).take 2 := by
  have q := cut_nat l (k + 1) (k + 3)
  have e : k + 3 - (k + 1) = 2 := by omega
  rw [e] at q
  exact q
theorem svs_drop (W : Ws) (k : Nat) : (svs W).drop k = svs (W.drop k) := by unfold svs; rw [List.map_drop]
theorem okW_drop {W : Ws} (h : okW W) (k : Nat) : okW (W.drop k) := fun w hw => h w (List.mem_of_mem_drop hw)
theorem celOf_of {l : List Nat} (h : isCelL l = true) : SX.S l = (celOf l).s := by
  obtain ⟨c, rfl⟩ := isCelL_iff h
  rw [celOf_l]
  rfl
theorem drop_back {W r : Ws} {k j : Nat} (h : W.drop k = r) (hk : k ≤ W.length) : r = W.drop (W.length - r.length) := by
  have e : r.length = W.length - k := by rw [← h, List.length_drop]
  have e2 : W.length - r.length = k := by omega
  rw [e2, h]
theorem seqP_some {f : Ws → Option (Part × Ws)} {m : Nat} {ws r : Ws} {p : Part} (h : f ws = some (p, r)) : seqP f (m + 1) ws = (match seqP f m r with | none => none | some (ps, r') => some (p :: ps, r')) := by
  rw [seqP, h]
theorem seqP_no {f : Ws → Option (Part × Ws)} {m : Nat} {ws : Ws} (h : f ws = none) : seqP f (m + 1) ws = none := by
  rw [seqP, h]
/-- the keys of a written dict, as texts -/
def dictKeys (es : Array DictEntry) : List Str := es.toList.filterMap fun e => match e.key with
  | .str x _ => some x
  | _ => none
theorem nsIn_none {K : PySem.W.Frag} {w : World} {a : Addr} {es : Array DictEntry} {n : Nat} (h : K.lookup a = some ⟨.type "dict", none, .dict es n, #[]⟩) (lit : PySem.W.KeysLit w.params es.toList) {ks : List Str} (hk : dictKeys es = ks) {z : Str} (hz : z ∉ ks) : PySem.W.nsIn K a z = some none := by
  have key : ∀ e ∈ es.toList, e.key.isStr z = false ∧ e.refKey = false := fun e he => by
    obtain ⟨x, t, ex, _⟩ := lit.all e he
    have mem : x ∈ ks := by
      rw [← hk]
      unfold dictKeys
      rw [List.mem_filterMap]
      exact ⟨e, he, by rw [ex]⟩
    constructor
    · rw [ex]
      cases q : (Value.str x t).isStr z with
      | false => rfl
      | true =>
        rw [PySem.W.isStr_of] at q
        obtain ⟨u, eu⟩ := Value.isStrOf_shape q
        cases eu
        exact absurd mem hz
    · unfold DictEntry.refKey
      rw [ex]
  unfold PySem.W.nsIn
  rw [h]
  simp only
  have f1 : es.toList.find? (fun e => e.key.isStr z) = none := List.find?_eq_none.mpr fun e he => by
    rw [(key e he).1]
    exact Bool.false_ne_true
  have f2 : es.toList.any (fun e => e.refKey) = false := List.any_eq_false.mpr fun e he => by
    rw [(key e he).2]
    exact Bool.false_ne_true
  rw [f1, f2]
  rfl
theorem partsF_mk {K : PySem.W.Frag} {w : World} {a : Addr} {es : Array DictEntry} {n : Nat} {t0 t1 t2 t3 : Tok} (h : K.lookup a = some ⟨.type "dict", none, .dict es n, #[]⟩) (lit : PySem.W.KeysLit w.params es.toList) (low : (a == sysModules) = false)
    (hk : dictKeys es = ([("add" : Str), "sub", "mul", "pick"] : List Str)) (v0 : PySem.W.nsIn K a "add" = some (some (.int 2 t0))) (v1 : PySem.W.nsIn K a "sub" = some (some (.int 2 t1))) (v2 : PySem.W.nsIn K a "mul" = some (some (.int 2 t2))) (v3 : PySem.W.nsIn K a "pick" = some (some (.int 4 t3))) : PartsF K w a := by
  have ea : ("add" : Str) = SX.S addL := by decide +kernel
  have es' : ("sub" : Str) = SX.S subL := by decide +kernel
  have em : ("mul" : Str) = SX.S mulL := by decide +kernel
  refine ⟨⟨es, n, h, lit, low⟩, fun l e => ?_, fun l e => ?_, fun l e => ?_⟩
  · unfold arity at e
    split at e
    · rename_i z
      rcases z with rfl | rfl | rfl
      · exact ⟨_, ea ▸ v0⟩
      · exact ⟨_, es' ▸ v1⟩
      · exact ⟨_, em ▸ v2⟩
    · split at e <;> cases e
  · unfold arity at e
    split at e
    · cases e
    · split at e
      · rename_i z
        rw [z]
        exact ⟨_, pickS ▸ v3⟩
      · cases e
  · refine nsIn_none h lit hk ?_
    unfold arity at e
    split at e
    · cases e
    · rename_i z1
      split at e
      · cases e
      · rename_i z2
        rw [ea, es', em, pickS]
        intro q
        simp only [List.mem_cons, List.not_mem_nil, or_false] at q
        rcases q with q | q | q | q
        · exact z1 (.inl (SX.S_inj q))
        · exact z1 (.inr (.inl (SX.S_inj q)))
        · exact z1 (.inr (.inr (SX.S_inj q)))
        · exact z2 (SX.S_inj q)
end U

namespace U
open PySem L2 PyProof.Rows
/-! ### a text is read: the mirror -/
def wsL (l : List Nat) : Ws := TL.spl [32] 0 [] l
def rd (l : List Nat) : Option (Option Part) :=
  if l = [] then some none
  else if isNumL l = true then some (some (.num (valL l)))
  else if (wsL l).head? ≠ some [61] then none
  else match pt 5 ((wsL l).drop 1) with
    | some (p, []) => if p.isNum = true then none else some (some p)
    | _ => none
theorem pre1 (c : Nat) (r : List Nat) : TL.pre [32] (c :: r) = decide (c = 32) := by
  unfold TL.pre
  by_cases h : c = 32
  · subst h; simp
  · simp [h]
theorem spl_len : ∀ (l acc w : List Nat), w ∈ TL.spl [32] 0 acc l → w.length ≤ acc.length + l.length
  | [], acc, w, h => by
    rw [TL.spl_nil] at h
    simp at h
    rw [h]
    simp
  | c :: r, acc, w, h => by
    by_cases e : c = 32
    · rw [TL.spl_hit (by rw [pre1, e]; rfl)] at h
      rcases List.mem_cons.mp h with q | q
      · rw [q]; simp
      · have := spl_len r [] w q
        simp only [List.length_nil, List.length_cons] at this ⊢
        omega
    · rw [TL.spl_miss (by rw [pre1]; exact decide_eq_false e)] at h
      have := spl_len r (acc ++ [c]) w h
      simp only [List.length_append, List.length_cons, List.length_nil] at this ⊢
      omega
theorem spl_ne (l acc : List Nat) : TL.spl [32] 0 acc l ≠ [] := by
  induction l generalizing acc with
  | nil => rw [TL.spl_nil]; simp
  | cons c r ih =>
    by_cases e : c = 32
    · rw [TL.spl_hit (by rw [pre1, e]; rfl)]; simp
    · rw [TL.spl_miss (by rw [pre1]; exact decide_eq_false e)]; exact ih _
theorem split_ws (l : List Nat) : Txt.split (SX.S l) " " = (wsL l).map SX.S := by
  rw [blank_eq]
  exact SX.split_S (by simp) (by decide)
theorem okW_ws {l : List Nat} (h : l.length ≤ 10000000) : okW (wsL l) := fun w hw => by
  have := spl_len l [] w hw
  simp only [List.length_nil] at this
  omega
def spRead (K : PySem.W.Frag) (CB : Addr) : Sp := fun vs H Q E => ∃ l : List Nat, vs = [.str (SX.S l)] ∧ l.length ≤ 10000000 ∧
  (∀ o, rd l = some o → ∀ (v : V) (H' : Hp), Same H H' → CA K H' o v → Q v H') ∧ (rd l = none → ∀ H', Same H H' → E (.ref CB) none H')
/-! ### what is written is read to the same -/
theorem numL_head {n : Nat} (h : n ≠ 0) : (TL.numL n).head? ≠ some 48 := by
  induction n using Nat.strongRecOn with
  | _ n ih =>
    by_cases hn : n < 10
    · rw [TL.numL_lt hn]
      simp
      omega
    · rw [TL.numL_step (by omega)]
      have := ih (n / 10) (by omega) (by omega)
      have ne := TL.numL_ne (n / 10)
      cases q : TL.numL (n / 10) with
      | nil => exact absurd q ne
      | cons c r =>
        rw [q] at this
        simpa using this
theorem numL_dig (n : Nat) : (TL.numL n).all isDig = true := by
  rw [List.all_eq_true]
  intro c hc
  have := TL.numL_digits n c hc
  simp [isDig, this]
theorem numL_not45 (n : Nat) : figsL (TL.numL n) = TL.numL n := by
  cases q : TL.numL n with
  | nil => rfl
  | cons c r =>
    refine figsL_ne r fun e => ?_
    have := TL.numL_free (n := n) (s := 45) (by omega)
    rw [q, e] at this
    exact this (by simp)
theorem isNumL_nl {n : Int} (h0 : -1000000 < n) (h1 : n < 1000000) : isNumL (nl n) = true := by
  cases n with
  | ofNat n =>
    have l6 := TL.numL_len (n := n) (k := 6) (by decide) (by simp only [Int.ofNat_eq_natCast] at h1; omega)
    show isNumL (TL.numL n) = true
    unfold isNumL
    rw [numL_not45, numL_dig, decide_eq_true l6]
    have ne := TL.numL_ne n
    simp only [Bool.true_and, Bool.and_eq_true, Bool.not_eq_true', List.isEmpty_eq_false_iff, Bool.or_eq_true, decide_eq_true_eq]
    refine ⟨ne, ?_⟩
    by_cases z : n = 0
    · left; rw [z, TL.numL_lt (by decide)]
    · right; exact numL_head z
  | negSucc n =>
    have l6 := TL.numL_len (n := n + 1) (k := 6) (by decide) (by omega)
    show isNumL (45 :: TL.numL (n + 1)) = true
    unfold isNumL
    rw [figsL_neg, numL_dig, decide_eq_true l6]
    have ne := TL.numL_ne (n + 1)
    simp only [Bool.true_and, Bool.and_eq_true, Bool.not_eq_true', List.isEmpty_eq_false_iff, Bool.or_eq_true, decide_eq_true_eq]
    exact ⟨ne, .inr (numL_head (by omega))⟩
theorem valL_nl (n : Int) : valL (nl n) = n := by
  cases n with
  | ofNat n =>
    show valL (TL.numL n) = _
    have e : valL (TL.numL n) = ((NumText.digitsVal (TL.numL n) : Nat) : Int) := by
      unfold valL
      split
      · rename_i q
        have := TL.numL_free (n := n) (s := 45) (by omega)
        rw [q] at this
        exact absurd (by simp) this
      · rfl
    rw [e, TL.numL_val]
    rfl
  | negSucc n =>
    show -((NumText.digitsVal (TL.numL (n + 1)) : Nat) : Int) = _
    rw [TL.numL_val]
    omega
theorem notNum {c : Nat} (r : List Nat) (h : c ≠ 45) (h2 : c < 48 ∨ 57 < c) : isNumL (c :: r) = false := by
  unfold isNumL
  rw [figsL_ne r h]
  have e : isDig c = false := by
    simp [isDig]
    omega
  simp [e]
theorem cel_notNum (c : Cel) : isNumL c.l = false := by
  have := c.hc
  exact notNum _ (by omega) (by omega)
theorem nl_notCel (n : Int) : isCelL (nl n) = false := by
  have key : ∀ m : Nat, ∀ c ∈ TL.numL m, 48 ≤ c ∧ c ≤ 57 := fun m => TL.numL_digits m
  cases h : isCelL (nl n) with
  | false => rfl
  | true =>
    obtain ⟨x, e⟩ := isCelL_iff h
    have hx := x.hc
    cases n with
    | ofNat n =>
      have := key n (97 + x.c) (by show _ ∈ nl (Int.ofNat n); rw [e]; simp [Cel.l])
      omega
    | negSucc n =>
      have e : (45 :: TL.numL (n + 1)) = [97 + x.c, 49 + x.r] := e
      simp at e
      omega
theorem w3_facts (w : W3) : isNumL w.l = false ∧ isCelL w.l = false ∧ w.l ≠ sumL ∧ arity w.l = some 2 ∧ w3of w.l = w := by
  cases w <;> refine ⟨by decide, by decide, by decide, by decide, by decide⟩
theorem pick_facts : isNumL pickL = false ∧ isCelL pickL = false ∧ pickL ≠ sumL ∧ arity pickL = some 4 := ⟨by decide, by decide, by decide, by decide⟩
theorem pt_word {n : Nat} {w : List Nat} {r : Ws} (h1 : isNumL w = false) (h2 : isCelL w = false) (h3 : w ≠ sumL) {m : Nat} (h4 : arity w = some m) {ps : List Part} {r' : Ws} (h5 : seqP (pt n) m r = some (ps, r')) {p : Part} (h6 : mkP w ps = some p) :
    pt (n + 1) (w :: r) = some (p, r') := by
  show (if isNumL w = true then _ else if isCelL w = true then _ else if w = sumL then _ else _) = _
  rw [h1, h2, if_neg Bool.false_ne_true, if_neg Bool.false_ne_true, if_neg h3, h4]
  simp only [h5, h6]
theorem pt_wl : ∀ (p : Part) (n : Nat) (r : Ws), p.good → p.hgt ≤ n → pt n (p.wl ++ r) = some (p, r)
  | .num m, n, r, g, h => by
    obtain ⟨k, rfl⟩ : ∃ k, n = k + 1 := ⟨n - 1, by have : 1 ≤ n := h; omega⟩
    show (if isNumL (nl m) = true then _ else _) = _
    rw [if_pos (isNumL_nl g.1 g.2), valL_nl]
    rfl
  | .cel c, n, r, g, h => by
    obtain ⟨k, rfl⟩ : ∃ k, n = k + 1 := ⟨n - 1, by have : 1 ≤ n := h; omega⟩
    show (if isNumL c.l = true then _ else if isCelL c.l = true then _ else _) = _
    rw [if_neg (by rw [cel_notNum]; exact Bool.false_ne_true), if_pos (isCelL_cel c), celOf_l]
    rfl
  | .sum c d, n, r, g, h => by
    obtain ⟨k, rfl⟩ : ∃ k, n = k + 1 := ⟨n - 1, by have : 1 ≤ n := h; omega⟩
    show (if isNumL sumL = true then _ else if isCelL sumL = true then _ else if sumL = sumL then sumP (c.l :: d.l :: r) else _) = _
    rw [if_neg (by decide), if_neg (by decide), if_pos rfl]
    show (if isCelL c.l = true ∧ isCelL d.l = true then some (Part.sum (celOf c.l) (celOf d.l), r) else none) = _
    rw [if_pos ⟨isCelL_cel c, isCelL_cel d⟩, celOf_l, celOf_l]
  | .op w p q, n, r, g, h => by
    obtain ⟨k, rfl⟩ : ∃ k, n = k + 1 := ⟨n - 1, by have : max p.hgt q.hgt + 1 ≤ n := h; omega⟩
    have h : max p.hgt q.hgt + 1 ≤ k + 1 := h
    obtain ⟨f1, f2, f3, f4, f5⟩ := w3_facts w
    have e1 := pt_wl p k (q.wl ++ r) g.1 (by omega)
    have e2 := pt_wl q k r g.2 (by omega)
    show pt (k + 1) (w.l :: ((p.wl ++ q.wl) ++ r)) = _
    rw [List.append_assoc]
    refine pt_word f1 f2 f3 f4 (ps := [p, q]) (by rw [seqP_some e1, seqP_some e2]; rfl) ?_
    show some (Part.op (w3of w.l) p q) = _
    rw [f5]
  | .pick p q s t, n, r, g, h => by
    obtain ⟨k, rfl⟩ : ∃ k, n = k + 1 := ⟨n - 1, by have : max (max p.hgt q.hgt) (max s.hgt t.hgt) + 1 ≤ n := h; omega⟩
    have h : max (max p.hgt q.hgt) (max s.hgt t.hgt) + 1 ≤ k + 1 := h
    obtain ⟨f1, f2, f3, f4⟩ := pick_facts
    have e1 := pt_wl p k (q.wl ++ (s.wl ++ (t.wl ++ r))) g.1 (by omega)
    have e2 := pt_wl q k (s.wl ++ (t.wl ++ r)) g.2.1 (by omega)
    have e3 := pt_wl s k (t.wl ++ r) g.2.2.1 (by omega)
    have e4 := pt_wl t k r g.2.2.2 (by omega)
    show pt (k + 1) (pickL :: ((p.wl ++ (q.wl ++ (s.wl ++ t.wl))) ++ r)) = _
    simp only [List.append_assoc]
    exact pt_word f1 f2 f3 f4 (ps := [p, q, s, t]) (by rw [seqP_some e1, seqP_some e2, seqP_some e3, seqP_some e4]; rfl) rfl
theorem wl_free : ∀ (p : Part), ∀ w ∈ p.wl, 32 ∉ w
  | .num n, w, h => by
    simp only [Part.wl, List.mem_singleton] at h
    rw [h]
    exact nl_free (by omega)
  | .cel c, w, h => by
    simp only [Part.wl, List.mem_singleton] at h
    rw [h]
    simp [Cel.l]
    omega
  | .sum c d, w, h => by
    simp only [Part.wl, List.mem_cons, List.not_mem_nil, or_false] at h
    rcases h with rfl | rfl | rfl
    · decide
    · simp [Cel.l]; omega
    · simp [Cel.l]; omega
  | .op o p q, w, h => by
    simp only [Part.wl, List.mem_cons, List.mem_append] at h
    rcases h with rfl | h | h
    · cases o <;> decide
    · exact wl_free p w h
    · exact wl_free q w h
  | .pick p q r t, w, h => by
    simp only [Part.wl, List.mem_cons, List.mem_append] at h
    rcases h with rfl | h | h | h | h
    · decide
    · exact wl_free p w h
    · exact wl_free q w h
    · exact wl_free r w h
    · exact wl_free t w h
theorem rd_ctx : ∀ {o : Option Part}, goodC o 5 → rd (ctx o) = some o
  | none, _ => rfl
  | some p, g => by
    by_cases hp : p.isNum = true
    · cases p with
      | num n =>
        show rd (nl n) = _
        unfold rd
        rw [if_neg (nl_ne n), if_pos (isNumL_nl g.1.1 g.1.2), valL_nl]
      | _ => exact absurd hp Bool.false_ne_true
    · have hp : p.isNum = false := Bool.eq_false_iff.mpr hp
      rw [ctx_not hp]
      have ej : [61, 32] ++ p.tx = TL.joinL [32] ([61] :: p.wl) := by
        have := joinL_app (s := [32]) (xs := [[61]]) (ys := p.wl) (by simp) p.wl_ne
        show [61, 32] ++ TL.joinL [32] p.wl = TL.joinL [32] ([[61]] ++ p.wl)
        rw [this]
        rfl
      have ew : wsL ([61, 32] ++ p.tx) = [61] :: p.wl := by
        rw [ej]
        refine TL.spl_join (by simp) fun w hw => ?_
        rcases List.mem_cons.mp hw with rfl | hw
        · decide
        · exact wl_free p w hw
      unfold rd
      rw [if_neg (by simp), if_neg (by rw [show [61, 32] ++ p.tx = 61 :: (32 :: p.tx) from rfl, notNum _ (by decide) (by decide)]; exact Bool.false_ne_true), ew, if_neg (by simp)]
      have e5 := pt_wl p 5 [] g.1 g.2
      rw [List.append_nil] at e5
      show (match pt 5 p.wl with | some (p, []) => if p.isNum = true then none else some (some p) | _ => none) = _
      rw [e5]
      simp [hp]
theorem str_cat_len (a b : Str) : (a ++ b).length = a.length + b.length := by
  show (a.cps ++ b.cps).size = _
  rw [Array.size_append]
  rfl
/-! ### contents as data -/
def Part.data : Part → PyData
  | .num n => .tuple [.str "num", .int n]
  | .cel c => .tuple [.str "cell", .str c.s]
  | .sum c d => .tuple [.str "sum", .str c.s, .str d.s]
  | .op w p q => .tuple [.str w.s, p.data, q.data]
  | .pick p q r t => .tuple [.str "pick", p.data, q.data, r.data, t.data]
theorem PA.dp {K : PySem.W.Frag} {H : Hp} : ∀ {p : Part} {v : V}, PA K H p v → Dp K H v p.data
  | .num n, v, ⟨a, e, h⟩ => e ▸ .tup h (.cons (.str _) (.cons (.int _) .nil))
  | .cel c, v, ⟨a, e, h⟩ => e ▸ .tup h (.cons (.str _) (.cons (.str _) .nil))
  | .sum c d, v, ⟨a, e, h⟩ => e ▸ .tup h (.cons (.str _) (.cons (.str _) (.cons (.str _) .nil)))
  | .op w p q, v, ⟨a, x, y, e, h, h1, h2⟩ => e ▸ .tup h (.cons (.str _) (.cons (PA.dp h1) (.cons (PA.dp h2) .nil)))
  | .pick p q r s, v, ⟨a, x, y, z, u, e, h, h1, h2, h3, h4⟩ => e ▸ .tup h (.cons (.str _) (.cons (PA.dp h1) (.cons (PA.dp h2) (.cons (PA.dp h3) (.cons (PA.dp h4) .nil)))))
theorem Part.data_depth : ∀ p : Part, PyData.depth p.data ≤ p.hgt
  | .num n => by simp [Part.data, Part.hgt, PyData.depth, PyData.depthAll]
  | .cel c => by simp [Part.data, Part.hgt, PyData.depth, PyData.depthAll]
  | .sum c d => by simp [Part.data, Part.hgt, PyData.depth, PyData.depthAll]
  | .op w p q => by
    have h1 := Part.data_depth p
    have h2 := Part.data_depth q
    simp only [Part.data, Part.hgt, PyData.depth, PyData.depthAll]
    omega
  | .pick p q r t => by
    have h1 := Part.data_depth p
    have h2 := Part.data_depth q
    have h3 := Part.data_depth r
    have h4 := Part.data_depth t
    simp only [Part.data, Part.hgt, PyData.depth, PyData.depthAll]
    omega
theorem Part.data_sz : ∀ p : Part, szOk p.data = true
  | .num n => by simp [Part.data, szOk, szAll]
  | .cel c => by simp [Part.data, szOk, szAll]
  | .sum c d => by simp [Part.data, szOk, szAll]
  | .op w p q => by simp [Part.data, szOk, szAll, Part.data_sz p, Part.data_sz q]
  | .pick p q r t => by simp [Part.data, szOk, szAll, Part.data_sz p, Part.data_sz q, Part.data_sz r, Part.data_sz t]
theorem dp_strs (K : PySem.W.Frag) (H : Hp) : ∀ l : List Str, DpAll K H (l.map V.str) (l.map PyData.str)
  | [] => .nil
  | x :: r => .cons (.str x) (dp_strs K H r)
theorem depth_strs : ∀ l : List Str, PyData.depthAll (l.map PyData.str) = 0
  | [] => by simp [PyData.depthAll]
  | x :: r => by simp [PyData.depthAll, PyData.depth, depth_strs r]
theorem sz_strs : ∀ l : List Str, szAll (l.map PyData.str) = true
  | [] => by simp [szAll]
  | x :: r => by simp [szAll, szOk, sz_strs r]
theorem dp_strl {K : PySem.W.Frag} {H : Hp} {r : Addr} {l : List Str} (h : H r = some (.lst (l.map V.str))) : Dp K H (.ref r) (.list (l.map PyData.str)) := .lst (SqL.of h) (dp_strs K H l)
theorem strl_ok {l : List Str} (h : l.length ≤ 1000000) : szOk (.list (l.map PyData.str)) = true := by
  simp [szOk, sz_strs, h]
/-- every text that a content reads is a cell: at most 54 of them -/
theorem cells_mem : ∀ (p : Part) (z : Str), z ∈ p.cells → ∃ c : Cel, z = c.s
  | .num n, z, h => by simp [Part.cells] at h
  | .cel c, z, h => by
    simp [Part.cells] at h
    exact ⟨c, h⟩
  | .sum c d, z, h => by
    obtain ⟨k, r, h1, h2, h3, h4, e⟩ := rowsL_mem.mp h
    have := c.hc
    have := d.hc
    have := c.hr
    have := d.hr
    exact ⟨⟨k, r, by omega, by omega⟩, e⟩
  | .op w p q, z, h => by
    rcases List.mem_append.mp h with h | h
    · exact cells_mem p z h
    · exact cells_mem q z h
  | .pick p q r t, z, h => by
    rcases List.mem_append.mp h with h | h
    · exact cells_mem p z h
    rcases List.mem_append.mp h with h | h
    · exact cells_mem q z h
    rcases List.mem_append.mp h with h | h
    · exact cells_mem r z h
    · exact cells_mem t z h
theorem foldU_nodup : ∀ (l acc : List Str), acc.Nodup → (l.foldl addU acc).Nodup
  | [], acc, h => h
  | x :: r, acc, h => by
    refine foldU_nodup r (addU acc x) ?_
    unfold addU
    split
    · exact h
    · rename_i q
      rw [List.nodup_append]
      refine ⟨h, by simp, ?_⟩
      rintro a ha b hb rfl
      simp at hb
      exact q (hb ▸ ha)
theorem reads_nodup (p : Part) : p.reads.Nodup := foldU_nodup _ _ List.nodup_nil
theorem reads_cel {p : Part} {z : Str} (h : z ∈ p.reads) : ∃ c : Cel, z = c.s := by
  have q := mem_foldU.mp h
  simp at q
  exact cells_mem p z q
def celNo (z : Str) : Nat := (z.cps.getD 0 0 - 97) * 9 + (z.cps.getD 1 0 - 49)
theorem celNo_s (c : Cel) : celNo c.s = c.c * 9 + c.r := by
  show (97 + c.c - 97) * 9 + (49 + c.r - 49) = _
  omega
theorem cels_54 {l : List Str} (nd : l.Nodup) (h : ∀ z ∈ l, ∃ c : Cel, z = c.s) : l.length ≤ 54 := by
  have nd2 : (l.map celNo).Nodup := by
    show (l.map celNo).Pairwise (· ≠ ·)
    rw [List.pairwise_map]
    refine List.Pairwise.imp_of_mem (fun {a b} ha hb hab e => ?_) nd
    obtain ⟨c, rfl⟩ := h a ha
    obtain ⟨d, rfl⟩ := h b hb
    rw [celNo_s, celNo_s] at e
    have h1 := c.hr
    have h2 := d.hr
    refine hab ?_
    unfold Cel.s Cel.l
    rw [show c.c = d.c by omega, show c.r = d.r by omega]
  have sub : l.map celNo ⊆ List.range 54 := by
    intro x hx
    obtain ⟨z, hz, rfl⟩ := List.mem_map.mp hx
    obtain ⟨c, rfl⟩ := h z hz
    rw [celNo_s, List.mem_range]
    have h1 := c.hc
    have h2 := c.hr
    omega
  have := nd2.length_le_of_subset sub
  simpa using this
theorem reads_54 (p : Part) : p.reads.length ≤ 54 := cels_54 (reads_nodup p) fun z h => reads_cel h
theorem readsC_54 (p : Option Part) : (readsC p).length ≤ 54 := by
  cases p with
  | none => simp [readsC]
  | some p => exact reads_54 p
theorem tx_le5 {p : Part} (h : p.good) (n : p.hgt ≤ 8) : (ctx (some p)).length ≤ 800000 := by
  cases p with
  | num m =>
    have := nl_len h.1 h.2
    show (nl m).length ≤ _
    omega
  | _ =>
    have := Part.tx_le h n
    rw [ctx_not rfl]
    simp only [List.length_append, List.length_cons, List.length_nil]
    omega
theorem ctx_le {o : Option Part} (h : goodC o 8) : (ctx o).length ≤ 800000 := by
  cases o with
  | none => simp [ctx]
  | some p => exact tx_le5 h.1 h.2
theorem goodC_mono {o : Option Part} {m n : Nat} (h : goodC o m) (l : m ≤ n) : goodC o n := by
  cases o with
  | none => trivial
  | some p => exact ⟨h.1, Nat.le_trans h.2 l⟩
/-- what law(script) promises: for a list of at most 63 ints the answer is True -/
def spLaw (K : PySem.W.Frag) : Sp := fun vs H Q _ => ∃ (a : Addr) (ns : List Int), vs = [.ref a] ∧ SqL K H a (ns.map V.int) ∧ ns.length ≤ 63 ∧ ∀ H', Q (.bl true) H'
end U

namespace U
open PySem L2 PyProof.Rows
/-! ### what is read is written just so -/
theorem ofNat_toNat {c : Nat} (h : c < 58) : (Char.ofNat c).toNat = c := by
  have : ∀ c : Nat, c < 58 → (Char.ofNat c).toNat = c := by decide
  exact this c h
theorem numL_back {f : List Nat} (hd : ∀ c ∈ f, 48 ≤ c ∧ c ≤ 57) (h0 : f ≠ []) (h : f = [48] ∨ f.head? ≠ some 48) : TL.numL (NumText.digitsVal f) = f := by
  obtain ⟨n, hn⟩ : ∃ n, f.length = n + 1 := ⟨f.length - 1, by have := List.length_pos_iff.mpr h0; omega⟩
  have q := NumText.toDigits_digitsVal n f hn hd (by
    rcases h with rfl | h
    · left; simp at hn; omega
    · right
      cases f with
      | nil => exact absurd rfl h0
      | cons c r =>
        refine ⟨c, r, rfl, ?_⟩
        have := hd c (by simp)
        simp at h
        omega)
  unfold TL.numL
  rw [q, List.map_map]
  have : ∀ l : List Nat, (∀ c ∈ l, 48 ≤ c ∧ c ≤ 57) → l.map (Char.toNat ∘ Char.ofNat) = l := by
    intro l
    induction l with
    | nil => intro _; rfl
    | cons c r ih =>
      intro h
      have hc := h c (by simp)
      rw [List.map_cons, ih fun d hm => h d (by simp [hm])]
      show (Char.ofNat c).toNat :: r = _
      rw [ofNat_toNat (by omega)]
  exact this f hd
theorem digitsVal_lt : ∀ (n : Nat) (f : List Nat), f.length = n → (∀ c ∈ f, 48 ≤ c ∧ c ≤ 57) → NumText.digitsVal f < 10 ^ n
  | 0, f, hl, _ => by
    rw [List.length_eq_zero_iff.mp hl]
    decide
  | n + 1, f, hl, h => by
    have hne : f ≠ [] := by intro e; rw [e] at hl; simp at hl
    have e := List.dropLast_concat_getLast hne
    have l1 : f.dropLast.length = n := by rw [List.length_dropLast, hl]; rfl
    have ih := digitsVal_lt n f.dropLast l1 fun d hm => h d (List.dropLast_subset f hm)
    have hc := h (f.getLast hne) (List.getLast_mem hne)
    rw [← e, NumText.digitsVal_snoc, Nat.pow_succ]
    omega
theorem isNumL_back {l : List Nat} (h : isNumL l = true) : nl (valL l) = l ∧ -1000000 < valL l ∧ valL l < 1000000 := by
  unfold isNumL at h
  simp only [Bool.and_eq_true, decide_eq_true_eq, List.all_eq_true, Bool.not_eq_true', List.isEmpty_eq_false_iff, Bool.or_eq_true] at h
  obtain ⟨h1, h2, h3, h4⟩ := h
  have dig : ∀ c ∈ figsL l, 48 ≤ c ∧ c ≤ 57 := fun c hc => by
    have := h1 c hc
    simpa [isDig] using this
  have lt := digitsVal_lt _ _ rfl dig
  have lt6 : NumText.digitsVal (figsL l) < 1000000 := Nat.lt_of_lt_of_le lt (show 10 ^ (figsL l).length ≤ 10 ^ 6 from Nat.pow_le_pow_right (by decide) h3)
  cases l with
  | nil => exact absurd rfl h2
  | cons c r =>
    by_cases e : c = 45
    · subst e
      rw [figsL_neg] at dig h2 h4 lt6
      have h4 : r.head? ≠ some 48 := by
        rcases h4 with h4 | h4
        · cases h4
        · exact h4
      have q := numL_back dig h2 (.inr h4)
      have ne0 : NumText.digitsVal r ≠ 0 := fun z => by
        rw [z, TL.numL_lt (by decide)] at q
        rw [← q] at h4
        exact h4 rfl
      have ev : valL (45 :: r) = -((NumText.digitsVal r : Nat) : Int) := rfl
      rw [ev]
      obtain ⟨k, hk⟩ : ∃ k, NumText.digitsVal r = k + 1 := ⟨NumText.digitsVal r - 1, by omega⟩
      rw [hk] at q lt6 ⊢
      refine ⟨?_, by omega, by omega⟩
      show 45 :: TL.numL (k + 1) = _
      rw [q]
    · rw [figsL_ne r e] at dig h2 h4 lt6
      have ev : valL (c :: r) = ((NumText.digitsVal (c :: r) : Nat) : Int) := by
        unfold valL
        split
        · rename_i z
          cases z
          exact absurd rfl e
        · rfl
      rw [ev]
      refine ⟨numL_back dig h2 h4, by omega, by omega⟩
theorem celOf_back {l : List Nat} (h : isCelL l = true) : (celOf l).l = l := by
  obtain ⟨c, rfl⟩ := isCelL_iff h
  rw [celOf_l]
def wls : List Part → Ws
  | [] => []
  | p :: r => p.wl ++ wls r
theorem seqP_back {f : Ws → Option (Part × Ws)} {n : Nat} (hf : ∀ ws p r, f ws = some (p, r) → ws = p.wl ++ r ∧ p.good ∧ p.hgt ≤ n) : ∀ (m : Nat) (ws r : Ws) (ps : List Part), seqP f m ws = some (ps, r) → ws = wls ps ++ r ∧ ∀ p ∈ ps, p.good ∧ p.hgt ≤ n
  | 0, ws, r, ps, h => by
    cases h
    exact ⟨rfl, fun _ h => nomatch h⟩
  | m + 1, ws, r, ps, h => by
    unfold seqP at h
    split at h
    · cases h
    · rename_i p r1 q1
      split at h
      · cases h
      · rename_i ps' r2 q2
        cases h
        obtain ⟨e1, g1⟩ := hf _ _ _ q1
        obtain ⟨e2, g2⟩ := seqP_back hf m _ _ _ q2
        refine ⟨by rw [e1, e2]; simp [wls], fun x hx => ?_⟩
        rcases List.mem_cons.mp hx with rfl | hx
        · exact g1
        · exact g2 x hx
theorem arity_two {w : List Nat} (h : arity w = some 2) : (w3of w).l = w := by
  unfold arity at h
  split at h
  · rename_i z
    unfold w3of
    rcases z with rfl | rfl | rfl
    · rw [if_pos rfl]; rfl
    · rw [if_neg (by decide), if_pos rfl]; rfl
    · rw [if_neg (by decide), if_neg (by decide)]; rfl
  · split at h <;> cases h
theorem arity_four {w : List Nat} (h : arity w = some 4) : w = pickL := by
  unfold arity at h
  split at h
  · cases h
  · split at h
    · assumption
    · cases h
theorem pt_back : ∀ (n : Nat) (ws : Ws) (p : Part) (r : Ws), pt n ws = some (p, r) → ws = p.wl ++ r ∧ p.good ∧ p.hgt ≤ n
  | 0, ws, p, r, h => by cases h
  | n + 1, [], p, r, h => by cases h
  | n + 1, w :: rest, p, r, h => by
    unfold pt at h
    split at h
    · rename_i hn
      cases h
      obtain ⟨e, g1, g2⟩ := isNumL_back hn
      exact ⟨by show _ = [nl (valL w)] ++ rest; rw [e]; rfl, ⟨g1, g2⟩, Nat.succ_le_succ (Nat.zero_le _)⟩
    · split at h
      · rename_i hc
        cases h
        exact ⟨by show _ = [(celOf w).l] ++ rest; rw [celOf_back hc]; rfl, trivial, Nat.succ_le_succ (Nat.zero_le _)⟩
      · split at h
        · rename_i hs
          subst hs
          unfold sumP at h
          split at h
          · split at h
            · rename_i hc
              cases h
              refine ⟨?_, trivial, Nat.succ_le_succ (Nat.zero_le _)⟩
              show _ = [sumL, (celOf _).l, (celOf _).l] ++ _
              rw [celOf_back hc.1, celOf_back hc.2]
              rfl
            · cases h
          · cases h
        · split at h
          · cases h
          · rename_i m hm
            split at h
            · cases h
            · rename_i ps r' hs
              have hl := seqP_len hs
              obtain ⟨e, g⟩ := seqP_back (fun ws p r => pt_back n ws p r) m _ _ _ hs
              split at h
              · cases h
              · rename_i p' hp
                cases h
                rcases arity_cases w with a | a | a
                · rw [a] at hm
                  cases hm
                  match ps, hl, hp, e, g with
                  | [x, y], _, hp, e, g =>
                    cases hp
                    have gx := g x (by simp)
                    have gy := g y (by simp)
                    refine ⟨?_, ⟨gx.1, gy.1⟩, ?_⟩
                    · show _ = (w3of w).l :: (x.wl ++ y.wl) ++ r
                      rw [arity_two a, e]
                      simp [wls]
                    · show max x.hgt y.hgt + 1 ≤ n + 1
                      omega
                · rw [a] at hm
                  cases hm
                  match ps, hl, hp, e, g with
                  | [x, y, z, t], _, hp, e, g =>
                    cases hp
                    have gx := g x (by simp)
                    have gy := g y (by simp)
                    have gz := g z (by simp)
                    have gt := g t (by simp)
                    refine ⟨?_, ⟨gx.1, gy.1, gz.1, gt.1⟩, ?_⟩
                    · show _ = pickL :: (x.wl ++ (y.wl ++ (z.wl ++ t.wl))) ++ r
                      rw [arity_four a, e]
                      simp [wls]
                    · show max (max x.hgt y.hgt) (max z.hgt t.hgt) + 1 ≤ n + 1
                      omega
                · rw [a] at hm
                  cases hm
theorem join_spl : ∀ (l acc : List Nat), TL.joinL [32] (TL.spl [32] 0 acc l) = acc ++ l
  | [], acc => by
    rw [TL.spl_nil]
    simp [TL.joinL]
  | c :: r, acc => by
    by_cases e : c = 32
    · rw [TL.spl_hit (by rw [pre1, e]; rfl)]
      have ih := join_spl r []
      cases q : TL.spl [32] 0 [] r with
      | nil => exact absurd q (spl_ne r [])
      | cons x xs =>
        rw [q] at ih
        show acc ++ ([32] ++ TL.joinL [32] (x :: xs)) = _
        rw [ih, e]
        rfl
    · rw [TL.spl_miss (by rw [pre1]; exact decide_eq_false e), join_spl r (acc ++ [c])]
      simp
theorem rd_back {l : List Nat} {o : Option Part} (h : rd l = some o) : ctx o = l ∧ goodC o 5 := by
  unfold rd at h
  split at h
  · rename_i e
    cases h
    exact ⟨e.symm, trivial⟩
  · split at h
    · rename_i hn
      cases h
      obtain ⟨e, g1, g2⟩ := isNumL_back hn
      exact ⟨e, ⟨g1, g2⟩, by show 1 ≤ 5; decide⟩
    · split at h
      · cases h
      · rename_i hh
        split at h
        · rename_i p hp
          split at h
          · cases h
          · rename_i hnum
            cases h
            obtain ⟨e, g1, g2⟩ := pt_back 5 _ _ _ hp
            rw [List.append_nil] at e
            have hnum : p.isNum = false := Bool.eq_false_iff.mpr hnum
            refine ⟨?_, g1, g2⟩
            rw [ctx_not hnum]
            have hw : wsL l = [61] :: p.wl := by
              have hh : (wsL l).head? = some [61] := by
                cases q : decide ((wsL l).head? = some [61]) with
                | true => exact of_decide_eq_true q
                | false => exact absurd (of_decide_eq_false q) hh
              cases q : wsL l with
              | nil => rw [q] at hh; cases hh
              | cons x xs =>
                rw [q] at hh e
                simp at hh
                rw [hh]
                simp at e
                rw [e]
            have j := join_spl l []
            have j : TL.joinL [32] (wsL l) = l := j
            rw [hw] at j
            rw [← j]
            have := joinL_app (s := [32]) (xs := [[61]]) (ys := p.wl) (by simp) p.wl_ne
            show [61, 32] ++ TL.joinL [32] p.wl = TL.joinL [32] ([[61]] ++ p.wl)
            rw [this]
            rfl
        · cases h
end U

namespace U
open PySem L2 PyProof.Rows
section
variable {X : Cx} {k : Nat} {x : Str} {ps : List Str} {sp : Sp} {p pos : Pos} {e : Expr} {es : List Expr} {t : TA} {E : L2.St → XK}
/-- a def that may raise, called within a try -/
theorem pc_s (c : CalX X.prog X.w X.K X.mg X.base k x ps sp) (hr : Room k X.A) (hg : Gl X x) (hx : ∀ σ, PassesAt (L2.CX X.prog X.w) X σ (E σ)) (ha : L2.PA X (e :: es) t)
    (hdb : (x == ("__debug__" : Str)) = false := by decide) (he : starEach (e :: es) X.env = (false, eval e X.env) :: starEach es X.env := by rfl) (hpl : (backTo pos (starEach es X.env)).any (·.1) = false := by rfl) :
    PE X (.Call (.Name x p) (e :: es) [] pos) (tCallS sp E t) := by
  obtain ⟨f, fd, F, hm, kp, b⟩ := c.ex
  exact pe_callS F hr hg hm kp b hx ha hdb he hpl
end
/-- isinstance of what the suite holds, told without its class -/
def rIsX (K : PySem.W.Frag) (D a : Addr) (cls : Value) (d : Option Addr) : List V → Hp → VK → Prop := fun xs H Q => cls = .ref D ∧ d = none ∧ rIsE K D a xs H Q
theorem call_isX {X : Cx} {a D : Addr} {cls : Value} {d : Option Addr} {oe : Obj} {pn : List (Addr × Obj)} (C : ExcC X.K D) (hz : Zc cls d oe) (hf : ∃ vs, oe.data = .fields vs) : CallR (X.suite a ((a, oe) :: pn)) (.builtin "isinstance") (rIsX X.K D a cls d) := by
  intro pins s σ H xs us Q I r h
  obtain ⟨rfl, rfl, h⟩ := h
  exact call_isE C hz hf pins s σ H xs us Q I r h
/-- what the written part says of an own exception class besides -/
structure ExcM (K : PySem.W.Frag) (C : Addr) : Prop where
  d : PySem.W.hasDictIn K C = true
  s : PySem.W.isClsIn K C = true
  r : PySem.W.subIn K (.ref C) (.ref C) = some true
theorem kit_sub {K : PySem.W.Frag} {mg : Str → Option Value} {x : Str} {C D : Addr} {b : Bool} (eC : ExcF K mg x C) (mC : ExcM K C) (mD : ExcM K D) (h : PySem.W.subIn K (.ref D) (.ref C) = some b) : PySem.W.kitOne K (.ref D) (.ref C) = some b := by
  have ec : ((PySem.W.clsIn K C).isSome && PySem.W.typeIn K (.ref C) == some (.type "type")) = true := by
    have q : (PySem.W.clsIn K C).isSome = true := mC.s
    rw [q, eC.t] <;> rfl
  unfold PySem.W.kitOne
  by_cases e : (Value.ref D == Value.ref C) = true
  · rw [if_pos e]
    have e2 : D = C := Value.ref.inj (beq_iff_eq.mp e)
    rw [← e2, mD.r] at h
    exact h
  · rw [if_neg e]
    show (if ((PySem.W.clsIn K C).isSome && PySem.W.typeIn K (.ref C) == some (.type "type")) = true then PySem.W.subIn K (.ref D) (.ref C) else none) = some b
    rw [if_pos ec]
    exact h
theorem kit_val {K : PySem.W.Frag} {D : Addr} {b : Bool} (h : PySem.W.subIn K (.ref D) (.type "ValueError") = some b) : PySem.W.kitOne K (.ref D) (.type "ValueError") = some b := by
  unfold PySem.W.kitOne
  rw [if_neg (by intro e; cases (beq_iff_eq.mp e))]
  show (if PySem.W.kitMeta "ValueError" = true then PySem.W.subIn K (.ref D) (.type "ValueError") else none) = some b
  rw [if_pos (by decide +kernel)]
  exact h
theorem exm_sub {K : PySem.W.Frag} {mg : Str → Option Value} {x : Str} {C D : Addr} {b : Bool} (eC : ExcF K mg x C) (mC : ExcM K C) (h : PySem.W.subIn K (.ref D) (.ref C) = some b) : PySem.W.exmOne K (.ref D) (.ref C) = some b :=
  PySem.W.exm_ref eC.b mC.d eC.t h
theorem isX_ref {K : PySem.W.Frag} {C D a : Addr} {b : Bool} {H : Hp} {Q : VK} (h : PySem.W.kitOne K (.ref D) (.ref C) = some b) (q : Q (.bl b) H) : rIsX K D a (.ref D) none [.ref a, .ref C] H Q :=
  ⟨rfl, rfl, _, .ref C, b, rfl, fun u r => r, h, q⟩
theorem isX_val {K : PySem.W.Frag} {D a : Addr} {b : Bool} {H : Hp} {Q : VK} (h : PySem.W.kitOne K (.ref D) (.type "ValueError") = some b) (q : Q (.bl b) H) : rIsX K D a (.ref D) none [.ref a, .ty "ValueError"] H Q :=
  ⟨rfl, rfl, _, .type "ValueError", b, rfl, fun u r => r, h, q⟩
theorem cut_le (z : Str) (lo hi : Option Int) : (cutS z lo hi).length ≤ z.length := by
  unfold cutS
  show (List.toArray _).size ≤ z.cps.size
  rw [List.size_toArray, List.length_take, List.length_drop, Array.length_toList]
  omega
theorem S_of (z : Str) : z = SX.S z.cps.toList := rfl
theorem len_of (z : Str) : z.cps.toList.length = z.length := rfl
theorem boot_ValueError : bootBuiltins "ValueError" = some (.type "ValueError") := by decide +kernel
theorem ix_listK {X : Cx} {K : PySem.W.Frag} (h : X.K = K) : IxR X (rIxL K) := h ▸ ix_list
theorem ix_tupK {X : Cx} {K : PySem.W.Frag} (h : X.K = K) : IxR X (rIxT K) := h ▸ ix_tup
end U

namespace U
open PySem L2 PyProof.Rows
structure GRef (mg : Str → Option Value) (x : Str) (C : Addr) : Prop where
  g : mg x = some (.ref C)
theorem op_notIn_K {X : Cx} {K : PySem.W.Frag} (h : X.K = K) : OpR X (compareOp .NotIn) (rIn K true) := h ▸ op_notIn_seq
theorem trq {X : Cx} {pn : List (Addr × Obj)} {xe : Value → Shared → Prop} {q : Str} (h : X.env.qual = q) : (X.tr pn xe).env.qual = q := h
theorem trs {X : Cx} {pn : List (Addr × Obj)} {xe : Value → Shared → Prop} (h : X.stack = X.env :: X.outer) : (X.tr pn xe).stack = (X.tr pn xe).env :: (X.tr pn xe).outer := h
theorem trf {X : Cx} {pn : List (Addr × Obj)} {xe : Value → Shared → Prop} (h : X.env.frame = some X.env.locals) : (X.tr pn xe).env.frame = some (X.tr pn xe).env.locals := h
theorem trc {X : Cx} {pn : List (Addr × Obj)} {xe : Value → Shared → Prop} {c : Addr} (h : X.env.code = .ref c) : (X.tr pn xe).env.code = .ref c := h
theorem trK {X : Cx} {pn : List (Addr × Obj)} {xe : Value → Shared → Prop} {K : PySem.W.Frag} (h : X.K = K) : (X.tr pn xe).K = K := h
theorem trM {X : Cx} {pn : List (Addr × Obj)} {xe : Value → Shared → Prop} {m : Str → Option Value} (h : X.mg = m) : (X.tr pn xe).mg = m := h
theorem kit_sub2 {K : PySem.W.Frag} {C D : Addr} {b : Bool} (ht : PySem.W.typeIn K (.ref C) = some (.type "type")) (hs : PySem.W.isClsIn K C = true) (mD : ExcM K D) (h : PySem.W.subIn K (.ref D) (.ref C) = some b) : PySem.W.kitOne K (.ref D) (.ref C) = some b := by
  have ec : ((PySem.W.clsIn K C).isSome && PySem.W.typeIn K (.ref C) == some (.type "type")) = true := by
    have q : (PySem.W.clsIn K C).isSome = true := hs
    rw [q, ht] <;> rfl
  unfold PySem.W.kitOne
  by_cases e : (Value.ref D == Value.ref C) = true
  · rw [if_pos e]
    have e2 : D = C := Value.ref.inj (beq_iff_eq.mp e)
    rw [← e2, mD.r] at h
    exact h
  · rw [if_neg e]
    show (if ((PySem.W.clsIn K C).isSome && PySem.W.typeIn K (.ref C) == some (.type "type")) = true then PySem.W.subIn K (.ref D) (.ref C) else none) = some b
    rw [if_pos ec]
    exact h
theorem pi_listK {X : Cx} {K : PySem.W.Frag} {tg e : Expr} {te : TE} (h : X.K = K) (he : PE X e te) : PI X tg e (iList K te) := h ▸ pi_list he
theorem op_eqD_K {X : Cx} {K : PySem.W.Frag} (hu : X.A.units + 64 < cLine) (h : X.K = K) : OpR X (compareOp .Eq) (rEqD K) := h ▸ op_eqD hu
theorem op_neD_K {X : Cx} {K : PySem.W.Frag} (hu : X.A.units + 64 < cLine) (h : X.K = K) : OpR X (compareOp .NotEq) (rNeD K) := h ▸ op_neD hu
def lamT (PT : Addr) : List (Addr × Str) := [(PT, ("law" : Str) ++ "<lambda>")]
/-! ### a comprehension whose test never holds, the test told at the block's own start -/
theorem back_X {X : Cx} {ps qs : List (Addr × Obj)} {τ σ : L2.St} {s s1 : Shared} {G H1 : Hp} {scope : Scope} {ce : Env} {fp : List Addr} (I : Inv X ps τ G s) (hfp : ∀ b ∈ fp, FpOk X ps G b) (I1 : Inv (X.blk s G scope ce fp) qs σ H1 s1) : Inv X ps τ H1 s1 := by
  apply I.call' (ch := fp) I1.os I1.base I1.hok I1.bare
  intro b mb
  have f := hfp b mb
  exact ⟨f.2.2.2.1, f.2.1, f.2.2.2.2.1, f.2.2.2.2.2⟩
/-- x(e) within such a block, x a def whose body is read where it is called: I is the maker's state -/
theorem pe_inB {X : Cx} {ps : List (Addr × Obj)} {τ : L2.St} {s : Shared} {G : Hp} {scope : Scope} {ce : Env} {fp : List Addr} {x qual a : Str} {st : Stmt} {g : Addr} {fd : FuncData} {N : List Str} {k : Nat} {e : Expr} {ta : TA} {p pos : Pos} {R : V → Hp → VK → Prop}
    (I : Inv X ps τ G s) (hfp : ∀ b ∈ fp, FpOk X ps G b) (F : Fun X.K x qual st g fd) (S : FnScope N [a] (defScope st)) (hm : X.mg x = some (.ref g)) (hb : Binds X.K fd [a] []) (hr : Room (k + 1) X.A)
    (hg : Gl (X.blk s G scope ce fp) x) (ha : L2.PA (X.blk s G scope ce fp) [e] ta)
    (body : ∀ (s1 : Shared) (H1 : Hp) (cdv : Value) (y : V) (Q : VK), Inv X ps τ H1 s1 → Room k (X.A.deeper (envOfC qual (defScope st) s1.heap.objs.size g cdv)) → R y H1 Q →
      ∃ t, PSs (cxOf CX0 X.prog X.w X.K X.mg X.base N qual (defScope st) g cdv X.A X.stack s1 H1 E0) (defBody st) t ∧ t { nx := fun _ H' => Q .non H', rt := Q } (L2.start N [y]) H1)
    (hdb : (x == ("__debug__" : Str)) = false := by decide) (he : starEach [e] ce = (false, eval e ce) :: starEach [] ce := by rfl) (hpl : (backTo pos (starEach [] ce)).any (·.1) = false := by rfl) :
    PE (X.blk s G scope ce fp) (.Call (.Name x p) [e] [] pos) (fun σ H Q => ta σ H fun vs H1 => ∃ y, vs = [y] ∧ R y H1 Q) := by
  constructor
  intro qs z σ H Q J h
  apply wpAny_Call_Name_kw (ld_glob J hg hm _ hdb)
  apply PySem.W.callWith_K (h₀ := X.base) J.ok.mod.kin F.kp (thn (ha.run pos qs z σ H _ J h) _) he hpl
  rintro us z1 ⟨vs, H1, J1, rv, y, rfl, r⟩
  refine ⟨J1.kIn, ?_⟩
  cases rv with
  | cons ry rn =>
    rename_i u _
    cases rn
    obtain ⟨oc, od, kV, doc, pm, an, cdv, ct, osl, efd, lk, hcd⟩ := F.ex
    subst efd
    have rc : codeAny (model X.prog X.w) X.A (.call (.ref g) ⟨[u], []⟩) (CR CX0 X.stack X.prog X.w H1 z1 Q E0) z1 := by
      apply LamX.run_ofS (N := N) (ps := [a]) (us := [u]) (vs := [y]) lk hcd S hr J1.env0 (hb z1 [u] J1.kIn rfl) (.cons ry .nil) rfl
      intro hr'
      exact body z1 H1 cdv y Q (back_X I hfp J1) hr' r
    apply wpAny_call (codeAny_mono rc _)
    intro q z2 hq
    cases q with
    | error e => exact (show False from hq).elim
    | ok fl =>
      cases fl with
      | ret u => exact J1.after hq
      | _ => exact False.elim hq
/-! ### lambdas in a list -/
section
variable {X : Cx} {T : List (Addr × Str)} {c P : Addr} {params : Arguments} {body : Expr} {scope : Scope} {lpos pos : Pos}
abbrev lamO (X : Cx) (params : Arguments) (body : Expr) (scope : Scope) (c' : Addr) (pm ctv : Value) : Obj := PySem.W.kla_obj "<lambda>" (X.env.qual ++ "<lambda>") params body scope (cloFrom X.env.cells scope.names []) pm c' ctv
/-- [lambda: ..] as arguments: the new function is pinned -/
theorem run_lam {ps : List (Addr × Obj)} {τ : L2.St} {s : Shared} {H : Hp} {Q : List Value → Shared → Prop} (I : Inv X ps τ H s) (hst : X.stack = X.env :: X.outer) (hfr : X.env.frame = some X.env.locals)
    (TB : LamX.TabB X.base X.mg c P) (hcode : X.env.code = .ref c) (hmT : (P, X.env.qual ++ "<lambda>") ∈ T) (hu : ∀ p ∈ T, p.1 = P → p.2 = X.env.qual ++ "<lambda>") (hT : LamX.Tabs T H) (hdef : defaultsOf params X.env = ([], [])) (L : LamX.LamS X.env.scope scope)
    (hq : ∀ (f c' : Addr) (pm ctv : Value) (H1 : Hp) (s' : Shared), Inv X ((f, lamO X params body scope c' pm ctv) :: ps) τ H1 s' → LamX.ExtN H H1 → LamX.Tabs T H1 → f ∉ frs X.stack → H1 c' = some (LamX.CodeO c' (X.env.qual ++ "<lambda>")) → Q [.ref f] s') :
    wpAny (model X.prog X.w) X.A (spliced [(false, eval (.Lambda params body scope lpos) X.env)]) Q X.xe s := by
  apply Calls.spliced_cons
  apply LamX.lam_make2 I TB hcode hmT hu hT hdef (L.has I.ok)
  intro f c' pm ctv H1 s' I1 eN T1 hf hfn nfr hco
  apply Calls.spliced_nil
  apply hq f c' pm ctv H1 s' _ eN T1 nfr hco
  apply I1.pins_of
  intro q mq
  cases List.mem_cons.mp mq with
  | inr m => exact I1.pin q (List.mem_append_right _ m)
  | inl e =>
    subst e
    refine ⟨hf, hfn, fun z => nfr ?_, fun m => nfr ?_, fun v z => by cases z⟩
    · rw [hst]
      exact List.mem_filterMap.mpr ⟨X.env, List.mem_cons_self, by rw [hfr]; exact congrArg some z.symm⟩
    · rw [hst]
      obtain ⟨e, me, q⟩ := List.mem_filterMap.mp m
      exact List.mem_filterMap.mpr ⟨e, List.mem_cons_of_mem _ me, q⟩
/-- behind such a statement -/
theorem sp_back {ps : List (Addr × Obj)} {q : Addr × Obj} {D : Ends} {f : Flow} {s' : Shared} (ok : X.Ok) (h : SP (X.tr (X.pn ++ q :: ps) X.xe) [] D f s') : SP X ps D f s' := by
  have w : ∀ {σ' : L2.St} {H' : Hp}, Inv (X.tr (X.pn ++ q :: ps) X.xe) [] σ' H' s' → Inv X ps σ' H' s' := by
    intro σ' H' J
    have J := J.ofTry ok
    apply J.pins_of
    intro r mr
    exact J.pin r (List.mem_append_right _ (List.mem_cons_of_mem _ mr))
  cases f with
  | ret u =>
    obtain ⟨v, σ', H', J, r⟩ := h
    exact ⟨v, σ', H', w J, r⟩
  | _ =>
    obtain ⟨σ', H', J, r⟩ := h
    exact ⟨σ', H', w J, r⟩
/-- x = [lambda: ..] and what follows -/
theorem pss_setLam {i : Nat} {x : Str} {p p2 : Pos} {rest : List Stmt} {u : Addr → Addr → Value → Value → TS} (hst : X.stack = X.env :: X.outer) (hfr : X.env.frame = some X.env.locals) (hN : X.N.Nodup) (hi : X.N[i]? = some x) (hx : Loc X.env.scope x)
    (TB : LamX.TabB X.base X.mg c P) (hcode : X.env.code = .ref c) (hmT : (P, X.env.qual ++ "<lambda>") ∈ T) (hu : ∀ p ∈ T, p.1 = P → p.2 = X.env.qual ++ "<lambda>") (hdef : defaultsOf params X.env = ([], [])) (L : LamX.LamS X.env.scope scope)
    (hrest : ∀ (f c' : Addr) (pm ctv : Value) (pn : List (Addr × Obj)), (∀ q ∈ X.pn, q ∈ pn) → (f, lamO X params body scope c' pm ctv) ∈ pn → f ∉ frs X.stack → PSs (X.tr pn X.xe) rest (u f c' pm ctv))
    (hs : swapsWith (.List [.Lambda params body scope lpos] p2) (some (.Name x p)) pos.line X.env = pure false := by rfl) (hf : X.fn x = true ∨ X.env.scope.names.lookup x = some .local := by first | exact .inl rfl | exact .inr rfl | assumption) :
    PSs X (.Assign [.Name x p] (.List [.Lambda params body scope lpos] p2) pos :: rest) (fun D σ H => LamX.Tabs T H ∧ ∀ (f c' : Addr) (pm ctv : Value) (H1 : Hp) (w : Addr), LamX.ExtN H H1 → LamX.Tabs T H1 → H1 c' = some (LamX.CodeO c' (X.env.qual ++ "<lambda>")) → H1 w = none →
      u f c' pm ctv D (σ.set i (some (.ref w))) (upd H1 w (.lst [.ref f]))) := by
  constructor
  intro ps s τ H D I h
  apply wpAny_execs_cons
  apply wpAny_Assign_Name _ hs
  apply wpAny_List_spliced
  apply run_lam I hst hfr TB hcode hmT hu h.1 hdef L
  intro f c' pm ctv H1 s' J eN T1 nf hco
  refine ⟨small (by show 1 ≤ 1000; decide), ?_⟩
  have fr := J.hok.fresh (Nat.le_refl s'.heap.objs.size)
  have J2 : Inv X ((f, lamO X params body scope c' pm ctv) :: ps) τ (upd H1 s'.heap.objs.size (.lst [.ref f])) { s' with heap := s'.heap.push { cls := .type "list", data := .seq [Value.ref f].toArray } } := by
    apply J.laid (t' := s'.toks) (fun b o e => Heap.get?_push_of_some _ e) (Nat.le_refl _)
    exact ⟨small (by show 1 ≤ 1000; decide), [.ref f], 0, .cons rfl .nil, Heap.get?_push_size _ rfl⟩
  apply store_ok (v := .ref s'.heap.objs.size) J2 hN hi hx rfl _ hf
  intro s2 J3
  apply thn ((hrest f c' pm ctv (X.pn ++ (f, lamO X params body scope c' pm ctv) :: ps) (fun q m => List.mem_append_left _ m) (List.mem_append_right _ List.mem_cons_self) nf).run [] s2 _ _ D (J3.toTry X.xe) (h.2 f c' pm ctv H1 _ eN T1 hco fr))
  intro fl s3 r
  exact sp_back I.ok r
/-- x.append(lambda: ..) and what follows -/
theorem pss_appLam {i : Nat} {x : Str} {p ap cp : Pos} {rest : List Stmt} {u : Addr → Addr → Value → Value → TS} (hst : X.stack = X.env :: X.outer) (hfr : X.env.frame = some X.env.locals) (hx : PE X (.Name x p) (tVar i))
    (TB : LamX.TabB X.base X.mg c P) (hcode : X.env.code = .ref c) (hmT : (P, X.env.qual ++ "<lambda>") ∈ T) (hu : ∀ p ∈ T, p.1 = P → p.2 = X.env.qual ++ "<lambda>") (hdef : defaultsOf params X.env = ([], [])) (L : LamX.LamS X.env.scope scope)
    (hrest : ∀ (f c' : Addr) (pm ctv : Value) (pn : List (Addr × Obj)), (∀ q ∈ X.pn, q ∈ pn) → (f, lamO X params body scope c' pm ctv) ∈ pn → f ∉ frs X.stack → PSs (X.tr pn X.xe) rest (u f c' pm ctv))
    (hs : swapsWith (.Call (.Attribute (.Name x p) "append" ap) [.Lambda params body scope lpos] [] cp) none pos.line X.env = pure false := by rfl)
    (hbase : attributeBase (.Name x p) "append" X.env (eval (.Name x p) X.env) = eval (.Name x p) X.env := by rfl)
    (hfew : ((backTo cp (starEach [.Lambda params body scope lpos] X.env)).all (fun x => !x.1) && (backToKw cp (keywordEach [] X.env)).all (fun x => x.1.isSome) && decide (([.Lambda params body scope lpos] : List Expr).length + ([] : List Keyword).length + (if ([] : List Keyword).isEmpty then 0 else 1) < 30)) = true := by rfl)
    (hline : (ap.endLine == cp.line) = true := by rfl) :
    PSs X (.Expr (.Call (.Attribute (.Name x p) "append" ap) [.Lambda params body scope lpos] [] cp) pos :: rest) (fun D σ H => LamX.Tabs T H ∧ ∃ (w : Addr), σ[i]? = some (some (.ref w)) ∧ (∃ xs, H w = some (.lst xs)) ∧ ∀ (f c' : Addr) (pm ctv : Value) (H1 : Hp) (xs : List V), LamX.ExtN H H1 → LamX.Tabs T H1 → H1 c' = some (LamX.CodeO c' (X.env.qual ++ "<lambda>")) → H1 w = some (.lst xs) →
      xs.length < sizeLine ∧ u f c' pm ctv D σ (upd H1 w (.lst (xs ++ [.ref f])))) := by
  constructor
  intro ps s τ H D I h
  obtain ⟨hT, w, hw, ⟨xs, hl⟩, h⟩ := h
  apply wpAny_execs_cons
  apply wpAny_Expr_any _ I.quiet hs
  apply wpAny_Call_method_late hbase hfew hline rfl
  apply thn (hx.run ps s τ H (fun v H1 => v = .ref w ∧ H1 = H) I ⟨_, hw, rfl, rfl⟩)
  rintro v s1 ⟨_, _, J, rv, rfl, rfl⟩
  obtain ⟨t1, t2⟩ := tyV_is (T := "list") J rv (.inl ⟨rfl, _, SqL.of hl⟩)
  refine ⟨"list", _, PySem.F.plainAttrs_list, PySem.F.slot_list_append, PySem.F.type_list_append, t1, t2, ?_⟩
  apply Calls.callWith_builtin rfl
  apply Calls.evalArgs_plain
  apply run_lam J hst hfr TB hcode hmT hu hT hdef L
  intro f c' pm ctv H1 s' J1 eN T1 nf hco
  have hw1 := eN w _ hl (fun ps z => by cases z)
  obtain ⟨hz, hu2⟩ := h f c' pm ctv H1 xs eN T1 hco hw1
  apply thn (mt_append _ s' τ H1 (.ref w) [.ref f] v [.ref f] (fun _ H' => H' = upd H1 w (.lst (xs ++ [.ref f]))) J1 rv (.cons rfl .nil) ⟨w, xs, .ref f, rfl, rfl, hw1, hz, rfl⟩)
  rintro _ s3 ⟨_, _, J3, _, rfl⟩
  apply thn ((hrest f c' pm ctv (X.pn ++ (f, lamO X params body scope c' pm ctv) :: ps) (fun q m => List.mem_append_left _ m) (List.mem_append_right _ List.mem_cons_self) nf).run [] s3 _ _ D (J3.toTry X.xe) hu2)
  intro fl s4 r
  exact sp_back I.ok r
theorem pss_setLam1 {i : Nat} {x : Str} {p p2 : Pos} {rest : List Stmt} {u : Addr → Addr → Value → Value → TS} (hst : X.stack = X.env :: X.outer) (hfr : X.env.frame = some X.env.locals) (hN : X.N.Nodup) (hi : X.N[i]? = some x) (hx : Loc X.env.scope x)
    (TB : LamX.TabB X.base X.mg c P) (hcode : X.env.code = .ref c) (hdef : defaultsOf params X.env = ([], [])) (L : LamX.LamS X.env.scope scope)
    (hrest : ∀ (f c' : Addr) (pm ctv : Value) (pn : List (Addr × Obj)), (∀ q ∈ X.pn, q ∈ pn) → (f, lamO X params body scope c' pm ctv) ∈ pn → f ∉ frs X.stack → PSs (X.tr pn X.xe) rest (u f c' pm ctv))
    (hs : swapsWith (.List [.Lambda params body scope lpos] p2) (some (.Name x p)) pos.line X.env = pure false := by rfl) (hf : X.fn x = true ∨ X.env.scope.names.lookup x = some .local := by first | exact .inl rfl | exact .inr rfl | assumption) :
    PSs X (.Assign [.Name x p] (.List [.Lambda params body scope lpos] p2) pos :: rest) (fun D σ H => LamX.Tabs [(P, X.env.qual ++ "<lambda>")] H ∧ ∀ (f c' : Addr) (pm ctv : Value) (H1 : Hp) (w : Addr), LamX.ExtN H H1 → LamX.Tabs [(P, X.env.qual ++ "<lambda>")] H1 → H1 c' = some (LamX.CodeO c' (X.env.qual ++ "<lambda>")) → H1 w = none →
      u f c' pm ctv D (σ.set i (some (.ref w))) (upd H1 w (.lst [.ref f]))) :=
  pss_setLam hst hfr hN hi hx TB hcode (List.mem_singleton.mpr rfl) (fun p m _ => by rw [List.mem_singleton.mp m]) hdef L hrest hs hf
theorem pss_appLam1 {i : Nat} {x : Str} {p ap cp : Pos} {rest : List Stmt} {u : Addr → Addr → Value → Value → TS} (hst : X.stack = X.env :: X.outer) (hfr : X.env.frame = some X.env.locals) (hx : PE X (.Name x p) (tVar i))
    (TB : LamX.TabB X.base X.mg c P) (hcode : X.env.code = .ref c) (hdef : defaultsOf params X.env = ([], [])) (L : LamX.LamS X.env.scope scope)
    (hrest : ∀ (f c' : Addr) (pm ctv : Value) (pn : List (Addr × Obj)), (∀ q ∈ X.pn, q ∈ pn) → (f, lamO X params body scope c' pm ctv) ∈ pn → f ∉ frs X.stack → PSs (X.tr pn X.xe) rest (u f c' pm ctv))
    (hs : swapsWith (.Call (.Attribute (.Name x p) "append" ap) [.Lambda params body scope lpos] [] cp) none pos.line X.env = pure false := by rfl)
    (hbase : attributeBase (.Name x p) "append" X.env (eval (.Name x p) X.env) = eval (.Name x p) X.env := by rfl)
    (hfew : ((backTo cp (starEach [.Lambda params body scope lpos] X.env)).all (fun x => !x.1) && (backToKw cp (keywordEach [] X.env)).all (fun x => x.1.isSome) && decide (([.Lambda params body scope lpos] : List Expr).length + ([] : List Keyword).length + (if ([] : List Keyword).isEmpty then 0 else 1) < 30)) = true := by rfl)
    (hline : (ap.endLine == cp.line) = true := by rfl) :
    PSs X (.Expr (.Call (.Attribute (.Name x p) "append" ap) [.Lambda params body scope lpos] [] cp) pos :: rest) (fun D σ H => LamX.Tabs [(P, X.env.qual ++ "<lambda>")] H ∧ ∃ (w : Addr), σ[i]? = some (some (.ref w)) ∧ (∃ xs, H w = some (.lst xs)) ∧ ∀ (f c' : Addr) (pm ctv : Value) (H1 : Hp) (xs : List V), LamX.ExtN H H1 → LamX.Tabs [(P, X.env.qual ++ "<lambda>")] H1 → H1 c' = some (LamX.CodeO c' (X.env.qual ++ "<lambda>")) → H1 w = some (.lst xs) →
      xs.length < sizeLine ∧ u f c' pm ctv D σ (upd H1 w (.lst (xs ++ [.ref f])))) :=
  pss_appLam hst hfr hx TB hcode (List.mem_singleton.mpr rfl) (fun p m _ => by rw [List.mem_singleton.mp m]) hdef L hrest hs hbase hfew hline
theorem pss_setLamQ {q : Str} {i : Nat} {x : Str} {p p2 : Pos} {rest : List Stmt} {u : Addr → Addr → Value → Value → TS} (hq : X.env.qual = q) (hst : X.stack = X.env :: X.outer) (hfr : X.env.frame = some X.env.locals) (hN : X.N.Nodup) (hi : X.N[i]? = some x) (hx : Loc X.env.scope x)
    (TB : LamX.TabB X.base X.mg c P) (hcode : X.env.code = .ref c) (hdef : defaultsOf params X.env = ([], [])) (L : LamX.LamS X.env.scope scope)
    (hrest : ∀ (f c' : Addr) (pm ctv : Value) (pn : List (Addr × Obj)), (∀ q ∈ X.pn, q ∈ pn) → (f, lamO X params body scope c' pm ctv) ∈ pn → f ∉ frs X.stack → PSs (X.tr pn X.xe) rest (u f c' pm ctv))
    (hs : swapsWith (.List [.Lambda params body scope lpos] p2) (some (.Name x p)) pos.line X.env = pure false := by rfl) (hf : X.fn x = true ∨ X.env.scope.names.lookup x = some .local := by first | exact .inl rfl | exact .inr rfl | assumption) :
    PSs X (.Assign [.Name x p] (.List [.Lambda params body scope lpos] p2) pos :: rest) (fun D σ H => LamX.Tabs [(P, q ++ "<lambda>")] H ∧ ∀ (f c' : Addr) (pm ctv : Value) (H1 : Hp) (w : Addr), LamX.ExtN H H1 → LamX.Tabs [(P, q ++ "<lambda>")] H1 → H1 c' = some (LamX.CodeO c' (q ++ "<lambda>")) → H1 w = none →
      u f c' pm ctv D (σ.set i (some (.ref w))) (upd H1 w (.lst [.ref f]))) := by
  subst hq
  exact pss_setLam1 hst hfr hN hi hx TB hcode hdef L hrest hs hf
theorem pss_appLamQ {q : Str} {i : Nat} {x : Str} {p ap cp : Pos} {rest : List Stmt} {u : Addr → Addr → Value → Value → TS} (hq : X.env.qual = q) (hst : X.stack = X.env :: X.outer) (hfr : X.env.frame = some X.env.locals) (hx : PE X (.Name x p) (tVar i))
    (TB : LamX.TabB X.base X.mg c P) (hcode : X.env.code = .ref c) (hdef : defaultsOf params X.env = ([], [])) (L : LamX.LamS X.env.scope scope)
    (hrest : ∀ (f c' : Addr) (pm ctv : Value) (pn : List (Addr × Obj)), (∀ q ∈ X.pn, q ∈ pn) → (f, lamO X params body scope c' pm ctv) ∈ pn → f ∉ frs X.stack → PSs (X.tr pn X.xe) rest (u f c' pm ctv))
    (hs : swapsWith (.Call (.Attribute (.Name x p) "append" ap) [.Lambda params body scope lpos] [] cp) none pos.line X.env = pure false := by rfl)
    (hbase : attributeBase (.Name x p) "append" X.env (eval (.Name x p) X.env) = eval (.Name x p) X.env := by rfl)
    (hfew : ((backTo cp (starEach [.Lambda params body scope lpos] X.env)).all (fun x => !x.1) && (backToKw cp (keywordEach [] X.env)).all (fun x => x.1.isSome) && decide (([.Lambda params body scope lpos] : List Expr).length + ([] : List Keyword).length + (if ([] : List Keyword).isEmpty then 0 else 1) < 30)) = true := by rfl)
    (hline : (ap.endLine == cp.line) = true := by rfl) :
    PSs X (.Expr (.Call (.Attribute (.Name x p) "append" ap) [.Lambda params body scope lpos] [] cp) pos :: rest) (fun D σ H => LamX.Tabs [(P, q ++ "<lambda>")] H ∧ ∃ (w : Addr), σ[i]? = some (some (.ref w)) ∧ (∃ xs, H w = some (.lst xs)) ∧ ∀ (f c' : Addr) (pm ctv : Value) (H1 : Hp) (xs : List V), LamX.ExtN H H1 → LamX.Tabs [(P, q ++ "<lambda>")] H1 → H1 c' = some (LamX.CodeO c' (q ++ "<lambda>")) → H1 w = some (.lst xs) →
      xs.length < sizeLine ∧ u f c' pm ctv D σ (upd H1 w (.lst (xs ++ [.ref f])))) := by
  subst hq
  exact pss_appLam1 hst hfr hx TB hcode hdef L hrest hs hbase hfew hline
end
section
variable {X : Cx} {elt tg iter : Expr} {ifs : List Expr} {scope : Scope} {own : List (Str × Nat)} {pos : Pos} {wi : TI} {g : TG} {tt : TT}
theorem pe_lcN {Pr : L2.St → Prop} (hcalm : X.calm = true) (nd : X.N.Nodup) (hi : PI X tg iter wi) (ok : BlkOk X.N X.env.scope scope own)
    (hb : ∀ (ps : List (Addr × Obj)) (τ : L2.St) (s : Shared) (G : Hp) (C : Addr) (cl : List (Str × Addr)) (fp : List Addr), Inv X ps τ G s → (∀ b ∈ fp, FpOk X ps G b) → Pr τ →
      PG (X.blk s G scope (compEnvC scope cl C X.env) fp) tg g ∧ PTs (X.blk s G scope (compEnvC scope cl C X.env) fp) ifs tt)
    (hfs : ∀ x, foldedSetIterable iter X.env x = pure x := by intro _; rfl) :
    PE X (.ListComp elt [⟨tg, iter, ifs, 0⟩] scope pos) (fun σ H Q => Pr σ ∧ tLc wi g tt (fun _ _ _ => False) (own.map (·.2)) σ H Q) := by
  constructor
  intro ps s τ G Q I h
  obtain ⟨hPr, h⟩ := h
  have cells : ∀ y ∈ scope.names, y.2 = .free → ∃ c, X.env.cells.lookup y.1 = some c := by
    intro y my ey
    cases ok.free y my ey with
    | inl k => exact I.ok.has _ (.inl k)
    | inr k => exact I.ok.has _ (.inr k)
  rw [eval_ListComp]
  apply wpAny_comprehension_free (use := none) rfl hfs (closure_ok cells) ok.kind
  · intro y my ey
    rw [ok.uniq y my, ey]
  apply thn (hi.run ps s τ G _ I h)
  intro xv sa ha
  apply thn ha
  rintro itv sb ⟨it, fp, tn, J, Gb, rfl, Ib, T, tb, fb, rd⟩
  refine wpAny_newObj_type (newEnv_comp ?_) (Nat.zero_le _)
  obtain ⟨D, eD⟩ : ∃ D, sb.heap.objs.size = D := ⟨_, rfl⟩
  rw [eD]
  obtain ⟨W, ⟨m0, w0⟩, turn⟩ := rd D (Ib.hok.fresh (Nat.le_of_eq eD))
  have gD := Ib.hok.fresh (Nat.le_of_eq eD)
  obtain ⟨sc, esc⟩ : ∃ z : Shared, z = { sb with heap := sb.heap.push { cls := .type "list", data := .seq ([] : List Value).toArray } } := ⟨_, rfl⟩
  have hc : sc.heap = sb.heap.push { cls := .type "list", data := .seq ([] : List Value).toArray } := congrArg Shared.heap esc
  have up : ∀ b o, sb.heap.get? b = some o → sc.heap.get? b = some o := by
    intro b o e
    rw [hc]
    exact Heap.get?_push_of_some _ e
  have Ic : Inv X ps τ (upd Gb D (.lst [])) sc := by
    subst esc
    apply Ib.laid (t' := sb.toks) up (Nat.le_of_eq eD)
    refine ⟨Nat.zero_le _, [], 0, .nil, ?_⟩
    rw [← eD]
    exact Heap.get?_push_size _ rfl
  obtain ⟨Gc, eG⟩ : ∃ z, z = upd Gb D (.lst []) := ⟨_, rfl⟩
  rw [← eG] at Ic w0
  have fc : ∀ b ∈ fp, FpOk X ps Gc b ∧ b < sc.heap.objs.size := by
    intro b mb
    obtain ⟨o, eo, _⟩ := T.obj _ _ tb b mb
    have lt := Heap.lt_size eo
    constructor
    · refine ⟨?_, (fb b mb).2⟩
      rw [eG, L2.upd_ne (show b ≠ D by rw [← eD]; exact Nat.ne_of_lt lt)]
      exact (fb b mb).1
    · exact Heap.lt_size (up _ _ eo)
  have tc := T.keep _ _ _ tb fun b _ o e => up b o e
  have Id := block_start Ic ok nd fc
  obtain ⟨pg, pt⟩ := hb ps τ sc Gc sc.heap.objs.size (cellsFrom (sc.heap.objs.size + 1) scope.names (cloFrom X.env.cells scope.names [])) fp Ic (fun b mb => (fc b mb).1) hPr
  rw [← esc]
  obtain ⟨ce, ece⟩ : ∃ z, z = compEnvC scope (cellsFrom (sc.heap.objs.size + 1) scope.names (cloFrom X.env.cells scope.names [])) sc.heap.objs.size X.env := ⟨_, rfl⟩
  rw [← ece] at Id pg pt
  have lo : ce.locals = sc.heap.objs.size := by rw [ece]; rfl
  obtain ⟨sd, esd⟩ : ∃ z : Shared, z = { sc with heap := pushCells (sc.heap.push { cls := .type "dict", data := .dict #[] }) scope.names } := ⟨_, rfl⟩
  rw [← esd] at Id
  have td : tn 0 sd.heap := T.keep 0 sc.heap sd.heap tc fun b _ o e => by
    rw [esd]
    exact pushCells_keeps _ _ _ _ (Heap.get?_push_of_some _ e)
  have free0 : ∀ b ∈ fp, Gc b = none := fun b mb => (fc b mb).1.1
  have still : ∀ {τ' : L2.St} {G' : Hp} {s' : Shared}, Inv (X.blk sc Gc scope ce fp) [] τ' G' s' → (∀ b ∈ fp, G' b = none) → ∀ b ∈ fp, FpOk (X.blk sc Gc scope ce fp) [] G' b := by
    intro τ' G' s' Ie n b mb
    refine ⟨n b mb, (Ie.ok.exf b mb).1, Ie.ok.exfs b mb, .inl mb, ?_, ?_⟩
    · intro x c e
      exact (Ie.ok.exf b mb).2 x c e
    · intro p mp
      cases (show p ∈ ([] : List (Addr × Obj)) from mp)
  have walk : codeAny (model X.prog X.w) X.A (.compLoop (.ListComp elt [⟨tg, iter, ifs, 0⟩] scope pos) 0 (.ref it) (.ref D) ce)
      (compPost (model X.prog X.w) X.A X.xe none (EP X ps τ Q) (.ref D) sc.heap.objs.size) sd := by
    apply compLoop_any (fun n z => ∃ i G', Inv (X.blk sc Gc scope ce fp) [] (wipe τ (own.map (·.2))) G' z ∧ tn i z.heap ∧ (∀ b ∈ fp, G' b = none) ∧ W i n G') _ m0 ⟨0, Gc, Id, td, free0, w0⟩
    rintro n z ⟨i, G5, I5, t5, n5, w5⟩
    cases turn i n G5 w5 with
    | inl stop =>
      apply thnF (T.done (X.blk sc Gc scope ce fp) rfl rfl rfl hcalm i [] z _ G5 (fun _ _ => False) I5 (still I5 n5) t5 stop.1)
      rintro r z6 ⟨rfl, I6⟩
      have I7 : Inv X ps τ G5 z6 := by
        apply Ic.call' (ch := fp) I6.os I6.base I6.hok I6.bare
        intro b mb
        have f := (fc b mb).1
        exact ⟨f.2.2.2.1, f.2.1, f.2.2.2.2.1, f.2.2.2.2.2⟩
      have nL : G5 sc.heap.objs.size = none := lo ▸ I6.free
      obtain ⟨m, hm, _⟩ := I6.loc
      have hm : z6.heap.Ns sc.heap.objs.size m := lo ▸ hm
      obtain ⟨f0, f1, f2, f3, f4, f5⟩ := Ic.fpOk (Nat.le_refl _) nL
      refine ⟨m, hm, ?_⟩
      intro h9 sb9
      exact ⟨.ref D, G5, I7.turned (t' := z6.toks) (fun b o hb e => (sb9.2 b hb).trans e) f0 f1 f3 f4 f5, rfl, stop.2⟩
    | inr go =>
      obtain ⟨jg, Nx, hN, step⟩ := go
      apply thnF (T.item (X.blk sc Gc scope ce fp) rfl rfl rfl hcalm i [] z _ G5 (fun _ _ => False) I5 (still I5 n5) t5 jg)
      rintro r z6 ⟨u, rfl, h6⟩
      apply thnF h6
      rintro _ z7 ⟨x, G7, I7, r7, y7, t7, n7⟩
      have J7 := I7.pinned (still I7 n7) (T.obj _ _ t7)
      apply thnF (pg.run _ z7 _ G7 x u _ J7 r7 (step x G7 y7))
      rintro _ z8 ⟨τ8, G8, I8, w8, q8⟩
      apply thnF (pt.run _ z8 τ8 G8 _ I8 q8)
      rintro b z9 ⟨G9, I9, q9⟩
      cases b with
      | true =>
        rw [if_pos rfl] at q9
        exact q9.elim
      | false =>
        rw [if_neg Bool.false_ne_true] at q9 ⊢
        obtain ⟨m', lt, w'⟩ := hN G9 q9
        have pin : ∀ b ∈ fp, ∀ o, z7.heap.get? b = some o → z9.heap.get? b = some o ∧ G9 b = none := by
          intro b mb o e
          have q := I9.pin (b, o) (List.mem_append_right _ (List.mem_append_right _ (mem_pinsAt mb e)))
          exact ⟨q.1, q.2.1⟩
        have ll : (wipe τ (own.map (·.2))).length = τ8.length := by rw [← w8, wipe_length]
        refine ⟨m', lt, i + 1, G9, ?_, T.keep (i + 1) z7.heap z9.heap t7 (fun b mb o e => (pin b mb o e).1), ?_, w'⟩
        · apply (I9.unpinned (pins := [])).weak ll
          intro j v e
          rw [← w8] at e
          exact (wipe_some e).1
        · intro b mb
          obtain ⟨o, e, _⟩ := T.obj _ _ t7 b mb
          exact (pin b mb o e).2
  show codeAny _ _ (.compStart (.ListComp elt [⟨tg, iter, ifs, 0⟩] scope pos) 0 (.ref it) (.ref D) (compEnvC scope (cellsFrom (sc.heap.objs.size + 1) scope.names (cloFrom X.env.cells scope.names [])) sc.heap.objs.size X.env)) _ { sc with heap := pushCells (sc.heap.push { cls := .type "dict", data := .dict #[] }) scope.names }
  rw [← ece, ← esd]
  exact codeAny_compStart_list walk (T.self X.A 0 _ _ _ td walk)
end
end U

namespace U
open PySem L2 PyProof.Rows
def top (i : Nat) : Stmt := PySem.Challenge.pw_undotable_k01_cells.main.body.getD i (.Pass ⟨0, 0, 0, 0⟩)
abbrev s_is_cell : Stmt := top 11
theorem sc_is_cell : FnScope ["text"] ["text"] (defScope s_is_cell) := ⟨rfl, rfl, rfl, by decide +kernel, rfl, by decide +kernel, by decide +kernel⟩
abbrev s_place : Stmt := top 12
theorem sc_place : FnScope ["cell"] ["cell"] (defScope s_place) := ⟨rfl, rfl, rfl, by decide +kernel, rfl, by decide +kernel, by decide +kernel⟩
abbrev s_stretch : Stmt := top 13
theorem sc_stretch : FnScope ["one", "other", "left", "top", "right", "bottom", "columns", "rows", "row", "column"] ["one", "other"] (defScope s_stretch) := ⟨rfl, rfl, rfl, by decide +kernel, rfl, by decide +kernel, by decide +kernel⟩
abbrev s_shifted : Stmt := top 14
theorem sc_shifted : FnScope ["cell", "rows", "_", "row", "lower"] ["cell", "rows"] (defScope s_shifted) := ⟨rfl, rfl, rfl, by decide +kernel, rfl, by decide +kernel, by decide +kernel⟩
abbrev s_l_begun : Stmt := top 16
theorem sc_l_begun : FnScope ["_law_script", "_law_stirred", "_law_cell_here"] ["_law_script"] (defScope s_l_begun) := ⟨rfl, rfl, rfl, by decide +kernel, rfl, by decide +kernel, by decide +kernel⟩
abbrev s_l_take : Stmt := top 17
theorem sc_l_take : FnScope ["_law_box", "_law_many", "_law_number"] ["_law_box", "_law_many"] (defScope s_l_take) := ⟨rfl, rfl, rfl, by decide +kernel, rfl, by decide +kernel, by decide +kernel⟩
abbrev s_l_alike : Stmt := top 18
theorem sc_l_alike : FnScope ["_law_found", "_law_due", "_law_k"] ["_law_found", "_law_due"] (defScope s_l_alike) := ⟨rfl, rfl, rfl, by decide +kernel, rfl, by decide +kernel, by decide +kernel⟩
abbrev s_l_cell : Stmt := top 19
theorem sc_l_cell : FnScope ["_law_box"] ["_law_box"] (defScope s_l_cell) := ⟨rfl, rfl, rfl, by decide +kernel, rfl, by decide +kernel, by decide +kernel⟩
abbrev s_l_stretch : Stmt := top 20
theorem sc_l_stretch : FnScope ["_law_one", "_law_other", "_law_columns", "_law_rows", "_law_found", "_law_row", "_law_k"] ["_law_one", "_law_other"] (defScope s_l_stretch) := ⟨rfl, rfl, rfl, by decide +kernel, rfl, by decide +kernel, by decide +kernel⟩
abbrev s_l_down : Stmt := top 21
theorem sc_l_down : FnScope ["_law_cell_here", "_law_rows", "_law_row"] ["_law_cell_here", "_law_rows"] (defScope s_l_down) := ⟨rfl, rfl, rfl, by decide +kernel, rfl, by decide +kernel, by decide +kernel⟩
abbrev s_l_told : Stmt := top 22
theorem sc_l_told : FnScope ["_law_work", "e", "_law_kinds", "_law_beside"] ["_law_work"] (defScope s_l_told) := ⟨rfl, rfl, rfl, by decide +kernel, rfl, by decide +kernel, by decide +kernel⟩
abbrev s_law : Stmt := top 23
theorem sc_law : FnScope ["_law_script", "_law_box", "_law_one", "_law_other", "_law_rows", "_law_bad", "_law_works", "_law_k", "_law_work"] ["_law_script"] (defScope s_law) := ⟨rfl, rfl, rfl, by decide +kernel, rfl, by decide +kernel, by decide +kernel⟩
end U
namespace U
open PySem L2 PyProof.Rows

section
variable {P : Program} {w : World} {K : PySem.W.Frag} {mg : Str → Option Value} {base : Heap}
theorem ok_lbegun {f : Addr} {fd : FuncData} (F : Fun K "_law_begun" "_law_begun" s_l_begun f fd) (B : Bt mg) : FnOk P w K mg base CX0 1 f fd ["_law_script"] (spBegun K) := by
  refine F.ok sc_l_begun (fun vs H Q E h => ?_) (fun cdv A outer s H vs Q E hr h => ?_)
  · obtain ⟨a, ns, rfl, _⟩ := h
    rfl
  obtain ⟨a, ns, rfl, hS, hl, k⟩ := h
  refine ⟨_, (pss_cons (ps_set (i := 1) sc_l_begun.nd rfl (Or.inl rfl) pe_int)
      (pss_cons (ps_for PassesOwn.never rfl (pi_list (pv 0)) (pg_name (i := 2) sc_l_begun.nd rfl (Or.inl rfl)) (pss_one (ps_set (i := 1) sc_l_begun.nd rfl (Or.inl rfl) (pe_op op_mod (pe_op op_add (pe_op op_add (pe_op op_mul (pv 1) pe_int) (pe_op op_mul (pv 2) pe_int)) pe_int) pe_int))))
      (pss_one (ps_ret (pe_lst (pa_cons (pe_callTy call_list_of (by rfl) B.list boot_list (pa_cons (pv 0) pa_nil)) (pa_cons (pe_op op_mul (pv 1) (pe_callTy call_int1 (by rfl) B.int boot_int (pa_cons (pe_cmpR op_gt (pe_callB call_len_seq (by rfl) B.len boot_len (pa_cons (pv 0) pa_nil)) pe_int (nomark _)) pa_nil))) pa_nil))))))), ?_⟩
  refine ⟨_, rfl, a, rfl, ⟨_, hS⟩, for_list (K := K) (a := a) (xs := ns.map V.int) (fun i σ H2 => ∃ (z : Int) (v : Option V), σ = [some (.ref a), some (.int z), v] ∧ H2 = H ∧ 0 ≤ z ∧ z < 2147483647)
    ⟨0, none, rfl, rfl, by decide, by decide⟩ (fun i σ H2 _ ⟨_, _, _, e, _⟩ => e ▸ hS) ?_ ?_⟩
  · rintro i y σ H2 hi ⟨z, v, rfl, rfl, z0, z1⟩
    obtain ⟨n, rfl⟩ : ∃ n, y = V.int n := by
      rw [List.getElem?_map] at hi
      cases e : ns[i]? with
      | none => rw [e] at hi; cases hi
      | some n => rw [e] at hi; exact ⟨n, (Option.some.inj hi).symm⟩
    refine ⟨_, rfl, _, _, rfl, rfl, cmulR (by decide) (by decide), _, rfl, _, _, rfl, rfl, cmulR (by decide) (by decide), _, _, rfl, rfl, _, _, rfl, rfl, _, _, rfl, rfl, (by decide : (0 : Int) < 2147483647), ?_⟩
    exact ⟨_, _, rfl, rfl, Int.emod_nonneg _ (by decide), Int.emod_lt_of_pos _ (by decide)⟩
  · rintro σ H2 ⟨z, v, rfl, rfl, z0, z1⟩
    have e1 : (ns.map V.int).length = ns.length := List.length_map _
    refine ⟨_, rfl, a, _, rfl, .inl hS, fun l hl0 => ?_⟩
    have s1 : Same H2 (upd H2 l (.lst (ns.map V.int))) := same_new hl0 _
    refine ⟨_, rfl, _, rfl, a, _, rfl, .inl (s1.seq hS), _, _, rfl, rfl, .inr ⟨_, rfl, ?_⟩⟩
    refine ⟨_, _, rfl, rfl, cmulL (by omega) (by omega), (by show 2 ≤ sizeLine; decide), fun b hb0 => ?_⟩
    have nbl : l ≠ b := ne_of_none upd_same hb0
    refine k b l _ (s1.trans (same_new hb0 _)) (s1.free hb0) hl0 ⟨_, ns, upd_same, by rw [upd_ne nbl, upd_same], ?_, ?_, hl⟩
    · split <;> omega
    · split <;> omega
theorem ok_ltake {f : Addr} {fd : FuncData} (F : Fun K "_law_take" "_law_take" s_l_take f fd) (B : Bt mg) : FnOk P w K mg base CX0 1 f fd ["_law_box", "_law_many"] spTake := by
  refine F.ok sc_l_take (fun vs H Q E h => ?_) (fun cdv A outer s H vs Q E hr h => ?_)
  · obtain ⟨b, l, m, rfl, _⟩ := h
    rfl
  obtain ⟨b, l, m, rfl, BX, h0, h1, k⟩ := h
  refine ⟨_, (pss_cons (ps_if (pt_cmpR (op_eqD hr.units) (pe_ix ix_list (pv 0) pe_int (fun _ _ => rfl)) (pe_lst pa_nil) (nomark _)) (pss_cons (ps_asg (pe_op op_mod (pe_op op_mul (pe_ix ix_list (pv 0) pe_int (fun _ _ => rfl)) pe_int) pe_int) (pg_sub (pv 0) pe_int set_list))
      (pss_one (ps_ret (pe_op op_mod (pe_op op_fdiv (pe_ix ix_list (pv 0) pe_int (fun _ _ => rfl)) pe_int) (pv 1))))) pss_nil)
      (pss_cons (ps_set (i := 2) sc_l_take.nd rfl (Or.inl rfl) (pe_ix ix_list (pe_ix ix_list (pv 0) pe_int (fun _ _ => rfl)) pe_int (fun _ _ => rfl)))
      (pss_cons (ps_asg (pe_op op_fdiv (pv 2) (pv 1)) (pg_sub (pe_ix ix_list (pv 0) pe_int (fun _ _ => rfl)) pe_int set_list))
      (pss_cons (ps_if (PW.pt (pw_or (pt_cmpR op_eq (pe_ix ix_list (pe_ix ix_list (pv 0) pe_int (fun _ _ => rfl)) pe_int (fun _ _ => rfl)) pe_int (nomark _)) (pw_or1 (pt_cmpR op_eq (pe_ix ix_list (pe_ix ix_list (pv 0) pe_int (fun _ _ => rfl)) pe_int (fun _ _ => rfl)) (pe_un un_neg pe_int) (nomark _))))) (pss_one (ps_expr (pe_bm PySem.F.plainAttrs_list PySem.F.slot_list_pop PySem.F.type_list_pop mt_popAt (pe_ix ix_list (pv 0) pe_int (fun _ _ => rfl)) (pa_cons pe_int pa_nil)))) pss_nil)
      (pss_one (ps_ret (pe_op op_mod (pv 2) (pv 1)))))))), ?_⟩
  obtain ⟨z, ns, hb, hl, z0, z1, hn⟩ := BX.ex
  have nbl := BX.ne
  refine ⟨_, rfl, b, _, _, _, rfl, rfl, SqL.of hb, rfl, (by decide), fun p hp => ?_⟩
  have s1 : Same H (upd H p (.lst [])) := same_new hp _
  refine ⟨_, _, .lst (SqL.of (s1 _ _ hl)) (dp_ints _ _ ns), .lst (SqL.of upd_same) .nil, shaped_ints ns, shaped_nil, _, rfl, ?_⟩
  rw [eqv_nil]
  have pb : b ≠ p := ne_of_none hb hp
  have pl : l ≠ p := ne_of_none hl hp
  have m1 : Keep b l H (upd H p (.lst [])) := .of s1
  cases ns with
  | nil =>
    refine iteT ?_
    refine ⟨_, rfl, b, _, _, _, rfl, rfl, SqL.of (s1 _ _ hb), rfl, _, _, rfl, rfl, cmulL (by omega) (by omega), _, _, rfl, rfl, (by decide : (0 : Int) < 2147483647), _, rfl, b, _, _, _, rfl, rfl, s1 _ _ hb, rfl, ?_⟩
    have hz := Int.emod_nonneg (z * 48271) (show (2147483647 : Int) ≠ 0 by decide)
    have hy := Int.emod_lt_of_pos (z * 48271) (show (0 : Int) < 2147483647 by decide)
    refine ⟨_, rfl, b, _, _, _, rfl, rfl, SqL.of upd_same, rfl, _, _, rfl, rfl, ⟨by decide, by decide⟩, _, rfl, _, _, rfl, rfl, h0, ?_⟩
    refine k _ _ (Int.emod_nonneg _ (by omega)) (Int.emod_lt_of_pos _ h0) ⟨_, [], upd_same, by rw [upd_ne nbl.symm]; exact s1 _ _ hl, hz, hy, hn⟩ (m1.trans fun c o e n m => by rw [upd_ne n]; exact e)
  | cons n r =>
    refine iteF ?_
    refine ⟨_, rfl, b, _, _, _, rfl, rfl, SqL.of (s1 _ _ hb), rfl, _, _, _, _, rfl, rfl, SqL.of (s1 _ _ hl), at0, ?_⟩
    refine ⟨_, rfl, _, rfl, _, _, rfl, rfl, ⟨h0, h1⟩, _, rfl, b, _, _, _, rfl, rfl, SqL.of (s1 _ _ hb), rfl, _, _, _, _, rfl, rfl, s1 _ _ hl, ix0, ?_⟩
    have hb2 : upd (upd H p (.lst [])) l (.lst (((n :: r).map V.int).set 0 (V.int (n / m)))) b = some (.lst [.ref l, .int z]) := by rw [upd_ne nbl]; exact s1 _ _ hb
    have m2 : Keep b l H (upd (upd H p (.lst [])) l (.lst (((n :: r).map V.int).set 0 (V.int (n / m))))) := m1.trans fun c o e n m => by rw [upd_ne m]; exact e
    generalize hG : upd (upd H p (.lst [])) l (.lst (((n :: r).map V.int).set 0 (V.int (n / m)))) = G at hb2 m2
    have hl2 : G l = some (.lst (((n / m) :: r).map V.int)) := by rw [← hG]; exact upd_same
    have out : ∀ G', G' = G ∨ G' = upd G l (.lst (r.map V.int)) → Q (.int (n % m)) G' := by
      rintro G' (rfl | rfl)
      · exact k _ _ (Int.emod_nonneg _ (by omega)) (Int.emod_lt_of_pos _ h0) ⟨z, (n / m) :: r, hb2, hl2, z0, z1, hn⟩ m2
      · exact k _ _ (Int.emod_nonneg _ (by omega)) (Int.emod_lt_of_pos _ h0) ⟨z, r, by rw [upd_ne nbl]; exact hb2, upd_same, z0, z1, by simp only [List.length_cons] at hn; omega⟩ (m2.trans fun c o e n m => by rw [upd_ne m]; exact e)
    have pop : ∀ D : Ends, (D.nx [some (.ref b), some (.int m), some (.int n)] (upd G l (.lst (r.map V.int)))) → tDrop (tBM K "list" rPopAt (tOp (rIxL K) (tVar 0) (tC (.int 0))) (tCons (tC (.int 0)) tNil)) D [some (.ref b), some (.int m), some (.int n)] G := by
      intro D q
      refine ⟨_, rfl, b, _, _, _, rfl, rfl, SqL.of hb2, rfl, .inl ⟨rfl, _, SqL.of hl2⟩, _, _, _, 0, _, rfl, rfl, hl2, by decide, by decide, sq0, rfl, ?_⟩
      exact q
    have lastq : ∀ G', G' = G ∨ G' = upd G l (.lst (r.map V.int)) → tRet (tOp (rI (fun _ j => 0 < j) fun i j => V.int (i % j)) (tVar 2) (tVar 1)) { nx := fun _ H' => Q .non H', rt := Q } [some (.ref b), some (.int m), some (.int n)] G' := by
      intro G' e
      exact ⟨_, rfl, _, rfl, _, _, rfl, rfl, h0, out G' e⟩
    refine ⟨_, rfl, b, _, _, _, rfl, rfl, SqL.of hb2, rfl, _, _, _, _, rfl, rfl, SqL.of hl2, at0, rfl, _, rfl, ?_⟩
    refine ite2 (fun c => ?_) (fun c => ?_)
    · refine iteT ?_
      exact pop _ (lastq _ (.inr rfl))
    · refine ⟨_, rfl, b, _, _, _, rfl, rfl, SqL.of hb2, rfl, _, _, _, _, rfl, rfl, SqL.of hl2, at0, _, rfl, rfl, _, rfl, ?_⟩
      refine ite2 (fun c => ?_) (fun c => ?_)
      · exact pop _ (lastq _ (.inr rfl))
      · exact lastq _ (.inl rfl)
end
end U

namespace U
open PySem L2 PyProof.Rows
section
variable {P : Program} {w : World} {K : PySem.W.Frag} {mg : Str → Option Value} {base : Heap}
theorem ok_lalike {n : Nat} {f : Addr} {fd : FuncData} (F : Fun K "_law_alike" "_law_alike" s_l_alike f fd) (B : Bt mg) (C_l_alike : Cal P w K mg base n "_law_alike" ["_law_found", "_law_due"] (spAlike K n)) : FnOk P w K mg base CX0 (n + 1) f fd ["_law_found", "_law_due"] (spAlike K (n + 1)) := by
  refine F.ok sc_l_alike (fun vs H Q E h => ?_) (fun cdv A outer s H vs Q E hr h => ?_)
  · obtain ⟨x, y, d, rfl, _⟩ := h
    rfl
  obtain ⟨x, y, d, rfl, hx, hy, hn, hz, k⟩ := h
  refine ⟨_, (pss_cons (ps_if (pt_cmpR op_isN (pv 1) pe_non (nomark _)) (pss_one (ps_ret (pe_cmpR op_isN (pv 0) pe_non (nomark _)))) pss_nil)
      (pss_cons (ps_if (pt_val (pe_callB call_isi (by rfl) B.isinstance boot_isinstance (pa_cons (pv 1) (pa_cons (pe_bltn (v := .ty "bool") (by rfl) B.bool boot_bool rfl) pa_nil)))) (pss_one (ps_ret (pe_and (pe_callB call_isi (by rfl) B.isinstance boot_isinstance (pa_cons (pv 0) (pa_cons (pe_bltn (v := .ty "bool") (by rfl) B.bool boot_bool rfl) pa_nil))) (pe_one (pe_cmpR op_eq (pv 0) (pv 1) (nomark _)))))) pss_nil)
      (pss_cons (ps_if (pt_val (pe_callB call_isi (by rfl) B.isinstance boot_isinstance (pa_cons (pv 1) (pa_cons (pe_bltn (v := .ty "int") (by rfl) B.int boot_int rfl) pa_nil)))) (pss_one (ps_ret (pe_and (pe_callB call_isi (by rfl) B.isinstance boot_isinstance (pa_cons (pv 0) (pa_cons (pe_bltn (v := .ty "int") (by rfl) B.int boot_int rfl) pa_nil))) (pe_and (pe_not (pe_callB call_isi (by rfl) B.isinstance boot_isinstance (pa_cons (pv 0) (pa_cons (pe_bltn (v := .ty "bool") (by rfl) B.bool boot_bool rfl) pa_nil)))) (pe_one (pe_cmpR op_eq (pv 0) (pv 1) (nomark _))))))) pss_nil)
      (pss_cons (ps_if (pt_val (pe_callB call_isi (by rfl) B.isinstance boot_isinstance (pa_cons (pv 1) (pa_cons (pe_bltn (v := .ty "str") (by rfl) B.str boot_str rfl) pa_nil)))) (pss_one (ps_ret (pe_and (pe_callB call_isi (by rfl) B.isinstance boot_isinstance (pa_cons (pv 0) (pa_cons (pe_bltn (v := .ty "str") (by rfl) B.str boot_str rfl) pa_nil))) (pe_one (pe_cmpR op_eq (pv 0) (pv 1) (nomark _)))))) pss_nil)
      (pss_cons (ps_if (PW.pt (pw_or (pt_cmpR op_ne (pe_callB call_isi (by rfl) B.isinstance boot_isinstance (pa_cons (pv 1) (pa_cons (pe_bltn (v := .ty "tuple") (by rfl) B.tuple boot_tuple rfl) pa_nil))) (pe_callB call_isi (by rfl) B.isinstance boot_isinstance (pa_cons (pv 0) (pa_cons (pe_bltn (v := .ty "tuple") (by rfl) B.tuple boot_tuple rfl) pa_nil))) (nomark _)) (pw_or1 (pt_cmpR op_ne (pe_callB call_isi (by rfl) B.isinstance boot_isinstance (pa_cons (pv 1) (pa_cons (pe_bltn (v := .ty "list") (by rfl) B.list boot_list rfl) pa_nil))) (pe_callB call_isi (by rfl) B.isinstance boot_isinstance (pa_cons (pv 0) (pa_cons (pe_bltn (v := .ty "list") (by rfl) B.list boot_list rfl) pa_nil))) (nomark _))))) (pss_one (ps_ret pe_bl)) pss_nil)
      (pss_cons (ps_if (pt_cmpR op_ne (pe_callB call_len_seq (by rfl) B.len boot_len (pa_cons (pv 0) pa_nil)) (pe_callB call_len_seq (by rfl) B.len boot_len (pa_cons (pv 1) pa_nil)) (nomark _)) (pss_one (ps_ret pe_bl)) pss_nil)
      (pss_cons (ps_for PassesOwn.never rfl (pi_range1 (by rfl) B.range (pa_cons (pe_callB call_len_seq (by rfl) B.len boot_len (pa_cons (pv 1) pa_nil)) pa_nil)) (pg_name (i := 2) sc_l_alike.nd rfl (Or.inl rfl)) (pss_one (ps_if (pt_not (pt_val (pc_c C_l_alike (hr.mono (by first | exact Nat.le_refl _ | decide | omega)) (by rfl) (pa_cons (pe_ix ix_seq (pv 0) (pv 2) (fun _ _ => rfl)) (pa_cons (pe_ix ix_seq (pv 1) (pv 2) (fun _ _ => rfl)) pa_nil))))) (pss_one (ps_ret pe_bl)) pss_nil)))
      (pss_one (ps_ret pe_bl))))))))), ?_⟩
  -- behind the kinds: a list or a tuple, item by item
  have rest : ∀ (xs ys : List V) (ds : List PyData) (a c : Addr), (SqL K H a xs ∨ SqT K H a xs) → (SqL K H c ys ∨ SqT K H c ys) → DpAll K H xs ds → DpAll K H ys ds → PyData.depthAll ds < n → ds.length ≤ 1000000 → szAll ds = true → (∀ (b : Bool), b = true → Q (.bl b) H) →
      ∀ (D : Ends), D.rt = Q → (tSeq (tIfS (tTest (tOp rNe (tCB (fun xs H Q => ∃ p ys, xs = [V.ref p] ∧ (SqL K H p ys ∨ SqT K H p ys) ∧ Q (.int ys.length) H) (tCons (tVar 0) tNil)) (tCB (fun xs H Q => ∃ p ys, xs = [V.ref p] ∧ (SqL K H p ys ∨ SqT K H p ys) ∧ Q (.int ys.length) H) (tCons (tVar 1) tNil)))) (tRet (tC (.bl false))) tNext)
        (tSeq (tFor (iRng1 (tCons (tCB (fun xs H Q => ∃ p ys, xs = [V.ref p] ∧ (SqL K H p ys ∨ SqT K H p ys) ∧ Q (.int ys.length) H) (tCons (tVar 1) tNil)) tNil)) (gName 2) (tIfS (tNot (tB (tCal (spAlike K n) E0 (tCons (tOp (rIx K) (tVar 0) (tVar 2)) (tCons (tOp (rIx K) (tVar 1) (tVar 2)) tNil))))) (tRet (tC (.bl false))) tNext))
          (tRet (tC (.bl true))))) D [some (.ref a), some (.ref c), none] H := by
    intro xs ys ds a c hX hY aX aY hd hl hz q D hD
    have lX := (dpAll_get aX).1
    have lY := (dpAll_get aY).1
    refine ⟨_, rfl, a, xs, rfl, hX, _, rfl, c, ys, rfl, hY, rfl, _, rfl, ?_⟩
    have e : (!decide (V.int (xs.length : Int) = V.int (ys.length : Int))) = false := by
      rw [lX, lY]
      simp
    rw [e]
    refine iteF ?_
    refine ⟨_, rfl, c, ys, rfl, hY, _, rfl, (by omega), (by omega), for_range (lo := 0) (fun i σ H2 => ∃ v, σ = [some (.ref a), some (.ref c), v] ∧ H2 = H) ⟨none, rfl, rfl⟩ ?_ ?_⟩
    · rintro i σ H2 hi ⟨v, rfl, rfl⟩
      have hi' : i < ds.length := by
        rw [← lY]
        omega
      obtain ⟨x, x1, x2⟩ := dpAll_at aX hi'
      obtain ⟨y, y1, y2⟩ := dpAll_at aY hi'
      have e0 : (0 : Int) + (i : Int) = (i : Int) := by omega
      have g1 : ∀ (R : VK), R x H2 → rIx K (.ref a) (.int (0 + (i : Int))) H2 R := fun R r => by
        rw [e0]
        rcases hX with h | h
        · exact .inl ⟨a, xs, _, x, rfl, rfl, h, x1, r⟩
        · exact .inr (.inl ⟨a, xs, _, x, rfl, rfl, h, x1, r⟩)
      have g2 : ∀ (R : VK), R y H2 → rIx K (.ref c) (.int (0 + (i : Int))) H2 R := fun R r => by
        rw [e0]
        rcases hY with h | h
        · exact .inl ⟨c, ys, _, y, rfl, rfl, h, y1, r⟩
        · exact .inr (.inl ⟨c, ys, _, y, rfl, rfl, h, y1, r⟩)
      refine ⟨_, rfl, _, rfl, g1 _ ⟨_, rfl, _, rfl, g2 _ ⟨x, y, ds[i], rfl, x2, y2, Nat.lt_of_le_of_lt (depth_get hi') hd, szAll_get hi' hz, _, rfl, iteF ?_⟩⟩⟩
      exact ⟨_, rfl, rfl⟩
    · rintro σ H2 ⟨v, rfl, rfl⟩
      show D.rt _ _
      rw [hD]
      exact q _ rfl
  cases hy with
  | non =>
    cases hx
    exact ⟨_, rfl, rfl, _, rfl, iteT ⟨_, rfl, rfl, k⟩⟩
  | bl b =>
    cases hx
    refine ⟨_, rfl, rfl, _, rfl, iteF ⟨_, rfl, ⟨_, _, _, _, _, rfl, .ty _, dp_ty (Dp.bl b), kit_ty k_bool_bool, _, rfl, iteT ⟨_, rfl, ⟨_, _, _, _, _, rfl, .ty _, dp_ty (Dp.bl b), kit_ty k_bool_bool, _, rfl, iteT ⟨_, rfl, _, rfl, rfl, ?_⟩⟩⟩⟩⟩⟩
    rw [decide_eq_true rfl]
    exact k
  | int i =>
    cases hx
    refine ⟨_, rfl, rfl, _, rfl, iteF ⟨_, rfl, ⟨_, _, _, _, _, rfl, .ty _, dp_ty (Dp.int i), kit_ty k_int_bool, _, rfl, iteF ⟨_, rfl, ⟨_, _, _, _, _, rfl, .ty _, dp_ty (Dp.int i), kit_ty k_int_int, _, rfl, iteT ⟨_, rfl, ⟨_, _, _, _, _, rfl, .ty _, dp_ty (Dp.int i), kit_ty k_int_int, _, rfl, iteT ⟨_, rfl, ⟨_, _, _, _, _, rfl, .ty _, dp_ty (Dp.int i), kit_ty k_int_bool, _, rfl, _, rfl, iteT ⟨_, rfl, _, rfl, rfl, ?_⟩⟩⟩⟩⟩⟩⟩⟩⟩⟩
    rw [decide_eq_true rfl]
    exact k
  | str z =>
    cases hx
    refine ⟨_, rfl, rfl, _, rfl, iteF ⟨_, rfl, ⟨_, _, _, _, _, rfl, .ty _, dp_ty (Dp.str z), kit_ty k_str_bool, _, rfl, iteF ⟨_, rfl, ⟨_, _, _, _, _, rfl, .ty _, dp_ty (Dp.str z), kit_ty k_str_int, _, rfl, iteF ⟨_, rfl, ⟨_, _, _, _, _, rfl, .ty _, dp_ty (Dp.str z), kit_ty k_str_str, _, rfl, iteT ⟨_, rfl, ⟨_, _, _, _, _, rfl, .ty _, dp_ty (Dp.str z), kit_ty k_str_str, _, rfl, iteT ⟨_, rfl, _, rfl, rfl, ?_⟩⟩⟩⟩⟩⟩⟩⟩⟩⟩
    rw [decide_eq_true rfl]
    exact k
  | @lst c ys ds hs ha =>
    cases hx with
    | @lst a xs _ hs' ha' =>
      have h1 := Dp.lst hs ha
      have h2 := Dp.lst hs' ha'
      simp only [PyData.depth] at hn
      have hd : PyData.depthAll ds < n := Nat.lt_of_succ_lt_succ hn
      simp only [szOk, Bool.and_eq_true, decide_eq_true_eq] at hz
      refine ⟨_, rfl, rfl, _, rfl, iteF ⟨_, rfl, ⟨_, _, _, _, _, rfl, .ty _, dp_ty h1, kit_ty k_list_bool, _, rfl, iteF ⟨_, rfl, ⟨_, _, _, _, _, rfl, .ty _, dp_ty h1, kit_ty k_list_int, _, rfl, iteF ⟨_, rfl, ⟨_, _, _, _, _, rfl, .ty _, dp_ty h1, kit_ty k_list_str, _, rfl, iteF ?_⟩⟩⟩⟩⟩⟩⟩
      refine ⟨_, rfl, ⟨_, _, _, _, _, rfl, .ty _, dp_ty h1, kit_ty k_list_tuple, _, rfl, ⟨_, _, _, _, _, rfl, .ty _, dp_ty h2, kit_ty k_list_tuple, rfl, _, rfl, iteF ⟨_, rfl, ⟨_, _, _, _, _, rfl, .ty _, dp_ty h1, kit_ty k_list_list, _, rfl, ⟨_, _, _, _, _, rfl, .ty _, dp_ty h2, kit_ty k_list_list, rfl, _, rfl, iteF ?_⟩⟩⟩⟩⟩⟩
      exact rest _ _ _ _ _ (.inl hs') (.inl hs) ha' ha hd hz.1 hz.2 (fun b e => by rw [e]; exact k) _ rfl
  | @tup c ys ds hs ha =>
    cases hx with
    | @tup a xs _ hs' ha' =>
      have h1 := Dp.tup hs ha
      have h2 := Dp.tup hs' ha'
      simp only [PyData.depth] at hn
      have hd : PyData.depthAll ds < n := Nat.lt_of_succ_lt_succ hn
      simp only [szOk, Bool.and_eq_true, decide_eq_true_eq] at hz
      refine ⟨_, rfl, rfl, _, rfl, iteF ⟨_, rfl, ⟨_, _, _, _, _, rfl, .ty _, dp_ty h1, kit_ty k_tuple_bool, _, rfl, iteF ⟨_, rfl, ⟨_, _, _, _, _, rfl, .ty _, dp_ty h1, kit_ty k_tuple_int, _, rfl, iteF ⟨_, rfl, ⟨_, _, _, _, _, rfl, .ty _, dp_ty h1, kit_ty k_tuple_str, _, rfl, iteF ?_⟩⟩⟩⟩⟩⟩⟩
      refine ⟨_, rfl, ⟨_, _, _, _, _, rfl, .ty _, dp_ty h1, kit_ty k_tuple_tuple, _, rfl, ⟨_, _, _, _, _, rfl, .ty _, dp_ty h2, kit_ty k_tuple_tuple, rfl, _, rfl, iteF ⟨_, rfl, ⟨_, _, _, _, _, rfl, .ty _, dp_ty h1, kit_ty k_tuple_list, _, rfl, ⟨_, _, _, _, _, rfl, .ty _, dp_ty h2, kit_ty k_tuple_list, rfl, _, rfl, iteF ?_⟩⟩⟩⟩⟩⟩
      exact rest _ _ _ _ _ (.inr hs') (.inr hs) ha' ha hd hz.1 hz.2 (fun b e => by rw [e]; exact k) _ rfl
theorem cal_lalike {f : Addr} {fd : FuncData} (F : Fun K "_law_alike" "_law_alike" s_l_alike f fd) (B : Bt mg) (m : mg "_law_alike" = some (.ref f)) (b : Binds K fd ["_law_found", "_law_due"] []) : ∀ n : Nat, Cal P w K mg base n "_law_alike" ["_law_found", "_law_due"] (spAlike K n)
  | 0 => by
    have no : ∀ vs H Q E, ¬ spAlike K 0 vs H Q E := fun vs H Q E ⟨_, _, _, _, _, _, h, _⟩ => Nat.not_lt_zero _ h
    exact ⟨f, fd, ⟨fun vs H Q E h => absurd h (no vs H Q E), fun A outer s H args us vs Q E _ _ _ _ h => absurd h (no vs H Q E)⟩, m, F.kp, b⟩
  | n + 1 => ⟨f, fd, ok_lalike F B (cal_lalike F B m b n), m, F.kp, b⟩
end
end U

namespace U
open PySem L2 PyProof.Rows
section
variable {P : Program} {w : World} {K : PySem.W.Frag} {mg : Str → Option Value} {base : Heap}
theorem ok_lcell {f : Addr} {fd : FuncData} (F : Fun K "_law_cell" "_law_cell" s_l_cell f fd) (C_l_take : Cal P w K mg base 1 "_law_take" ["_law_box", "_law_many"] spTake) : FnOk P w K mg base CX0 2 f fd ["_law_box"] spCell := by
  refine F.ok sc_l_cell (fun vs H Q E h => ?_) (fun cdv A outer s H vs Q E hr h => ?_)
  · obtain ⟨b, l, rfl, _⟩ := h
    rfl
  obtain ⟨b, l, rfl, BX, k⟩ := h
  refine ⟨_, (pss_cons (ps_if (pt_cmpR op_eq (pc_c C_l_take (hr.mono (by first | exact Nat.le_refl _ | decide | omega)) (by rfl) (pa_cons (pv 0) (pa_cons pe_int pa_nil))) pe_int (nomark _)) (pss_one (ps_ret (pe_op op_add_str (pe_ix ix_str pe_str (pc_c C_l_take (hr.mono (by first | exact Nat.le_refl _ | decide | omega)) (by rfl) (pa_cons (pv 0) (pa_cons pe_int pa_nil))) (fun _ _ => rfl)) (pe_ix ix_str pe_str (pc_c C_l_take (hr.mono (by first | exact Nat.le_refl _ | decide | omega)) (by rfl) (pa_cons (pv 0) (pa_cons pe_int pa_nil))) (fun _ _ => rfl))))) pss_nil)
      (pss_one (ps_ret (pe_op op_add_str (pe_ix ix_str pe_str (pc_c C_l_take (hr.mono (by first | exact Nat.le_refl _ | decide | omega)) (by rfl) (pa_cons (pv 0) (pa_cons pe_int pa_nil))) (fun _ _ => rfl)) (pe_ix ix_str pe_str (pc_c C_l_take (hr.mono (by first | exact Nat.le_refl _ | decide | omega)) (by rfl) (pa_cons (pv 0) (pa_cons pe_int pa_nil))) (fun _ _ => rfl)))))), ?_⟩
  refine ⟨_, rfl, b, l, 4, rfl, BX, by decide, by decide, fun r0 H1 _ _ B1 K1 => ⟨rfl, _, rfl, ?_⟩⟩
  have fin : ∀ (c r : Int) (H3 : Hp), 0 ≤ c → c < 6 → 0 ≤ r → r < 9 → Box H3 b l → Keep b l H H3 → Q (.str (SX.S [97 + c.toNat] ++ SX.S [49 + r.toNat])) H3 := fun c r H3 c0 c1 r0 r1 B3 K3 =>
    k ⟨c.toNat, r.toNat, by omega, by omega⟩ H3 B3 K3
  refine ite2 (fun _ => ?_) (fun _ => ?_)
  · refine ⟨_, rfl, b, l, 6, rfl, B1, by decide, by decide, fun r1 H2 c0 c1 B2 K2 => ⟨_, _, _, rfl, rfl, small (by decide), at_abc c0 c1, ?_⟩⟩
    refine ⟨_, rfl, b, l, 9, rfl, B2, by decide, by decide, fun r2 H3 d0 d1 B3 K3 => ⟨_, _, _, rfl, rfl, small (by decide), at_123 d0 d1, _, _, rfl, rfl, small (by decide : 2 ≤ 1000), ?_⟩⟩
    exact fin r1 r2 H3 c0 c1 d0 d1 B3 ((K1.trans K2).trans K3)
  · refine ⟨_, rfl, b, l, 3, rfl, B1, by decide, by decide, fun r1 H2 c0 c1 B2 K2 => ⟨_, _, _, rfl, rfl, small (by decide), at_abc3 c0 c1, ?_⟩⟩
    refine ⟨_, rfl, b, l, 3, rfl, B2, by decide, by decide, fun r2 H3 d0 d1 B3 K3 => ⟨_, _, _, rfl, rfl, small (by decide), at_1233 d0 d1, _, _, rfl, rfl, small (by decide : 2 ≤ 1000), ?_⟩⟩
    exact fin r1 r2 H3 c0 (by omega) d0 (by omega) B3 ((K1.trans K2).trans K3)
theorem ok_lstretch {f : Addr} {fd : FuncData} (F : Fun K "_law_stretch" "_law_stretch" s_l_stretch f fd) (B : Bt mg) : FnOk P w K mg base CX0 1 f fd ["_law_one", "_law_other"] spStretchL := by
  refine F.ok sc_l_stretch (fun vs H Q E h => ?_) (fun cdv A outer s H vs Q E hr h => ?_)
  · obtain ⟨x, y, rfl, _⟩ := h
    rfl
  obtain ⟨x, y, rfl, k⟩ := h
  refine ⟨_, (pss_cons (ps_set (i := 2) sc_l_stretch.nd rfl (Or.inl rfl) (pe_callB cr_sorted (by rfl) B.sorted boot_sorted (pa_cons (pe_lst (pa_cons (pe_bm PySem.F.plainAttrs_str PySem.F.slot_str_find PySem.F.type_str_find mt_find pe_str (pa_cons (pe_ix ix_str (pv 0) pe_int (fun _ _ => rfl)) pa_nil)) (pa_cons (pe_bm PySem.F.plainAttrs_str PySem.F.slot_str_find PySem.F.type_str_find mt_find pe_str (pa_cons (pe_ix ix_str (pv 1) pe_int (fun _ _ => rfl)) pa_nil)) pa_nil))) pa_nil)))
      (pss_cons (ps_set (i := 3) sc_l_stretch.nd rfl (Or.inl rfl) (pe_callB cr_sorted (by rfl) B.sorted boot_sorted (pa_cons (pe_lst (pa_cons (pe_callTy call_int_str (by rfl) B.int boot_int (pa_cons (pe_ix ix_str (pv 0) pe_int (fun _ _ => rfl)) pa_nil)) (pa_cons (pe_callTy call_int_str (by rfl) B.int boot_int (pa_cons (pe_ix ix_str (pv 1) pe_int (fun _ _ => rfl)) pa_nil)) pa_nil))) pa_nil)))
      (pss_cons (ps_set (i := 4) sc_l_stretch.nd rfl (Or.inl rfl) (pe_lst pa_nil))
      (pss_cons (ps_for PassesOwn.never rfl (pi_range2 (by rfl) B.range (pa_cons (pe_ix ix_list (pv 3) pe_int (fun _ _ => rfl)) (pa_cons (pe_op op_add (pe_ix ix_list (pv 3) pe_int (fun _ _ => rfl)) pe_int) pa_nil))) (pg_name (i := 5) sc_l_stretch.nd rfl (Or.inr rfl)) (pss_one (ps_set (i := 4) sc_l_stretch.nd rfl (Or.inl rfl) (pe_op op_cat (pv 4) (pe_lc (own := [("_law_k", 6)])  rfl sc_l_stretch.nd (pi_range2 (by rfl) B.range (pa_cons (pe_ix ix_list (pv 2) pe_int (fun _ _ => rfl)) (pa_cons (pe_op op_add (pe_ix ix_list (pv 2) pe_int (fun _ _ => rfl)) pe_int) pa_nil))) (blkOk_by (N := ["_law_one", "_law_other", "_law_columns", "_law_rows", "_law_found", "_law_row", "_law_k"]) (sc := defScope s_l_stretch) (by decide +kernel)) (fun _ _ _ _ _ => pg_name (i := 6) sc_l_stretch.nd rfl (Or.inl rfl)) (fun _ _ _ _ _ => pts_nil) (fun _ _ _ _ _ => (pe_op op_add_str (pe_ix ix_str pe_str (pv 6) (fun _ _ => rfl)) (pe_callTy call_str_int (by rfl) B.str boot_str (pa_cons (pv 5) pa_nil)))))))))
      (pss_one (ps_ret (pv 4))))))), ?_⟩
  refine ⟨rfl, _, rfl, _, _, _, rfl, rfl, small (by show 2 ≤ 1000; decide), x.at0, _, _, rfl, rfl, rfl, _, rfl, _, _, _, rfl, rfl, small (by show 2 ≤ 1000; decide), y.at0, _, _, rfl, rfl, ?_⟩
  have ex : Txt.find "abcdef" ⟨#[97 + x.c]⟩ = (x.c : Int) := find_abc x.hc
  have ey : Txt.find "abcdef" ⟨#[97 + y.c]⟩ = (y.c : Int) := find_abc y.hc
  rw [ex, ey]
  refine ⟨(by show 2 ≤ sizeLine; decide), fun p1 n1 => ⟨p1, [x.c, y.c], rfl, SqL.of upd_same, (by show 2 < 64; decide), fun ns1 q1 pe1 so1 m1 => ?_⟩⟩
  have hc := sort2 pe1 so1
  subst hc
  refine ⟨_, rfl, _, _, _, rfl, rfl, small (by show 2 ≤ 1000; decide), x.at1, _, _, rfl, int_one x.hr, (by show 1 ≤ 640; decide), _, rfl, _, _, _, rfl, rfl, small (by show 2 ≤ 1000; decide), y.at1, _, _, rfl, int_one y.hr, (by show 1 ≤ 640; decide), ?_⟩
  refine ⟨(by show 2 ≤ sizeLine; decide), fun p2 n2 => ⟨p2, [(x.r : Int) + 1, (y.r : Int) + 1], rfl, SqL.of upd_same, (by show 2 < 64; decide), fun ns2 q2 pe2 so2 m2 => ?_⟩⟩
  have hr' := sort2 pe2 so2
  subst hr'
  -- the heap behind both sorted lists
  have s1 : Same H (upd (upd H p1 (.lst [V.int x.c, V.int y.c])) q1 (.lst ([min (x.c : Int) y.c, max (x.c : Int) y.c].map V.int))) := (same_new n1 _).trans (same_new m1 _)
  have g1 : upd (upd H p1 (.lst [V.int x.c, V.int y.c])) q1 (.lst ([min (x.c : Int) y.c, max (x.c : Int) y.c].map V.int)) q1 = some (.lst [V.int (min (x.c : Int) y.c), V.int (max (x.c : Int) y.c)]) := upd_same
  generalize upd (upd H p1 (.lst [V.int x.c, V.int y.c])) q1 (.lst ([min (x.c : Int) y.c, max (x.c : Int) y.c].map V.int)) = G1 at s1 g1 n2 m2 ⊢
  have s2 : Same G1 (upd (upd G1 p2 (.lst [V.int ((x.r : Int) + 1), V.int ((y.r : Int) + 1)])) q2 (.lst ([min ((x.r : Int) + 1) (y.r + 1), max ((x.r : Int) + 1) (y.r + 1)].map V.int))) := (same_new n2 _).trans (same_new m2 _)
  have g2 : upd (upd G1 p2 (.lst [V.int ((x.r : Int) + 1), V.int ((y.r : Int) + 1)])) q2 (.lst ([min ((x.r : Int) + 1) (y.r + 1), max ((x.r : Int) + 1) (y.r + 1)].map V.int)) q2 = some (.lst [V.int (min ((x.r : Int) + 1) (y.r + 1)), V.int (max ((x.r : Int) + 1) (y.r + 1))]) := upd_same
  generalize upd (upd G1 p2 (.lst [V.int ((x.r : Int) + 1), V.int ((y.r : Int) + 1)])) q2 (.lst ([min ((x.r : Int) + 1) (y.r + 1), max ((x.r : Int) + 1) (y.r + 1)].map V.int)) = G2 at s2 g2 ⊢
  have hxc := x.hc
  have hyc := y.hc
  have hxr := x.hr
  have hyr := y.hr
  obtain ⟨a, ha⟩ : ∃ a : Nat, a = min x.c y.c := ⟨_, rfl⟩
  obtain ⟨n, hn⟩ : ∃ n : Nat, n = max x.c y.c + 1 - min x.c y.c := ⟨_, rfl⟩
  obtain ⟨b, hb⟩ : ∃ b : Nat, b = min x.r y.r := ⟨_, rfl⟩
  obtain ⟨m, hm⟩ : ∃ m : Nat, m = max x.r y.r + 1 - min x.r y.r := ⟨_, rfl⟩
  have e1 : min (x.c : Int) y.c = (a : Int) := by omega
  have e2 : max (x.c : Int) y.c = ((a + n : Nat) : Int) - 1 := by omega
  have e3 : min ((x.r : Int) + 1) (y.r + 1) = (b : Int) + 1 := by omega
  have e4 : max ((x.r : Int) + 1) (y.r + 1) = ((b + m : Nat) : Int) := by omega
  rw [e1, e2] at g1
  rw [e3, e4] at g2
  have hs : strL x y = rowsL a n b m := by unfold strL; rw [← hn, ← hm, ← ha, ← hb]
  rw [hs] at k
  refine ⟨(by show 0 ≤ sizeLine; decide), fun p3 n3 => ?_⟩
  have s3 : Same G2 (upd G2 p3 (.lst [])) := same_new n3 _
  refine ⟨_, rfl, q2, _, _, _, rfl, rfl, SqL.of (s3 _ _ g2), rfl, _, rfl, q2, _, _, _, rfl, rfl, SqL.of (s3 _ _ g2), rfl, _, _, rfl, rfl, _, _, rfl, (by omega), ?_⟩
  refine for_range (lo := (b : Int) + 1) (fun i σ H2 => ∃ (p : Addr) (v : Option V), σ = [some (.str x.s), some (.str y.s), some (.ref q1), some (.ref q2), some (.ref p), v, none] ∧ H p = none ∧ Same G2 H2 ∧ H2 p = some (.lst ((rowsL a n b i).map V.str)))
    ⟨p3, none, rfl, (s1.trans s2).free n3, s3, upd_same⟩ ?_ ?_
  · rintro i σ H2 hi ⟨p, v, rfl, hp, sm, hp2⟩
    have him : i < m := by omega
    have gc := sm _ _ (s2 _ _ g1)
    refine ⟨_, rfl, _, rfl, q1, _, _, _, rfl, rfl, SqL.of gc, rfl, _, rfl, q1, _, _, _, rfl, rfl, SqL.of gc, rfl, _, _, rfl, rfl, _, _, rfl, (by omega), fun D hD => ?_⟩
    refine lc_range (lo := (a : Int)) (fun j H4 => Same H2 H4 ∧ H4 D = some (.lst ((rowL a j (b + i)).map V.str))) ⟨same_new hD _, upd_same⟩ ?_ ?_
    · rintro j H4 hj ⟨sj, hj4⟩
      have hjn : j < n := by omega
      refine ⟨wipe_in (by decide), yes_ ?_⟩
      have ea : (a : Int) + (j : Int) = ((a + j : Nat) : Int) := by omega
      have eb : (b : Int) + 1 + (i : Int) = ((b + i : Nat) : Int) + 1 := by omega
      refine ⟨_, rfl, _, _, _, rfl, rfl, small (by decide), at_abc (by omega) (by omega), _, rfl, _, rfl, log_small (by omega) (by omega), ?_⟩
      have es : (toString ((b : Int) + 1 + (i : Int)) : Str) = SX.S [49 + (b + i)] := by rw [eb]; exact str_one (by omega)
      rw [es]
      refine ⟨_, _, rfl, rfl, small (by show 2 ≤ 1000; decide), ((rowL a j (b + i)).map V.str), hj4, (by rw [List.length_map, rowL_len]; exact small1000 (by omega)), ?_⟩
      refine ⟨fun c o e => by rw [upd_ne (ne_of_none e hD)]; exact sj c o e, ?_⟩
      rw [upd_same, rowL_succ, List.map_append, ea]
      rfl
    · rintro H4 ⟨sj, hj4⟩
      have en : ((a + n : Nat) : Int) - 1 + 1 - (a : Int) = (n : Int) := by omega
      rw [en, Int.toNat_natCast] at hj4
      refine ⟨p, D, _, _, rfl, rfl, sj _ _ hp2, hj4, ?_, fun t ht => ?_⟩
      · rw [List.length_map, List.length_map, rowsL_len, rowL_len]
        have : n * i ≤ 6 * 9 := Nat.mul_le_mul (by omega) (by omega)
        exact small (by omega)
      · refine ⟨t, _, rfl, (s1.trans s2).free (sm.free (sj.free ht)), sm.trans (sj.trans (same_new ht _)), ?_⟩
        rw [upd_same, rowsL_succ, List.map_append]
  · rintro σ H2 ⟨p, v, rfl, hp, sm, hp2⟩
    have en : (((b + m : Nat) : Int) + 1 - ((b : Int) + 1)).toNat = m := by omega
    rw [en] at hp2
    exact ⟨_, rfl, k p H2 hp ((s1.trans s2).trans sm) hp2⟩
end
end U

namespace U
open PySem L2 PyProof.Rows
section
variable {P : Program} {w : World} {K : PySem.W.Frag} {mg : Str → Option Value} {base : Heap}
theorem ok_is_cell {f : Addr} {fd : FuncData} (F : Fun K "is_cell" "is_cell" s_is_cell f fd) (B : Bt mg) (g_COLUMNS : GStr mg "COLUMNS" "abcdef") (g_ROWS : GStr mg "ROWS" "123456789") : FnOk P w K mg base CX0 1 f fd ["text"] spIsCell := by
  refine F.ok sc_is_cell (fun vs H Q E h => ?_) (fun cdv A outer s H vs Q E hr h => ?_)
  · obtain ⟨l, rfl, _⟩ := h
    rfl
  obtain ⟨l, rfl, hl, k⟩ := h
  refine ⟨_, (pss_one (ps_ret (pe_and (pe_cmpR op_eq (pe_callB call_len_str (by rfl) B.len boot_len (pa_cons (pv 0) pa_nil)) pe_int (nomark _)) (pe_and (pe_cmpR op_in_sign (pe_ix ix_str (pv 0) pe_int (fun _ _ => rfl)) (pe_gs g_COLUMNS (by rfl)) (by rfl)) (pe_one (pe_cmpR op_in_sign (pe_ix ix_str (pv 0) pe_int (fun _ _ => rfl)) (pe_gs g_ROWS (by rfl)) (by rfl))))))), ?_⟩
  have hl' : (SX.S l).length ≤ sizeLine := by rw [S_length]; exact hl
  refine ⟨_, rfl, _, rfl, hl', rfl, _, rfl, ?_⟩
  match l, k, hl' with
  | [a, b], k, hl' =>
    refine iteT ?_
    refine ⟨_, rfl, _, _, _, rfl, rfl, hl', rfl, _, _, rfl, rfl, _, rfl, ?_⟩
    rw [col_in]
    have e : isCelL [a, b] = ((decide (97 ≤ a) && decide (a ≤ 102)) && (decide (49 ≤ b) && decide (b ≤ 57))) := rfl
    cases q : (decide (97 ≤ a) && decide (a ≤ 102)) with
    | false =>
      rw [e, q] at k
      exact iteF k
    | true =>
      rw [e, q] at k
      refine iteT ?_
      refine ⟨_, rfl, _, _, _, rfl, rfl, hl', rfl, _, _, rfl, rfl, ?_⟩
      rw [row_in]
      exact k
  | [], k, _ => exact iteF k
  | [_], k, _ => exact iteF k
  | a :: b :: c :: r, k, _ =>
    have e : decide (V.int ((SX.S (a :: b :: c :: r)).length : Int) = V.int 2) = false := by
      rw [dec_i, S_length]
      simp only [List.length_cons, decide_eq_false_iff_not]
      omega
    rw [e]
    exact iteF k
theorem ok_place {f CN : Addr} {fd : FuncData} (F : Fun K "place" "place" s_place f fd) (B : Bt mg) (g_COLUMNS : GStr mg "COLUMNS" "abcdef") (g_ROWS : GStr mg "ROWS" "123456789") (e_NoCell : ExcF K mg "NoCell" CN) (C_is_cell : Cal P w K mg base 1 "is_cell" ["text"] spIsCell) :
    FnOk P w K mg base (L2.CX P w) 2 f fd ["cell"] (spPlace CN) := by
  refine F.okX sc_place (fun vs H Q E h => ?_) (fun cdv A outer s H vs Q E hr h => ?_)
  · obtain ⟨l, rfl, _⟩ := h
    rfl
  obtain ⟨l, rfl, hl, k, kx⟩ := h
  refine ⟨_, (pss_cons (ps_if (pt_not (pt_val (pc_c C_is_cell (hr.mono (by first | exact Nat.le_refl _ | decide | omega)) (by rfl) (pa_cons (pv 0) pa_nil)))) (pss_one (ps_raise rfl (takes_of rfl rfl rfl rfl) (pmk_x e_NoCell (by rfl) (pe_joined (.cons pe_str (.cons (pe_fmt (pv 0)) .nil)))))) pss_nil)
      (pss_one (ps_ret (pe_tup (pa_cons (pe_bm PySem.F.plainAttrs_str PySem.F.slot_str_index PySem.F.type_str_index mt_sindex (pe_gs g_COLUMNS (by rfl)) (pa_cons (pe_ix ix_str (pv 0) pe_int (fun _ _ => rfl)) pa_nil)) (pa_cons (pe_bm PySem.F.plainAttrs_str PySem.F.slot_str_index PySem.F.type_str_index mt_sindex (pe_gs g_ROWS (by rfl)) (pa_cons (pe_ix ix_str (pv 0) pe_int (fun _ _ => rfl)) pa_nil)) pa_nil)))))), ?_⟩
  refine ⟨_, rfl, l, rfl, ten_m hl, _, rfl, ?_⟩
  cases q : isCelL l with
  | false =>
    refine iteT ?_
    refine ⟨_, rfl, small (by decide), _, rfl, .inl ⟨_, rfl, by rw [S_length]; exact ten_m hl, _, rfl, ?_, ?_⟩⟩
    · rw [show (Str.empty ++ ("no cell: " : Str)) = SX.S [110, 111, 32, 99, 101, 108, 108, 58, 32] by decide +kernel, S_app, S_length, List.length_append, sizeLine_eq]
      simp only [List.length_cons, List.length_nil]
      omega
    · exact kx q
  | true =>
    obtain ⟨c, rfl⟩ := isCelL_iff q
    refine iteF ?_
    obtain ⟨r1, e1⟩ := head_rest (col_idx c.hc)
    obtain ⟨r2, e2⟩ := head_rest (row_idx c.hr)
    refine ⟨rfl, _, rfl, _, _, _, rfl, rfl, small (by show 2 ≤ 1000; decide), c.at0, _, _, _, _, rfl, rfl, e1, rfl, _, rfl, _, _, _, rfl, rfl, small (by show 2 ≤ 1000; decide), c.at1, _, _, _, _, rfl, rfl, e2, small (by show 2 ≤ 1000; decide), fun t ht => ?_⟩
    exact k c rfl t ht
theorem ok_stretch {f CN : Addr} {fd : FuncData} (F : Fun K "stretch" "stretch" s_stretch f fd) (B : Bt mg) (g_COLUMNS : GStr mg "COLUMNS" "abcdef") (g_ROWS : GStr mg "ROWS" "123456789") (C_place : CalX P w K mg base 2 "place" ["cell"] (spPlace CN)) :
    FnOk P w K mg base (L2.CX P w) 3 f fd ["one", "other"] (spStretch CN) := by
  refine F.okX sc_stretch (fun vs H Q E h => ?_) (fun cdv A outer s H vs Q E hr h => ?_)
  · obtain ⟨l, m, rfl, _⟩ := h
    rfl
  obtain ⟨l, m, rfl, hl, hm, k, kx⟩ := h
  refine ⟨_, (pss_cons (ps_asg (pc_x C_place (hr.mono (by first | exact Nat.le_refl _ | decide | omega)) (by rfl) (passes_call (takes_of rfl rfl rfl rfl) (fun _ _ _ _ h => h)) (pa_cons (pv 0) pa_nil)) (pg_tup (by rfl) (pgs_cons (pg_name (i := 2) sc_stretch.nd rfl (Or.inl rfl)) (pgs_cons (pg_name (i := 3) sc_stretch.nd rfl (Or.inl rfl)) pgs_nil))))
      (pss_cons (ps_asg (pc_x C_place (hr.mono (by first | exact Nat.le_refl _ | decide | omega)) (by rfl) (passes_call (takes_of rfl rfl rfl rfl) (fun _ _ _ _ h => h)) (pa_cons (pv 1) pa_nil)) (pg_tup (by rfl) (pgs_cons (pg_name (i := 4) sc_stretch.nd rfl (Or.inl rfl)) (pgs_cons (pg_name (i := 5) sc_stretch.nd rfl (Or.inl rfl)) pgs_nil))))
      (pss_cons (ps_set (i := 6) sc_stretch.nd rfl (Or.inr rfl) (pe_slice sl_str (pe_gs g_COLUMNS (by rfl)) (po_some (pe_callB (call_min2 rfl) (by rfl) B.min boot_min (pa_cons (pv 2) (pa_cons (pv 4) pa_nil)))) (po_some (pe_op op_add (pe_callB (call_max2 rfl) (by rfl) B.max boot_max (pa_cons (pv 2) (pa_cons (pv 4) pa_nil))) pe_int))))
      (pss_cons (ps_set (i := 7) sc_stretch.nd rfl (Or.inl rfl) (pe_slice sl_str (pe_gs g_ROWS (by rfl)) (po_some (pe_callB (call_min2 rfl) (by rfl) B.min boot_min (pa_cons (pv 3) (pa_cons (pv 5) pa_nil)))) (po_some (pe_op op_add (pe_callB (call_max2 rfl) (by rfl) B.max boot_max (pa_cons (pv 3) (pa_cons (pv 5) pa_nil))) pe_int))))
      (pss_one (ps_ret (pe_lc2 (own := [("row", 8), ("column", 9)]) (vs1 := [9]) rfl sc_stretch.nd (pi_str (pv 7)) (blkOk_by (N := ["one", "other", "left", "top", "right", "bottom", "columns", "rows", "row", "column"]) (sc := defScope s_stretch) (by decide +kernel)) (by decide) (fun _ _ _ _ _ => pg_name (i := 8) sc_stretch.nd rfl (Or.inl rfl)) (fun _ _ _ _ _ => pts_nil) (fun _ _ _ _ _ => (pi_str (pv 6))) (fun _ _ _ _ _ => pg_name (i := 9) sc_stretch.nd rfl (Or.inl rfl)) (fun _ _ _ _ _ => pts_nil) (fun _ _ _ _ _ => (pe_op op_add_str (pv 9) (pv 8)))))))))), ?_⟩
  refine ⟨_, rfl, l, rfl, hl, fun x hx t1 ht1 => ?_, fun q => kx (.inl q) _ (.refl H)⟩
  subst hx
  have s1 : Same H (upd H t1 (.tup [.int x.c, .int x.r])) := same_new ht1 _
  refine ⟨t1, _, rfl, SqT.of upd_same, rfl, _, _, rfl, _, _, rfl, rfl, ?_⟩
  generalize upd H t1 (.tup [.int x.c, .int x.r]) = H1 at s1 ⊢
  refine ⟨_, rfl, m, rfl, hm, fun y hy t2 ht2 => ?_, fun q => kx (.inr q) _ s1⟩
  subst hy
  have s2 : Same H1 (upd H1 t2 (.tup [.int y.c, .int y.r])) := same_new ht2 _
  refine ⟨t2, _, rfl, SqT.of upd_same, rfl, _, _, rfl, _, _, rfl, rfl, ?_⟩
  generalize upd H1 t2 (.tup [.int y.c, .int y.r]) = H2 at s2 ⊢
  have hxc := x.hc
  have hyc := y.hc
  have hxr := x.hr
  have hyr := y.hr
  obtain ⟨a, ha⟩ : ∃ a : Nat, a = min x.c y.c := ⟨_, rfl⟩
  obtain ⟨n, hn⟩ : ∃ n : Nat, n = max x.c y.c + 1 - min x.c y.c := ⟨_, rfl⟩
  obtain ⟨b, hb⟩ : ∃ b : Nat, b = min x.r y.r := ⟨_, rfl⟩
  obtain ⟨o, ho⟩ : ∃ o : Nat, o = max x.r y.r + 1 - min x.r y.r := ⟨_, rfl⟩
  have e1 : (if (y.c : Int) < x.c then (y.c : Int) else x.c) = (a : Int) := by split <;> omega
  have e2 : (if (y.c : Int) > x.c then (y.c : Int) else x.c) + 1 = ((a + n : Nat) : Int) := by split <;> omega
  have e3 : (if (y.r : Int) < x.r then (y.r : Int) else x.r) = (b : Int) := by split <;> omega
  have e4 : (if (y.r : Int) > x.r then (y.r : Int) else x.r) + 1 = ((b + o : Nat) : Int) := by split <;> omega
  have hs : strL x y = rowsL a n b o := by unfold strL; rw [← hn, ← ho, ← ha, ← hb]
  have k := k x y rfl rfl
  rw [hs] at k
  refine ⟨_, rfl, _, rfl, _, _, rfl, _, rfl, _, rfl, _, rfl, _, _, rfl, _, _, rfl, rfl, _, rfl, _, rfl, small (by show 6 ≤ 1000; decide), ?_⟩
  rw [e1, e2, cut_col (by omega) (by omega) (by omega)]
  refine ⟨_, rfl, _, rfl, _, _, rfl, _, rfl, _, rfl, _, rfl, _, _, rfl, _, _, rfl, rfl, _, rfl, _, rfl, small (by show 9 ≤ 1000; decide), ?_⟩
  rw [e3, e4, cut_row (by omega) (by omega) (by omega)]
  refine ⟨_, rfl, _, rfl, fun D hD => ?_⟩
  refine its_loop (fun i H4 => Same H2 H4 ∧ H4 D = some (.lst ((rowsL a n b i).map V.str))) ⟨same_new hD _, upd_same⟩ ?_ ?_
  · rintro i c H4 hc ⟨s4, d4⟩
    obtain ⟨hi, rfl⟩ := range_at hc
    refine ⟨wipe_in (by decide), yes_ ⟨_, rfl, _, rfl, ?_⟩⟩
    refine its_loop (fun j H5 => Same H2 H5 ∧ H5 D = some (.lst ((rowsL a n b i ++ rowL a j (b + i)).map V.str))) ⟨s4, by rw [d4]; simp [rowL]⟩ ?_ ?_
    · rintro j c H5 hc ⟨s5, d5⟩
      obtain ⟨hj, rfl⟩ := range_at hc
      refine ⟨wipe_in (by decide), yes_ ⟨_, rfl, _, rfl, _, _, rfl, rfl, small (by show 2 ≤ 1000; decide), _, d5, ?_, ?_, ?_⟩⟩
      · rw [List.length_map, List.length_append, rowsL_len, rowL_len]
        have : n * i ≤ 6 * 9 := Nat.mul_le_mul (by omega) (by omega)
        exact small1000 (by omega)
      · exact fun c o e => by rw [upd_ne (ne_of_none e hD)]; exact s5 c o e
      · rw [upd_same, rowL_succ, ← List.append_assoc, show (97 + (a + j)) = 97 + a + j by omega, show 49 + (b + i) = 49 + b + i by omega]
        simp only [List.map_append]
        rfl
    · rintro H5 ⟨s5, d5⟩
      rw [range_size] at d5
      exact ⟨s5, by rw [d5, rowsL_succ]⟩
  · rintro H4 ⟨s4, d4⟩
    rw [range_size] at d4
    exact k D H4 ((s1.trans s2).free hD) ((s1.trans s2).trans s4) d4
end
end U

namespace U
open PySem L2 PyProof.Rows
section
variable {P : Program} {w : World} {K : PySem.W.Frag} {mg : Str → Option Value} {base : Heap}
theorem ok_shifted {f CN : Addr} {fd : FuncData} (F : Fun K "shifted" "shifted" s_shifted f fd) (B : Bt mg) (g_ROWS : GStr mg "ROWS" "123456789") (C_place : CalX P w K mg base 2 "place" ["cell"] (spPlace CN)) :
    FnOk P w K mg base (L2.CX P w) 3 f fd ["cell", "rows"] (spShifted CN) := by
  refine F.okX sc_shifted (fun vs H Q E h => ?_) (fun cdv A outer s H vs Q E hr h => ?_)
  · obtain ⟨l, n, rfl, _⟩ := h
    rfl
  obtain ⟨l, n, rfl, hl, k, kx⟩ := h
  refine ⟨_, (pss_cons (ps_asg (pc_x C_place (hr.mono (by first | exact Nat.le_refl _ | decide | omega)) (by rfl) (passes_call (takes_of rfl rfl rfl rfl) (fun _ _ _ _ h => h)) (pa_cons (pv 0) pa_nil)) (pg_tup (by rfl) (pgs_cons (pg_name (i := 2) sc_shifted.nd rfl (Or.inl rfl)) (pgs_cons (pg_name (i := 3) sc_shifted.nd rfl (Or.inl rfl)) pgs_nil))))
      (pss_cons (ps_set (i := 4) sc_shifted.nd rfl (Or.inl rfl) (pe_op op_add (pv 3) (pv 1)))
      (pss_cons (ps_if (PW.pt (pw_or (pt_cmpR op_lt (pv 4) pe_int (nomark _)) (pw_or1 (pt_cmpR op_ge (pv 4) (pe_callB call_len_str (by rfl) B.len boot_len (pa_cons (pe_gs g_ROWS (by rfl)) pa_nil)) (nomark _))))) (pss_one (ps_ret pe_str)) pss_nil)
      (pss_one (ps_ret (pe_op op_add_str (pe_ix ix_str (pv 0) pe_int (fun _ _ => rfl)) (pe_ix ix_str (pe_gs g_ROWS (by rfl)) (pv 4) (fun _ _ => rfl)))))))), ?_⟩
  refine ⟨_, rfl, l, rfl, hl, fun x hx t1 ht1 => ?_, fun q => kx q _ (.refl H)⟩
  subst hx
  have s1 : Same H (upd H t1 (.tup [.int x.c, .int x.r])) := same_new ht1 _
  refine ⟨t1, _, rfl, SqT.of upd_same, rfl, _, _, rfl, _, _, rfl, rfl, ?_⟩
  generalize upd H t1 (.tup [.int x.c, .int x.r]) = H1 at s1 ⊢
  obtain ⟨k1, k2⟩ := k x rfl H1 s1
  refine ⟨_, rfl, _, rfl, _, _, rfl, rfl, _, rfl, _, _, rfl, rfl, _, rfl, or_join (fun r => ⟨_, rfl, _, rfl, small (by show 9 ≤ 1000; decide), _, _, rfl, rfl, _, rfl, r⟩) (fun c => ?_) (fun c => ?_)⟩
  · have e : ("123456789" : Str).length = 9 := by decide +kernel
    rw [e] at c
    simp only [Bool.or_eq_true, decide_eq_true_eq] at c
    have e0 : ("" : Str) = SX.S [] := by decide +kernel
    show Q (.str ("" : Str)) H1
    rw [e0]
    exact k2 (by omega)
  · have e : ("123456789" : Str).length = 9 := by decide +kernel
    rw [e] at c
    simp only [Bool.or_eq_false_iff, decide_eq_false_iff_not] at c
    have hc := x.hc
    refine ⟨_, rfl, _, _, _, rfl, rfl, small (by show 2 ≤ 1000; decide), x.at0, _, rfl, _, _, _, rfl, rfl, small (by show 9 ≤ 1000; decide), at_123 (by omega) (by omega), _, _, rfl, rfl, small (by show 2 ≤ 1000; decide), ?_⟩
    exact k1 ⟨x.c, ((x.r : Int) + n).toNat, x.hc, by omega⟩ rfl (by show (((x.r : Int) + n).toNat : Int) = _; omega)
end
end U

namespace U
open PySem L2 PyProof.Rows
section
theorem takes_len {X : Cx} {W : WX} (tk : Takes X W) : Takes X (fun cls d σ H => σ.length = X.N.length → W cls d σ H) := by
  intro e s' x
  obtain ⟨a, B, sI, pins, σ, H, cls, d, e0, I, r⟩ := x
  apply tk
  obtain ⟨h1, h2, h3, h4, h5, h6, h7⟩ := r
  exact ⟨a, B, sI, pins, σ, H, cls, d, e0, I, h1, h2, h3, h4, h5, h6, h7 I.len⟩
variable {X : Cx} {ps : List (Addr × Obj)} {τ : L2.St} {k : Nat} {Pr : L2.St → Prop}
/-- y is a lambda that was made in X and refuses with the class at CN -/
def GoodLam (X : Cx) (q : Str) (Pr : L2.St → Prop) (k : Nat) (CN : Addr) (y : V) (H : Hp) : Prop :=
  ∃ (f c' : Addr) (pm ctv : Value) (params : Arguments) (body : Expr) (sc : Scope) (tb : XK → TE), y = .ref f ∧ (f, PySem.W.kla_obj "<lambda>" (X.env.qual ++ "<lambda>") params body sc (cloFrom X.env.cells sc.names []) pm c' ctv) ∈ X.pn ∧ f ∉ frs X.stack ∧ LamX.LamS X.env.scope sc ∧
    (∀ (q : Str) (cl : List (Str × Addr)) (pm cv ctv : Value), bindArgs (PySem.W.kla_fn "<lambda>" q params body sc cl pm cv ctv) ⟨[], []⟩ = pure []) ∧
    (∀ (A : Around) (outer : List Env) (s : Shared) (H : Hp) (E : XK), Room k (A.deeper (LamX.lamEnv X sc s.heap.objs.size f c')) → PE (LamX.lamCx X A outer s H E sc f c') body (tb E)) ∧
    H c' = some (LamX.CodeO c' (q ++ "<lambda>")) ∧ ∀ (τ : L2.St) (E : XK) (Q : VK) (H' : Hp), Pr τ → Same H H' → (∀ H'', Same H' H'' → E (.ref CN) none H'') → tb E τ H' Q
theorem body_told {g CN CB CO CH CP CF CT : Addr} {s1 : Shared} {H1 : Hp} {cdv : Value} {y : V} {Q : VK} (B : Bt X.mg) (e_TableError : ExcF X.K X.mg "TableError" CT) (e_NoCell : ExcF X.K X.mg "NoCell" CN) (e_BadFormula : ExcF X.K X.mg "BadFormula" CB) (e_BadNote : GRef X.mg "BadNote" CO) (e_NoHand : ExcF X.K X.mg "NoHand" CH) (e_NoPoint : ExcF X.K X.mg "NoPoint" CP) (e_OffTable : ExcF X.K X.mg "OffTable" CF)
    (c_NoCell : ExcC X.K CN) (x1 : PySem.W.exmOne X.K (.ref CN) (.ref CT) = some true) (kF : PySem.W.kitOne X.K (.ref CN) (.ref CB) = some false) (kO : PySem.W.kitOne X.K (.ref CN) (.ref CO) = some false) (kH : PySem.W.kitOne X.K (.ref CN) (.ref CH) = some false) (kP : PySem.W.kitOne X.K (.ref CN) (.ref CP) = some false) (kT : PySem.W.kitOne X.K (.ref CN) (.ref CF) = some false)
    (kN : PySem.W.kitOne X.K (.ref CN) (.ref CN) = some true) (kV : PySem.W.kitOne X.K (.ref CN) (.type "ValueError") = some true)
    (I : Inv X ps τ H1 s1) (hr : Room (k + 1) (X.A.deeper (envOfC "_law_told" (defScope s_l_told) s1.heap.objs.size g cdv))) {q : Str} (hq : X.env.qual = q) (hP : Pr τ) (hy : GoodLam X q Pr k CN y H1) (hQ : ∀ (t : Addr) (H' : Hp), Same H1 H' → H' t = some (.tup [.str "no", .bl true]) → Q (.ref t) H') :
    ∃ t, PSs (cxOf CX0 X.prog X.w X.K X.mg X.base ["_law_work", "e", "_law_kinds", "_law_beside"] "_law_told" (defScope s_l_told) g cdv X.A X.stack s1 H1 E0) (defBody s_l_told) t ∧ t { nx := fun _ H' => Q .non H', rt := Q } (L2.start ["_law_work", "e", "_law_kinds", "_law_beside"] [y]) H1 := by
  subst hq
  obtain ⟨f, c', pm, ctv, params, body, sc, tb, rfl, hp, nf, L, hbind, hbody, hc, rd⟩ := hy
  have pin := I.pin _ (List.mem_append_left _ hp)
  have act : ∀ (W : WX) (pn : List (Addr × Obj)) (xe : Value → Shared → Prop) (p1 p2 : Pos), Takes ((cxOf CX0 X.prog X.w X.K X.mg X.base ["_law_work", "e", "_law_kinds", "_law_beside"] "_law_told" (defScope s_l_told) g cdv X.A X.stack s1 H1 E0).tr pn xe) W →
      PE ((cxOf CX0 X.prog X.w X.K X.mg X.base ["_law_work", "e", "_law_kinds", "_law_beside"] "_law_told" (defScope s_l_told) g cdv X.A X.stack s1 H1 E0).tr pn xe) (.Call (.Name "_law_work" p1) [] [] p2)
        (fun σZ HZ Q => σZ[0]? = some (some (.ref f)) ∧ HZ c' = some (LamX.CodeO c' (X.env.qual ++ "<lambda>")) ∧ tb (fun cls d H' => ∀ σ' : L2.St, σ'.length = 4 → W cls d σ' H') τ HZ Q) := fun W pn xe p1 p2 tk =>
    LamX.pe_act (i := 0) I L pin.1 pin.2.1 nf (hbind _ _ _ _ _) (takes_len tk) (fun cls d σ' H' h hl => h σ' hl) hr (fun A outer s H hr2 => hbody A outer s H _ hr2) rfl (Or.inl rfl)
  refine ⟨_, (pss_one (ps_try_as (i := 1) (Wout := fun _ _ _ _ => False) rfl rfl sc_l_told.nd rfl rfl ⟨(by rfl), by decide, Or.inl e_TableError.g⟩ takes0 (fun W pn xe tk _ => (pss_one (ps_ret (act W pn xe _ _ tk))))
      (fun a oe cls d pn hz hf => (pss_cons (ps_set (i := 2) sc_l_told.nd rfl (Or.inl rfl) (pe_lst (pa_cons (pe_callB (call_isX c_NoCell hz hf) (by rfl) B.isinstance boot_isinstance (pa_cons (pv 1) (pa_cons (pe_gr e_BadFormula.g (by rfl)) pa_nil))) (pa_cons (pe_callB (call_isX c_NoCell hz hf) (by rfl) B.isinstance boot_isinstance (pa_cons (pv 1) (pa_cons (pe_gr e_BadNote.g (by rfl)) pa_nil))) (pa_cons (pe_callB (call_isX c_NoCell hz hf) (by rfl) B.isinstance boot_isinstance (pa_cons (pv 1) (pa_cons (pe_gr e_NoHand.g (by rfl)) pa_nil))) (pa_cons (pe_callB (call_isX c_NoCell hz hf) (by rfl) B.isinstance boot_isinstance (pa_cons (pv 1) (pa_cons (pe_gr e_NoPoint.g (by rfl)) pa_nil))) pa_nil))))))
      (pss_cons (ps_set (i := 3) sc_l_told.nd rfl (Or.inl rfl) (pe_op op_cat (pv 2) (pe_lst (pa_cons (pe_callB (call_isX c_NoCell hz hf) (by rfl) B.isinstance boot_isinstance (pa_cons (pv 1) (pa_cons (pe_gr e_OffTable.g (by rfl)) pa_nil))) pa_nil))))
      (pss_one (ps_ret (pe_tup (pa_cons pe_str (pa_cons (pe_and (pe_callB (call_isX c_NoCell hz hf) (by rfl) B.isinstance boot_isinstance (pa_cons (pv 1) (pa_cons (pe_gr e_NoCell.g (by rfl)) pa_nil))) (pe_and (pe_callB (call_isX c_NoCell hz hf) (by rfl) B.isinstance boot_isinstance (pa_cons (pv 1) (pa_cons (pe_bltn (v := .ty "ValueError") (by rfl) B.ValueError boot_ValueError rfl) pa_nil))) (pe_one (pe_cmpR (op_notIn_K (K := X.K) rfl) pe_bl (pv 3) (by rfl))))) pa_nil)))))))))), ?_⟩
  refine ⟨rfl, hc, rd _ _ _ _ hP (.refl _) fun H2 s2 σ' hl => ⟨true, x1, fun _ ea hea => ?_, fun z => by cases z⟩⟩
  match σ', hl with
  | [u0, u1, u2, u3], _ =>
    refine ⟨_, rfl, isX_ref kF ⟨_, rfl, isX_ref kO ⟨_, rfl, isX_ref kH ⟨_, rfl, isX_ref kP ⟨small (by show 4 ≤ 1000; decide), fun p hp => ?_⟩⟩⟩⟩⟩
    have s3 : Same H2 (upd H2 p (.lst [.bl false, .bl false, .bl false, .bl false])) := same_new hp _
    have g3 : upd H2 p (.lst [.bl false, .bl false, .bl false, .bl false]) p = some (.lst [.bl false, .bl false, .bl false, .bl false]) := upd_same
    generalize upd H2 p (.lst [.bl false, .bl false, .bl false, .bl false]) = H3 at s3 g3 ⊢
    refine ⟨_, rfl, _, rfl, isX_ref kT ⟨small (by show 1 ≤ 1000; decide), fun p2 hp2 => ?_⟩⟩
    have s4 : Same H3 (upd H3 p2 (.lst [.bl false])) := same_new hp2 _
    have g4 : upd H3 p2 (.lst [.bl false]) p2 = some (.lst [.bl false]) := upd_same
    generalize upd H3 p2 (.lst [.bl false]) = H4 at s4 g4 ⊢
    refine ⟨p, p2, _, _, rfl, rfl, s4 _ _ g3, g4, small (by show 5 ≤ 1000; decide), fun p3 hp3 => ?_⟩
    have s5 : Same H4 (upd H4 p3 (.lst ([V.bl false, .bl false, .bl false, .bl false] ++ [.bl false]))) := same_new hp3 _
    have g5 : upd H4 p3 (.lst ([V.bl false, .bl false, .bl false, .bl false] ++ [.bl false])) p3 = some (.lst [.bl false, .bl false, .bl false, .bl false, .bl false]) := upd_same
    generalize upd H4 p3 (.lst ([V.bl false, .bl false, .bl false, .bl false] ++ [.bl false])) = H5 at s5 g5 ⊢
    refine ⟨_, rfl, isX_ref kN ⟨_, rfl, iteT ⟨_, rfl, isX_val kV ⟨_, rfl, iteT ⟨_, rfl, p3, _, rfl, .inl (SqL.of g5), rfl, rfl, small (by show 2 ≤ 1000; decide), fun t ht => ?_⟩⟩⟩⟩⟩
    exact hQ t _ (fun c o e => same_new ht _ _ _ (s5 _ _ (s4 _ _ (s3 _ _ (s2 _ _ e))))) upd_same
theorem body_toldK {K : PySem.W.Frag} {mg : Str → Option Value} {g CN CB CO CH CP CF CT : Addr} {s1 : Shared} {H1 : Hp} {cdv : Value} {y : V} {Q : VK} (hK : X.K = K) (hmg : X.mg = mg) (B : Bt mg) (e_TableError : ExcF K mg "TableError" CT) (e_NoCell : ExcF K mg "NoCell" CN) (e_BadFormula : ExcF K mg "BadFormula" CB) (e_BadNote : GRef mg "BadNote" CO) (e_NoHand : ExcF K mg "NoHand" CH) (e_NoPoint : ExcF K mg "NoPoint" CP) (e_OffTable : ExcF K mg "OffTable" CF)
    (c_NoCell : ExcC K CN) (x1 : PySem.W.exmOne K (.ref CN) (.ref CT) = some true) (kF : PySem.W.kitOne K (.ref CN) (.ref CB) = some false) (kO : PySem.W.kitOne K (.ref CN) (.ref CO) = some false) (kH : PySem.W.kitOne K (.ref CN) (.ref CH) = some false) (kP : PySem.W.kitOne K (.ref CN) (.ref CP) = some false) (kT : PySem.W.kitOne K (.ref CN) (.ref CF) = some false)
    (kN : PySem.W.kitOne K (.ref CN) (.ref CN) = some true) (kV : PySem.W.kitOne K (.ref CN) (.type "ValueError") = some true)
    (I : Inv X ps τ H1 s1) (hr : Room (k + 1) (X.A.deeper (envOfC "_law_told" (defScope s_l_told) s1.heap.objs.size g cdv))) {q : Str} (hq : X.env.qual = q) (hP : Pr τ) (hy : GoodLam X q Pr k CN y H1) (hQ : ∀ (t : Addr) (H' : Hp), Same H1 H' → H' t = some (.tup [.str "no", .bl true]) → Q (.ref t) H') :
    ∃ t, PSs (cxOf CX0 X.prog X.w X.K X.mg X.base ["_law_work", "e", "_law_kinds", "_law_beside"] "_law_told" (defScope s_l_told) g cdv X.A X.stack s1 H1 E0) (defBody s_l_told) t ∧ t { nx := fun _ H' => Q .non H', rt := Q } (L2.start ["_law_work", "e", "_law_kinds", "_law_beside"] [y]) H1 := by
  subst hK hmg
  exact body_told B e_TableError e_NoCell e_BadFormula e_BadNote e_NoHand e_NoPoint e_OffTable c_NoCell x1 kF kO kH kP kT kN kV I hr hq hP hy hQ
end
end U

namespace U
open PySem L2 PyProof.Rows
section
variable {P : Program} {w : World} {K : PySem.W.Frag} {mg : Str → Option Value} {base : Heap}
def spDown : Sp := fun vs H Q _ => ∃ (x : Cel) (n : Int), vs = [.str x.s, .int n] ∧ -100 ≤ n ∧ n ≤ 100 ∧ (∀ d : Cel, d.c = x.c → (d.r : Int) = x.r + n → Q (.str d.s) H) ∧ ((x.r : Int) + n < 0 ∨ 9 ≤ (x.r : Int) + n → Q (.str (SX.S [])) H)
theorem ok_ldown {f : Addr} {fd : FuncData} (F : Fun K "_law_down" "_law_down" s_l_down f fd) (B : Bt mg) : FnOk P w K mg base CX0 1 f fd ["_law_cell_here", "_law_rows"] spDown := by
  refine F.ok sc_l_down (fun vs H Q E h => ?_) (fun cdv A outer s H vs Q E hr h => ?_)
  · obtain ⟨x, n, rfl, _⟩ := h
    rfl
  obtain ⟨x, n, rfl, n0, n1, k1, k2⟩ := h
  refine ⟨_, (pss_cons (ps_set (i := 2) sc_l_down.nd rfl (Or.inl rfl) (pe_op op_add (pe_callTy call_int_str (by rfl) B.int boot_int (pa_cons (pe_ix ix_str (pv 0) pe_int (fun _ _ => rfl)) pa_nil)) (pv 1)))
      (pss_one (ps_ret (pe_ifExp (pt_chain op_lt op_lt pe_int (pv 2) pe_int) (pe_op op_add_str (pe_ix ix_str (pv 0) pe_int (fun _ _ => rfl)) (pe_callTy call_str_int (by rfl) B.str boot_str (pa_cons (pv 2) pa_nil))) pe_str)))), ?_⟩
  have hx := x.hc
  have hy := x.hr
  refine ⟨_, rfl, _, _, _, rfl, rfl, small (by show 2 ≤ 1000; decide), x.at1, _, _, rfl, int_one x.hr, (by show 1 ≤ 640; decide), _, rfl, _, _, rfl, rfl, ?_⟩
  refine ⟨_, rfl, _, _, rfl, rfl, ?_⟩
  have e0 : ("" : Str) = SX.S [] := by decide +kernel
  have out : ((x.r : Int) + n < 0 ∨ 9 ≤ (x.r : Int) + n) → Q (.str ("" : Str)) H := fun h => by
    rw [e0]
    exact k2 h
  refine ⟨_, rfl, ite2 (fun c1 => ⟨_, _, rfl, rfl, _, rfl, ite2 (fun c2 => ?_) (fun c2 => ?_)⟩) (fun c1 => ⟨_, rfl, iteF ?_⟩)⟩
  · simp only [decide_eq_true_eq] at c1 c2
    have ee : (x.r : Int) + 1 + n = (((x.r : Int) + n).toNat : Int) + 1 := by omega
    have hs := str_one (r := ((x.r : Int) + n).toNat) (by omega)
    refine ⟨_, rfl, _, _, _, rfl, rfl, small (by show 2 ≤ 1000; decide), x.at0, _, rfl, _, rfl, log_small (by omega) (by omega), _, _, rfl, rfl, ?_, ?_⟩
    · show 1 + (Str.ofString (toString ((x.r : Int) + 1 + n))).length ≤ sizeLine
      rw [ee, hs]
      exact small (by show 1 + 1 ≤ 1000; decide)
    · show Q (.str (SX.S [97 + x.c] ++ Str.ofString (toString ((x.r : Int) + 1 + n)))) H
      rw [ee, hs]
      exact k1 ⟨x.c, ((x.r : Int) + n).toNat, hx, by omega⟩ rfl (by show ((((x.r : Int) + n).toNat : Nat) : Int) = _; omega)
  · simp only [decide_eq_true_eq] at c1 c2
    exact out (by omega)
  · simp only [decide_eq_true_eq] at c1
    exact out (by omega)
end
end U

namespace U
open PySem L2 PyProof.Rows
section
variable {P : Program} {w : World} {K : PySem.W.Frag} {mg : Str → Option Value} {base : Heap}
def PrL : L2.St → Prop := fun τ => ∃ (bad : List Nat) (one : Cel) (rows : Int), bad.length ≤ 10000000 ∧ isCelL bad = false ∧ τ[5]? = some (some (.str (SX.S bad))) ∧ τ[2]? = some (some (.str one.s)) ∧ τ[4]? = some (some (.int rows))
def Sh (x : Cel) (n : Int) (z : Str) : Prop := (∀ d : Cel, d.c = x.c → (d.r : Int) = x.r + n → z = d.s) ∧ ((x.r : Int) + n < 0 ∨ 9 ≤ (x.r : Int) + n → z = SX.S [])
theorem sh_cel {x d : Cel} {n : Int} (h1 : d.c = x.c) (h2 : (d.r : Int) = x.r + n) : Sh x n d.s := by
  refine ⟨fun e g1 g2 => ?_, fun h => ?_⟩
  · have : d = e := by
      cases d
      cases e
      simp only at h1 h2 g1 g2
      congr 1
      · omega
      · omega
    rw [this]
  · have := d.hr
    omega
theorem sh_out {x : Cel} {n : Int} (h : (x.r : Int) + n < 0 ∨ 9 ≤ (x.r : Int) + n) : Sh x n (SX.S []) := by
  refine ⟨fun e g1 g2 => ?_, fun _ => rfl⟩
  have := e.hr
  omega
theorem sh_one {x : Cel} {n : Int} {y z : Str} (h1 : Sh x n y) (h2 : Sh x n z) : y = z := by
  by_cases hin : 0 ≤ (x.r : Int) + n ∧ (x.r : Int) + n < 9
  · have e1 := h1.1 ⟨x.c, ((x.r : Int) + n).toNat, x.hc, by omega⟩ rfl (by show ((((x.r : Int) + n).toNat : Nat) : Int) = _; omega)
    have e2 := h2.1 ⟨x.c, ((x.r : Int) + n).toNat, x.hc, by omega⟩ rfl (by show ((((x.r : Int) + n).toNat : Nat) : Int) = _; omega)
    rw [e1, e2]
  · rw [h1.2 (by omega), h2.2 (by omega)]
def spDown2 : Sp := fun vs H Q _ => ∃ (x : Cel) (n : Int), vs = [.str x.s, .int n] ∧ -100 ≤ n ∧ n ≤ 100 ∧ ∀ z, Sh x n z → Q (.str z) H
def spShifted2 (CN : Addr) : Sp := fun vs H Q E => ∃ (l : List Nat) (n : Int), vs = [.str (SX.S l), .int n] ∧ l.length ≤ 10000000 ∧
  (∀ c : Cel, l = c.l → ∀ (H' : Hp), Same H H' → ∀ z, Sh c n z → Q (.str z) H') ∧ (isCelL l = false → ∀ H', Same H H' → E (.ref CN) none H')
theorem down2 {vs : List V} {H : Hp} {Q : VK} {E : XK} (h : spDown2 vs H Q E) : spDown vs H Q E := by
  obtain ⟨x, n, e, n0, n1, k⟩ := h
  exact ⟨x, n, e, n0, n1, fun d h1 h2 => k _ (sh_cel h1 h2), fun h => k _ (sh_out h)⟩
theorem shifted2 {CN : Addr} {vs : List V} {H : Hp} {Q : VK} {E : XK} (h : spShifted2 CN vs H Q E) : spShifted CN vs H Q E := by
  obtain ⟨l, n, e, hl, k, kx⟩ := h
  exact ⟨l, n, e, hl, fun c ec H' s' => ⟨fun d h1 h2 => k c ec H' s' _ (sh_cel h1 h2), fun h => k c ec H' s' _ (sh_out h)⟩, kx⟩
theorem CalX.imp {P : Program} {w : World} {K : PySem.W.Frag} {mg : Str → Option Value} {base : Heap} {k : Nat} {x : Str} {ps : List Str} {sp sp' : Sp} (c : CalX P w K mg base k x ps sp) (h : ∀ vs H Q E, sp' vs H Q E → sp vs H Q E) : CalX P w K mg base k x ps sp' := by
  obtain ⟨f, fd, F, a, b, d⟩ := c.ex
  exact ⟨f, fd, F.imp h, a, b, d⟩
theorem Box.upd_ne {H : Hp} {b l D : Addr} {o : HO} (B : Box H b l) (h1 : D ≠ b) (h2 : D ≠ l) : Box (upd H D o) b l := by
  obtain ⟨z, ns, e1, e2, h3⟩ := B.ex
  exact ⟨z, ns, by rw [L2.upd_ne h1.symm]; exact e1, by rw [L2.upd_ne h2.symm]; exact e2, h3⟩
theorem and_step {A B Y : Prop} {a b : Bool} (hY : (if b = true then A else B) → Y) (r : if (a && b) = true then A else B) : if a = true then Y else (if false = true then A else B) := by
  cases a with
  | true => exact hY r
  | false => exact r
def lettersL : List Nat := [97, 98, 102, 103, 48, 49, 57, 57, 65, 32, 45]
theorem letters_eq : ("abfg0199A -" : Str).cps.toList = lettersL := by decide +kernel
theorem at_letters {i : Int} (h0 : 0 ≤ i) (h1 : i < 11) : ∃ c, c ∈ lettersL ∧ atI ("abfg0199A -" : Str).cps.toList i = some c := by
  rw [letters_eq]
  have : i = 0 ∨ i = 1 ∨ i = 2 ∨ i = 3 ∨ i = 4 ∨ i = 5 ∨ i = 6 ∨ i = 7 ∨ i = 8 ∨ i = 9 ∨ i = 10 := by omega
  rcases this with h | h | h | h | h | h | h | h | h | h | h <;> subst h <;> exact ⟨_, by unfold lettersL; simp, rfl⟩
theorem joinL_one : ∀ cs : List Nat, TL.joinL [] (cs.map fun c => [c]) = cs
  | [] => rfl
  | [c] => rfl
  | c :: d :: r => by
    have ih := joinL_one (d :: r)
    show [c] ++ ([] ++ TL.joinL [] ((d :: r).map fun c => [c])) = _
    rw [ih]
    rfl
theorem join_one (cs : List Nat) : Txt.join "" (cs.map fun c => SX.S [c]) = SX.S cs := by
  have e0 : ("" : Str) = SX.S [] := by decide +kernel
  have e1 : (cs.map fun c => SX.S [c]) = (cs.map fun c => [c]).map SX.S := by rw [List.map_map]; rfl
  rw [e0, e1, SX.join_S, joinL_one]
theorem abf_in {x : Nat} (h : x ∈ lettersL) : decide (x ∈ ("abf" : Str).cps.toList) = (decide (97 ≤ x) && decide (x ≤ 102)) := by
  have e : ("abf" : Str).cps.toList = [97, 98, 102] := by decide +kernel
  rw [e]
  unfold lettersL at h
  simp only [List.mem_cons, List.not_mem_nil, or_false] at h
  rcases h with h | h | h | h | h | h | h | h | h | h | h <;> subst h <;> decide
theorem nine_in {x : Nat} (h : x ∈ lettersL) : decide (x ∈ ("19" : Str).cps.toList) = (decide (49 ≤ x) && decide (x ≤ 57)) := by
  have e : ("19" : Str).cps.toList = [49, 57] := by decide +kernel
  rw [e]
  unfold lettersL at h
  simp only [List.mem_cons, List.not_mem_nil, or_false] at h
  rcases h with h | h | h | h | h | h | h | h | h | h | h <;> subst h <;> decide
theorem tabs_lst {PT w : Addr} {q : Str} {H : Hp} {xs ys : List V} (t : LamX.Tabs [(PT, q)] H) (hw : H w = some (.lst xs)) : LamX.Tabs [(PT, q)] (upd H w (.lst ys)) := by
  intro p m
  have := t p m
  rw [List.mem_singleton.mp m] at this ⊢
  obtain ⟨ps, h1, h2, h3⟩ := this
  refine ⟨ps, ?_, h2, fun pos cv hc => ?_⟩
  · rw [L2.upd_ne (ne_of h1 hw (by intro z; cases z))]
    exact h1
  · obtain ⟨c, e1, e2⟩ := h3 pos cv hc
    refine ⟨c, e1, ?_⟩
    rw [L2.upd_ne (ne_of e2 hw (by intro z; unfold LamX.CodeO at z; cases z))]
    exact e2
theorem code_lst {c w : Addr} {q : Str} {H : Hp} {xs ys : List V} (h : H c = some (LamX.CodeO c q)) (hw : H w = some (.lst xs)) : upd H w (.lst ys) c = some (LamX.CodeO c q) := by
  rw [L2.upd_ne (ne_of h hw (by intro z; unfold LamX.CodeO at z; cases z))]
  exact h
theorem no_shaped : SeqAt.shaped (PyData.tuple [PyData.str "no", PyData.bool true]) = true := by
  first
    | decide +kernel
    | (simp [SeqAt.shaped, PyData.depth, PyData.depthAll, PyData.canLay, PyData.canLayAll, PyData.canLay0, PyData.canLayAll0])
def tbA (CN : Addr) : XK → TE := fun E => tCal (spStretch CN) E (tCons (tVar 5) (tCons (tVar 2) tNil))
def tbB (CN : Addr) : XK → TE := fun E => tCal (spStretch CN) E (tCons (tVar 2) (tCons (tVar 5) tNil))
def tbC (CN : Addr) : XK → TE := fun E => tCal (spShifted2 CN) E (tCons (tVar 5) (tCons (tVar 4) tNil))
theorem cel_len (c : Cel) : c.l.length ≤ 10000000 := by
  show 2 ≤ 10000000
  decide
theorem isCel_l {c : Cel} {l : List Nat} (h : isCelL l = false) (e : l = c.l) : False := by
  rw [e, isCelL_cel] at h
  exact Bool.false_ne_true h.symm
theorem rdA {CN : Addr} {H : Hp} (τ : L2.St) (E : XK) (Q : VK) (H' : Hp) (hP : PrL τ) (_ : Same H H') (h : ∀ H'', Same H' H'' → E (.ref CN) none H'') : tbA CN E τ H' Q := by
  obtain ⟨bad, one, rows, hl, hb, h5, h2, h4⟩ := hP
  exact ⟨_, h5, _, h2, bad, one.l, rfl, hl, cel_len _, fun c d e => (isCel_l hb e).elim, fun _ => h⟩
theorem rdB {CN : Addr} {H : Hp} (τ : L2.St) (E : XK) (Q : VK) (H' : Hp) (hP : PrL τ) (_ : Same H H') (h : ∀ H'', Same H' H'' → E (.ref CN) none H'') : tbB CN E τ H' Q := by
  obtain ⟨bad, one, rows, hl, hb, h5, h2, h4⟩ := hP
  exact ⟨_, h2, _, h5, one.l, bad, rfl, cel_len _, hl, fun c d _ e => (isCel_l hb e).elim, fun _ => h⟩
theorem rdC {CN : Addr} {H : Hp} (τ : L2.St) (E : XK) (Q : VK) (H' : Hp) (hP : PrL τ) (_ : Same H H') (h : ∀ H'', Same H' H'' → E (.ref CN) none H'') : tbC CN E τ H' Q := by
  obtain ⟨bad, one, rows, hl, hb, h5, h2, h4⟩ := hP
  exact ⟨_, h5, _, h4, bad, rows, rfl, hl, fun c e => (isCel_l hb e).elim, fun _ => h⟩
def RL (f1 c1 f2 c2 f3 c3 : Addr) (y : V) (H : Hp) (Q : VK) : Prop :=
  ((y = .ref f1 ∧ H c1 = some (LamX.CodeO c1 (("law.<locals>." : Str) ++ "<lambda>"))) ∨ (y = .ref f2 ∧ H c2 = some (LamX.CodeO c2 (("law.<locals>." : Str) ++ "<lambda>"))) ∨ (y = .ref f3 ∧ H c3 = some (LamX.CodeO c3 (("law.<locals>." : Str) ++ "<lambda>")))) ∧
    ∀ (t : Addr) (H9 : Hp), Same H H9 → H9 t = some (.tup [.str "no", .bl true]) → Q (.ref t) H9
def spLawT (K : PySem.W.Frag) (PT : Addr) : Sp := fun vs H Q _ => ∃ (a : Addr) (ns : List Int), vs = [.ref a] ∧ SqL K H a (ns.map V.int) ∧ ns.length ≤ 63 ∧ H PT = some (.tbl #[]) ∧ ∀ H', Q (.bl true) H'
theorem ok_law {f g c PT CN CB CO CH CP CF CT : Addr} {fdt : FuncData} {oc kV dc pm ct : Value} {od an : Option Addr} {sl : Array (Option Value)} (lk : K.lookup f = some ⟨oc, od, .func (PySem.W.fnOf "law" "law" (defArgs s_law) (defBody s_law) (defScope s_law) .none kV dc pm an (.ref c) ct), sl⟩) (hcd : PySem.W.codeIn K (.ref c) "law" = true)
    (TB : LamX.TabB base mg c PT) (B : Bt mg) (e_TableError : ExcF K mg "TableError" CT) (e_NoCell : ExcF K mg "NoCell" CN) (e_BadFormula : ExcF K mg "BadFormula" CB) (e_BadNote : GRef mg "BadNote" CO) (e_NoHand : ExcF K mg "NoHand" CH) (e_NoPoint : ExcF K mg "NoPoint" CP) (e_OffTable : ExcF K mg "OffTable" CF)
    (c_NoCell : ExcC K CN) (x1 : PySem.W.exmOne K (.ref CN) (.ref CT) = some true) (kF : PySem.W.kitOne K (.ref CN) (.ref CB) = some false) (kO : PySem.W.kitOne K (.ref CN) (.ref CO) = some false) (kH : PySem.W.kitOne K (.ref CN) (.ref CH) = some false) (kP : PySem.W.kitOne K (.ref CN) (.ref CP) = some false) (kT : PySem.W.kitOne K (.ref CN) (.ref CF) = some false)
    (kN : PySem.W.kitOne K (.ref CN) (.ref CN) = some true) (kVE : PySem.W.kitOne K (.ref CN) (.type "ValueError") = some true)
    (C_l_begun : Cal P w K mg base 1 "_law_begun" ["_law_script"] (spBegun K)) (C_l_take : Cal P w K mg base 1 "_law_take" ["_law_box", "_law_many"] spTake) (C_l_cell : Cal P w K mg base 2 "_law_cell" ["_law_box"] spCell) (C_l_alike : Cal P w K mg base 3 "_law_alike" ["_law_found", "_law_due"] (spAlike K 3))
    (C_l_stretch : Cal P w K mg base 1 "_law_stretch" ["_law_one", "_law_other"] spStretchL) (C_l_down : Cal P w K mg base 1 "_law_down" ["_law_cell_here", "_law_rows"] spDown2) (C_stretch : CalX P w K mg base 3 "stretch" ["one", "other"] (spStretch CN)) (C_shifted : CalX P w K mg base 3 "shifted" ["cell", "rows"] (spShifted2 CN))
    (F_told : Fun K "_law_told" "_law_told" s_l_told g fdt) (m_told : mg "_law_told" = some (.ref g)) (b_told : Binds K fdt ["_law_work"] []) :
    FnOk P w K mg base CX0 6 f (PySem.W.fnOf "law" "law" (defArgs s_law) (defBody s_law) (defScope s_law) .none kV dc pm an (.ref c) ct) ["_law_script"] (spLawT K PT) := by
  refine fn_of lk hcd sc_law (fun vs H Q E h => ?_) (fun A outer s H vs Q E hr h => ?_)
  · obtain ⟨a, ns, rfl, _⟩ := h
    rfl
  obtain ⟨a, ns, rfl, hS, hl, hPT, k⟩ := h
  suffices hh : ∃ t, PSs (cxOf CX0 P w K mg base ["_law_script", "_law_box", "_law_one", "_law_other", "_law_rows", "_law_bad", "_law_works", "_law_k", "_law_work"] "law" (defScope s_law) f (.ref c) A outer s H E).nox (defBody s_law) t ∧ t { nx := fun _ H' => Q .non H', rt := Q } (L2.start ["_law_script", "_law_box", "_law_one", "_law_other", "_law_rows", "_law_bad", "_law_works", "_law_k", "_law_work"] [.ref a]) H by
    obtain ⟨t, h1, h2⟩ := hh
    exact ⟨t, h1.nox, h2⟩
  have hq0 : (cxOf CX0 P w K mg base ["_law_script", "_law_box", "_law_one", "_law_other", "_law_rows", "_law_bad", "_law_works", "_law_k", "_law_work"] "law" (defScope s_law) f (.ref c) A outer s H E).nox.env.qual = "law.<locals>." := rfl
  have hs0 : (cxOf CX0 P w K mg base ["_law_script", "_law_box", "_law_one", "_law_other", "_law_rows", "_law_bad", "_law_works", "_law_k", "_law_work"] "law" (defScope s_law) f (.ref c) A outer s H E).nox.stack = (cxOf CX0 P w K mg base ["_law_script", "_law_box", "_law_one", "_law_other", "_law_rows", "_law_bad", "_law_works", "_law_k", "_law_work"] "law" (defScope s_law) f (.ref c) A outer s H E).nox.env :: (cxOf CX0 P w K mg base ["_law_script", "_law_box", "_law_one", "_law_other", "_law_rows", "_law_bad", "_law_works", "_law_k", "_law_work"] "law" (defScope s_law) f (.ref c) A outer s H E).nox.outer := rfl
  have hf0 : (cxOf CX0 P w K mg base ["_law_script", "_law_box", "_law_one", "_law_other", "_law_rows", "_law_bad", "_law_works", "_law_k", "_law_work"] "law" (defScope s_law) f (.ref c) A outer s H E).nox.env.frame = some (cxOf CX0 P w K mg base ["_law_script", "_law_box", "_law_one", "_law_other", "_law_rows", "_law_bad", "_law_works", "_law_k", "_law_work"] "law" (defScope s_law) f (.ref c) A outer s H E).nox.env.locals := rfl
  have hc0 : (cxOf CX0 P w K mg base ["_law_script", "_law_box", "_law_one", "_law_other", "_law_rows", "_law_bad", "_law_works", "_law_k", "_law_work"] "law" (defScope s_law) f (.ref c) A outer s H E).nox.env.code = .ref c := rfl
  have hK0 : (cxOf CX0 P w K mg base ["_law_script", "_law_box", "_law_one", "_law_other", "_law_rows", "_law_bad", "_law_works", "_law_k", "_law_work"] "law" (defScope s_law) f (.ref c) A outer s H E).nox.K = K := rfl
  have hM0 : (cxOf CX0 P w K mg base ["_law_script", "_law_box", "_law_one", "_law_other", "_law_rows", "_law_bad", "_law_works", "_law_k", "_law_work"] "law" (defScope s_law) f (.ref c) A outer s H E).nox.mg = mg := rfl
  refine ⟨_, (pss_cons (ps_set (i := 1) sc_law.nd rfl (Or.inr rfl) (pc_c C_l_begun (hr.mono (by first | exact Nat.le_refl _ | decide | omega)) (by rfl) (pa_cons (pv 0) pa_nil)))
      (pss_cons (ps_set (i := 2) sc_law.nd rfl (Or.inr rfl) (pe_op op_add_str (pe_ix ix_str pe_str (pc_c C_l_take (hr.mono (by first | exact Nat.le_refl _ | decide | omega)) (by rfl) (pa_cons (pv 1) (pa_cons pe_int pa_nil))) (fun _ _ => rfl)) (pe_ix ix_str pe_str (pc_c C_l_take (hr.mono (by first | exact Nat.le_refl _ | decide | omega)) (by rfl) (pa_cons (pv 1) (pa_cons pe_int pa_nil))) (fun _ _ => rfl))))
      (pss_cons (ps_set (i := 3) sc_law.nd rfl (Or.inl rfl) (pc_c C_l_cell (hr.mono (by first | exact Nat.le_refl _ | decide | omega)) (by rfl) (pa_cons (pv 1) pa_nil)))
      (pss_cons (ps_set (i := 4) sc_law.nd rfl (Or.inr rfl) (pe_op op_sub (pc_c C_l_take (hr.mono (by first | exact Nat.le_refl _ | decide | omega)) (by rfl) (pa_cons (pv 1) (pa_cons pe_int pa_nil))) pe_int))
      (pss_cons (ps_if (pt_not (pt_val (pc_c C_l_alike (hr.mono (by first | exact Nat.le_refl _ | decide | omega)) (by rfl) (pa_cons (pc_x C_stretch (hr.mono (by first | exact Nat.le_refl _ | decide | omega)) (by rfl) passL (pa_cons (pv 2) (pa_cons (pv 3) pa_nil))) (pa_cons (pc_c C_l_stretch (hr.mono (by first | exact Nat.le_refl _ | decide | omega)) (by rfl) (pa_cons (pv 2) (pa_cons (pv 3) pa_nil))) pa_nil))))) (pss_one (ps_ret pe_bl)) pss_nil)
      (pss_cons (ps_if (pt_not (pt_val (pc_c C_l_alike (hr.mono (by first | exact Nat.le_refl _ | decide | omega)) (by rfl) (pa_cons (pc_x C_shifted (hr.mono (by first | exact Nat.le_refl _ | decide | omega)) (by rfl) passL (pa_cons (pv 2) (pa_cons (pv 4) pa_nil))) (pa_cons (pc_c C_l_down (hr.mono (by first | exact Nat.le_refl _ | decide | omega)) (by rfl) (pa_cons (pv 2) (pa_cons (pv 4) pa_nil))) pa_nil))))) (pss_one (ps_ret pe_bl)) pss_nil)
      (pss_cons (ps_set (i := 5) sc_law.nd rfl (Or.inr rfl) (pe_bm PySem.F.plainAttrs_str PySem.F.slot_str_join PySem.F.type_str_join mt_join pe_str (pa_cons (pe_lc (own := [("_law_k", 7)])  rfl sc_law.nd (pi_range1 (by rfl) B.range (pa_cons (pc_c C_l_take (hr.mono (by first | exact Nat.le_refl _ | decide | omega)) (by rfl) (pa_cons (pv 1) (pa_cons pe_int pa_nil))) pa_nil)) (blkOk_by (N := ["_law_script", "_law_box", "_law_one", "_law_other", "_law_rows", "_law_bad", "_law_works", "_law_k", "_law_work"]) (sc := defScope s_law) (by decide +kernel)) (fun _ _ _ _ _ => pg_name (i := 7) sc_law.nd rfl (Or.inl rfl)) (fun _ _ _ _ _ => pts_nil) (fun _ _ _ _ _ => (pe_ix ix_str pe_str (pc_c C_l_take (hr.mono (by first | exact Nat.le_refl _ | decide | omega)) (by rfl) (pa_cons (pv 1) (pa_cons pe_int pa_nil))) (fun _ _ => rfl)))) pa_nil)))
      (pss_cons (ps_if (PW.pt (pw_and (pt_cmpR op_eq (pe_callB call_len_str (by rfl) B.len boot_len (pa_cons (pv 5) pa_nil)) pe_int (nomark _)) (pw_and (pt_cmpR op_in_sign (pe_ix ix_str (pv 5) pe_int (fun _ _ => rfl)) pe_str (by rfl)) (pw_and1 (pt_cmpR op_in_sign (pe_ix ix_str (pv 5) pe_int (fun _ _ => rfl)) pe_str (by rfl)))))) (pss_one (ps_ret pe_bl)) pss_nil)
      (pss_setLamQ (q := "law.<locals>.") hq0 (i := 6) hs0 hf0 sc_law.nd rfl (Or.inl rfl) TB hc0 rfl (LamX.lamS_by (sc := defScope s_law) (by decide +kernel)) (fun f1 c1 pm1 ct1 pn1 in1 m1 nf1 =>
      (pss_appLamQ (q := "law.<locals>.") (trq hq0) (i := 6) (trs hs0) (trf hf0) (pv 6) TB (trc hc0) rfl (LamX.lamS_by (sc := defScope s_law) (by decide +kernel)) (fun f2 c2 pm2 ct2 pn2 in2 m2 nf2 =>
      (pss_appLamQ (q := "law.<locals>.") (trq (trq hq0)) (i := 6) (trs (trs hs0)) (trf (trf hf0)) (pv 6) TB (trc (trc hc0)) rfl (LamX.lamS_by (sc := defScope s_law) (by decide +kernel)) (fun f3 c3 pm3 ct3 pn3 in3 m3 nf3 =>
      (pss_one (ps_ret (pe_cmpR (op_eqD_K (K := K) hr.units (trK (trK (trK hK0)))) (pe_lcN (Pr := PrL) (own := [("_law_work", 8)]) rfl sc_law.nd (pi_listK (K := K) (trK (trK (trK hK0))) (pv 6)) (blkOk_by (N := ["_law_script", "_law_box", "_law_one", "_law_other", "_law_rows", "_law_bad", "_law_works", "_law_k", "_law_work"]) (sc := defScope s_law) (by decide +kernel)) (fun ps τ s G C cl fp I hfp hP => ⟨pg_name (i := 8) sc_law.nd rfl (Or.inl rfl), pts_one (pt_cmpR (op_neD_K (K := K) hr.units rfl) (pe_inB (k := 4) (R := RL f1 c1 f2 c2 f3 c3) I hfp F_told sc_l_told m_told b_told (hr.mono (by decide)) (by rfl) (pa_cons (pv 8) pa_nil) (fun s1 H1 cdv1 y Q1 J hr2 r => body_toldK (trK (trK (trK hK0))) (trM (trM (trM hM0))) B e_TableError e_NoCell e_BadFormula e_BadNote e_NoHand e_NoPoint e_OffTable c_NoCell x1 kF kO kH kP kT kN kVE J hr2 (trq (trq (trq hq0))) hP (Or.elim r.1 (fun h => ⟨f1, c1, pm1, ct1, _, _, _, tbA CN, h.1, in3 _ (in2 _ m1), nf1, LamX.lamS_by (sc := defScope s_law) (by decide +kernel), fun _ _ _ _ _ => rfl, fun A1 o1 s1 H1 E1 hr1 => pc_x C_stretch (hr1.mono (by decide)) (by rfl) (passes_call (takes_of rfl rfl rfl rfl) (fun _ _ _ _ h => h)) (pa_cons (pv 5) (pa_cons (pv 2) pa_nil)), h.2, rdA⟩) (fun h => Or.elim h (fun h => ⟨f2, c2, pm2, ct2, _, _, _, tbB CN, h.1, in3 _ m2, nf2, LamX.lamS_by (sc := defScope s_law) (by decide +kernel), fun _ _ _ _ _ => rfl, fun A1 o1 s1 H1 E1 hr1 => pc_x C_stretch (hr1.mono (by decide)) (by rfl) (passes_call (takes_of rfl rfl rfl rfl) (fun _ _ _ _ h => h)) (pa_cons (pv 2) (pa_cons (pv 5) pa_nil)), h.2, rdB⟩) (fun h => ⟨f3, c3, pm3, ct3, _, _, _, tbC CN, h.1, m3, nf3, LamX.lamS_by (sc := defScope s_law) (by decide +kernel), fun _ _ _ _ _ => rfl, fun A1 o1 s1 H1 E1 hr1 => pc_x C_shifted (hr1.mono (by decide)) (by rfl) (passes_call (takes_of rfl rfl rfl rfl) (fun _ _ _ _ h => h)) (pa_cons (pv 5) (pa_cons (pv 4) pa_nil)), h.2, rdC⟩))) r.2)) (pe_tup (pa_cons pe_str (pa_cons pe_bl pa_nil))) (nomark _))⟩)) (pe_lst pa_nil) (nomark _)))))))))))))))))), ?_⟩
  refine ⟨_, rfl, a, ns, rfl, hS, hl, fun b l H1 s1 hb hl1 BX => ?_⟩
  have T1 := s1 _ _ hPT
  refine ⟨_, rfl, b, l, 6, rfl, BX, by decide, by decide, fun r1 H2 c0 c1 B2 K2 => ⟨_, _, _, rfl, rfl, small (by decide), at_abc c0 c1, ?_⟩⟩
  refine ⟨_, rfl, b, l, 9, rfl, B2, by decide, by decide, fun r2 H3 d0 d1 B3 K3 => ⟨_, _, _, rfl, rfl, small (by decide), at_123 d0 d1, _, _, rfl, rfl, small (by decide : 2 ≤ 1000), ?_⟩⟩
  obtain ⟨one, eone⟩ : ∃ one : Cel, one = ⟨r1.toNat, r2.toNat, by omega, by omega⟩ := ⟨_, rfl⟩
  have es : (V.str (SX.S [97 + r1.toNat] ++ SX.S [49 + r2.toNat])) = V.str one.s := by rw [eone]; rfl
  refine ⟨_, rfl, b, l, rfl, B3, fun other H4 B4 K4 => ?_⟩
  refine ⟨_, rfl, b, l, 19, rfl, B4, by decide, by decide, fun r3 H5 e0 e1 B5 K5 => ⟨_, _, rfl, rfl, ?_⟩⟩
  have nT : ∀ {G : Hp} {ps}, Box G b l → G PT = some (.tbl ps) → PT ≠ b ∧ PT ≠ l := fun BG h => BG.off h fun xs z => by cases z
  have T2 := K2 _ _ T1 (nT BX T1).1 (nT BX T1).2
  have T3 := K3 _ _ T2 (nT BX T1).1 (nT BX T1).2
  have T4 := K4 _ _ T3 (nT BX T1).1 (nT BX T1).2
  have T5 := K5 _ _ T4 (nT BX T1).1 (nT BX T1).2
  refine ⟨_, es ▸ rfl, _, rfl, one.l, other.l, rfl, cel_len _, cel_len _, fun x y ex ey p H6 hp s6 g6 => ?_, fun h => h.elim (fun h => (isCel_l h rfl).elim) (fun h => (isCel_l h rfl).elim)⟩
  cases Cel.l_inj ex
  cases Cel.l_inj ey
  refine ⟨_, es ▸ rfl, _, rfl, one, other, rfl, fun p' H7 hp' s7 g7 => ?_⟩
  have le54 : (strL one other).length ≤ 1000000 := by
    unfold strL
    rw [rowsL_len]
    have h1 := one.hc
    have h2 := other.hc
    have h3 := one.hr
    have h4 := other.hr
    exact Nat.le_trans (Nat.mul_le_mul (show max one.c other.c + 1 - min one.c other.c ≤ 6 by omega) (show max one.r other.r + 1 - min one.r other.r ≤ 9 by omega)) (by decide)
  refine ⟨_, _, _, rfl, dp_strl (s7 _ _ g6), dp_strl g7, by simp [PyData.depth, depth_strs], strl_ok le54, _, rfl, iteF ?_⟩
  have s57 : Same H5 H7 := s6.trans s7
  have B7 := B5.keep s57
  have T7 := s57 _ _ T5
  refine ⟨_, es ▸ rfl, _, rfl, one.l, r3 - 9, rfl, cel_len _, fun x ex H8 s8 z hz => ?_, fun h => (isCel_l h rfl).elim⟩
  cases Cel.l_inj ex
  refine ⟨_, es ▸ rfl, _, rfl, one, r3 - 9, rfl, by omega, by omega, fun z2 hz2 => ?_⟩
  cases sh_one hz hz2
  refine ⟨_, _, _, rfl, .str z, .str z, by show 0 < 3; decide, rfl, _, rfl, iteF ?_⟩
  have B8 := B7.keep s8
  have T8 := s8 _ _ T7
  -- the text that may be none
  refine ⟨rfl, _, rfl, b, l, 4, rfl, B8, by decide, by decide, fun r4 H9 e0' e1' B9 K9 => ⟨_, rfl, by omega, by omega, fun D hD => ?_⟩⟩
  have nD := B9.new hD
  have T9 := K9 _ _ T8 (nT B8 T8).1 (nT B8 T8).2
  have sD := same_new hD (.lst [])
  have dT : D ≠ PT := (ne_of_none T9 hD).symm
  refine lc_range (lo := 0) (fun i G => Box G b l ∧ G PT = some (.tbl #[]) ∧ ∃ cs : List Nat, G D = some (.lst (cs.map fun c => V.str (SX.S [c]))) ∧ cs.length = i ∧ ∀ c ∈ cs, c ∈ lettersL)
    ⟨B9.keep sD, sD _ _ T9, [], upd_same, rfl, fun _ h => nomatch h⟩ ?_ ?_
  · rintro i G hi ⟨BG, TG, cs, gD, hl, hm⟩
    refine ⟨wipe_in (by decide), yes_ ?_⟩
    refine ⟨_, rfl, b, l, 11, rfl, BG, by decide, by decide, fun r5 G2 h0 h1 B2' K2' => ?_⟩
    obtain ⟨x, mx, ax⟩ := at_letters h0 h1
    have gD2 := K2' _ _ gD nD.1 nD.2
    have TG2 := K2' _ _ TG (nT BG TG).1 (nT BG TG).2
    refine ⟨_, _, _, rfl, rfl, small (by decide), ax, _, gD2, ?_, B2'.upd_ne nD.1 nD.2, ?_, cs ++ [x], ?_, by simp [hl], ?_⟩
    · rw [List.length_map, hl]
      exact small1000 (by omega)
    · rw [L2.upd_ne dT.symm]
      exact TG2
    · rw [upd_same, List.map_append]
      rfl
    · intro y hy
      rcases List.mem_append.mp hy with hy | hy
      · exact hm y hy
      · rw [List.mem_singleton.mp hy]
        exact mx
  · rintro G ⟨BG, TG, cs, gD, hl, hm⟩
    have cl3 : cs.length ≤ 3 := by omega
    refine ⟨"", D, cs.map (fun c => SX.S [c]), rfl, rfl, .inl (SqL.of (by rw [gD, List.map_map]; rfl)), ?_, ?_⟩
    · have e1 : ("" : Str).length = 0 := by decide +kernel
      have e2 : ∀ l : List Nat, ((l.map (fun c => SX.S [c])).map (·.length)).sum = l.length := by
        intro l
        induction l with
        | nil => rfl
        | cons c r ih =>
          rw [List.map_cons, List.map_cons, List.sum_cons, ih, List.length_cons]
          show 1 + _ = _
          omega
      rw [e1, e2]
      omega
    rw [join_one]
    have sz : (SX.S cs).length ≤ sizeLine := by
      rw [S_length]
      exact small (by omega)
    have hl7 : cs.length ≤ 10000000 := by omega
    by_cases full : ∃ x y, cs = [x, y]
    · obtain ⟨x, y, rfl⟩ := full
      have mx := hm x (by simp)
      have my := hm y (by simp)
      refine ⟨_, rfl, _, rfl, sz, rfl, _, rfl, and_step (b := (decide (97 ≤ x) && decide (x ≤ 102)) && (decide (49 ≤ y) && decide (y ≤ 57))) (fun r => ⟨_, rfl, _, _, _, rfl, rfl, sz, rfl, _, _, rfl, rfl, _, rfl, ?_⟩) ?_⟩
      · rw [abf_in mx]
        refine and_step (b := decide (49 ≤ y) && decide (y ≤ 57)) (fun r => ⟨_, rfl, _, _, _, rfl, rfl, sz, rfl, _, _, rfl, rfl, _, rfl, ?_⟩) r
        rw [nine_in my]
        exact r
      have ed : (decide (V.int ((SX.S [x, y]).length : Int) = V.int 2) && ((decide (97 ≤ x) && decide (x ≤ 102)) && (decide (49 ≤ y) && decide (y ≤ 57)))) = isCelL [x, y] := by
        rw [show decide (V.int ((SX.S [x, y]).length : Int) = V.int 2) = true from decide_eq_true rfl, Bool.true_and]
        rfl
      rw [ed]
      cases hb0 : isCelL [x, y] with
      | true => exact iteT (k _)
      | false =>
      refine iteF ?_
      refine ⟨fun p m => by rw [List.mem_singleton.mp m]; exact LamX.TabS.nil TG, fun f1 q1 pm1 ct1 G1 w1 eN1 TT1 hc1 hw1 => ?_⟩
      have ga : upd G1 w1 (.lst [.ref f1]) w1 = some (.lst [.ref f1]) := upd_same
      have ca := same_new hw1 (.lst [.ref f1]) _ _ hc1
      have TTa := TT1.ext (same_new hw1 (.lst [.ref f1]))
      generalize upd G1 w1 (.lst [.ref f1]) = Ga at ga ca TTa ⊢
      refine ⟨TTa, w1, rfl, ⟨_, ga⟩, fun f2 q2 pm2 ct2 G2 xs2 eN2 TT2 hc2 hw2 => ?_⟩
      have g2 := eN2 _ _ ga (by intro ps z; cases z)
      cases Option.some.inj (g2.symm.trans hw2)
      have cb1 := eN2 _ _ ca LamX.codeO_ne
      refine ⟨small1000 (by show 1 ≤ 1000; decide), ?_⟩
      have gb : upd G2 w1 (.lst ([V.ref f1] ++ [.ref f2])) w1 = some (.lst [.ref f1, .ref f2]) := upd_same
      have cb1 := code_lst (ys := [V.ref f1] ++ [.ref f2]) cb1 hw2
      have cb2 := code_lst (ys := [V.ref f1] ++ [.ref f2]) hc2 hw2
      have TTb := tabs_lst (ys := [V.ref f1] ++ [.ref f2]) TT2 hw2
      generalize upd G2 w1 (.lst ([V.ref f1] ++ [.ref f2])) = Gb at gb cb1 cb2 TTb ⊢
      refine ⟨TTb, w1, rfl, ⟨_, gb⟩, fun f3 q3 pm3 ct3 G3 xs3 eN3 TT3 hc3 hw3 => ?_⟩
      have g3 := eN3 _ _ gb (by intro ps z; cases z)
      cases Option.some.inj (g3.symm.trans hw3)
      have cd1 := eN3 _ _ cb1 LamX.codeO_ne
      have cd2 := eN3 _ _ cb2 LamX.codeO_ne
      refine ⟨small1000 (by show 2 ≤ 1000; decide), ?_⟩
      have gc : upd G3 w1 (.lst ([V.ref f1, .ref f2] ++ [.ref f3])) w1 = some (.lst [.ref f1, .ref f2, .ref f3]) := upd_same
      have cd1 := code_lst (ys := [V.ref f1, .ref f2] ++ [.ref f3]) cd1 hw3
      have cd2 := code_lst (ys := [V.ref f1, .ref f2] ++ [.ref f3]) cd2 hw3
      have cd3 := code_lst (ys := [V.ref f1, .ref f2] ++ [.ref f3]) hc3 hw3
      generalize upd G3 w1 (.lst ([V.ref f1, .ref f2] ++ [.ref f3])) = Gc at gc cd1 cd2 cd3 ⊢
      refine ⟨⟨_, one, r3 - 9, hl7, hb0, rfl, es ▸ rfl, rfl⟩, _, rfl, w1, rfl, ⟨_, SqL.of gc⟩, fun D2 hD2 => ?_⟩
      refine lc_list (te := fun _ _ _ => False) (K := K) (a := w1) (xs := [.ref f1, .ref f2, .ref f3]) (fun i G => Same Gc G ∧ G D2 = some (.lst [])) ⟨same_new hD2 _, upd_same⟩ (fun i G _ h => SqL.of (h.1 _ _ gc)) ?_ ?_
      · rintro i x G4 hx ⟨s4, d4⟩
        refine ⟨wipe_in (by decide), ?_⟩
        have mem : (x = .ref f1 ∧ G4 q1 = some (LamX.CodeO q1 (("law.<locals>." : Str) ++ "<lambda>"))) ∨ (x = .ref f2 ∧ G4 q2 = some (LamX.CodeO q2 (("law.<locals>." : Str) ++ "<lambda>"))) ∨ (x = .ref f3 ∧ G4 q3 = some (LamX.CodeO q3 (("law.<locals>." : Str) ++ "<lambda>"))) := by
          match i, hx with
          | 0, hx => cases hx; exact .inl ⟨rfl, s4 _ _ cd1⟩
          | 1, hx => cases hx; exact .inr (.inl ⟨rfl, s4 _ _ cd2⟩)
          | 2, hx => cases hx; exact .inr (.inr ⟨rfl, s4 _ _ cd3⟩)
          | n + 3, hx => simp at hx
        refine ⟨_, rfl, x, rfl, mem, fun t G5 s5 g5 => ⟨small (by show 2 ≤ 1000; decide), fun t2 ht2 => ?_⟩⟩
        have s6 := same_new ht2 (.tup [.str "no", .bl true])
        refine ⟨.tuple [.str "no", .bool true], .tuple [.str "no", .bool true], .tup (SqT.of (s6 _ _ g5)) (.cons (.str _) (.cons (.bl _) .nil)), .tup (SqT.of upd_same) (.cons (.str _) (.cons (.bl _) .nil)), no_shaped, no_shaped, ?_⟩
        have ev : PyData.eqv (.tuple [.str "no", .bool true]) (.tuple [.str "no", .bool true]) = true := by decide +kernel
        rw [ev]
        exact ⟨_, rfl, iteF ⟨fun c o e => s6 _ _ (s5 _ _ (s4 _ _ e)), s6 _ _ (s5 _ _ d4)⟩⟩
      · rintro G4 ⟨s4, d4⟩
        refine ⟨(by decide), fun p5 h5 => ?_⟩
        refine ⟨_, _, .lst (SqL.of (same_new h5 _ _ _ d4)) .nil, .lst (SqL.of upd_same) .nil, shaped_nil, shaped_nil, ?_⟩
        rw [eqv_nil]
        exact k _
    · have hb0 : isCelL cs = false := by
        match cs, full with
        | [], _ => rfl
        | [_], _ => rfl
        | [x, y], full => exact absurd ⟨x, y, rfl⟩ full
        | _ :: _ :: _ :: _, _ => rfl
      have n2 : decide (V.int ((SX.S cs).length : Int) = V.int 2) = false := by
        rw [dec_i, decide_eq_false_iff_not, S_length]
        intro e
        match cs, e, full with
        | [x, y], _, full => exact full ⟨x, y, rfl⟩
        | [], e, _ => simp at e
        | [_], e, _ => simp at e
        | _ :: _ :: _ :: _, e, _ => simp at e; omega
      refine ⟨_, rfl, _, rfl, sz, rfl, _, rfl, ?_⟩
      rw [n2]
      refine iteF (iteF ?_)
      refine ⟨fun p m => by rw [List.mem_singleton.mp m]; exact LamX.TabS.nil TG, fun f1 q1 pm1 ct1 G1 w1 eN1 TT1 hc1 hw1 => ?_⟩
      have ga : upd G1 w1 (.lst [.ref f1]) w1 = some (.lst [.ref f1]) := upd_same
      have ca := same_new hw1 (.lst [.ref f1]) _ _ hc1
      have TTa := TT1.ext (same_new hw1 (.lst [.ref f1]))
      generalize upd G1 w1 (.lst [.ref f1]) = Ga at ga ca TTa ⊢
      refine ⟨TTa, w1, rfl, ⟨_, ga⟩, fun f2 q2 pm2 ct2 G2 xs2 eN2 TT2 hc2 hw2 => ?_⟩
      have g2 := eN2 _ _ ga (by intro ps z; cases z)
      cases Option.some.inj (g2.symm.trans hw2)
      have cb1 := eN2 _ _ ca LamX.codeO_ne
      refine ⟨small1000 (by show 1 ≤ 1000; decide), ?_⟩
      have gb : upd G2 w1 (.lst ([V.ref f1] ++ [.ref f2])) w1 = some (.lst [.ref f1, .ref f2]) := upd_same
      have cb1 := code_lst (ys := [V.ref f1] ++ [.ref f2]) cb1 hw2
      have cb2 := code_lst (ys := [V.ref f1] ++ [.ref f2]) hc2 hw2
      have TTb := tabs_lst (ys := [V.ref f1] ++ [.ref f2]) TT2 hw2
      generalize upd G2 w1 (.lst ([V.ref f1] ++ [.ref f2])) = Gb at gb cb1 cb2 TTb ⊢
      refine ⟨TTb, w1, rfl, ⟨_, gb⟩, fun f3 q3 pm3 ct3 G3 xs3 eN3 TT3 hc3 hw3 => ?_⟩
      have g3 := eN3 _ _ gb (by intro ps z; cases z)
      cases Option.some.inj (g3.symm.trans hw3)
      have cd1 := eN3 _ _ cb1 LamX.codeO_ne
      have cd2 := eN3 _ _ cb2 LamX.codeO_ne
      refine ⟨small1000 (by show 2 ≤ 1000; decide), ?_⟩
      have gc : upd G3 w1 (.lst ([V.ref f1, .ref f2] ++ [.ref f3])) w1 = some (.lst [.ref f1, .ref f2, .ref f3]) := upd_same
      have cd1 := code_lst (ys := [V.ref f1, .ref f2] ++ [.ref f3]) cd1 hw3
      have cd2 := code_lst (ys := [V.ref f1, .ref f2] ++ [.ref f3]) cd2 hw3
      have cd3 := code_lst (ys := [V.ref f1, .ref f2] ++ [.ref f3]) hc3 hw3
      generalize upd G3 w1 (.lst ([V.ref f1, .ref f2] ++ [.ref f3])) = Gc at gc cd1 cd2 cd3 ⊢
      refine ⟨⟨_, one, r3 - 9, hl7, hb0, rfl, es ▸ rfl, rfl⟩, _, rfl, w1, rfl, ⟨_, SqL.of gc⟩, fun D2 hD2 => ?_⟩
      refine lc_list (te := fun _ _ _ => False) (K := K) (a := w1) (xs := [.ref f1, .ref f2, .ref f3]) (fun i G => Same Gc G ∧ G D2 = some (.lst [])) ⟨same_new hD2 _, upd_same⟩ (fun i G _ h => SqL.of (h.1 _ _ gc)) ?_ ?_
      · rintro i x G4 hx ⟨s4, d4⟩
        refine ⟨wipe_in (by decide), ?_⟩
        have mem : (x = .ref f1 ∧ G4 q1 = some (LamX.CodeO q1 (("law.<locals>." : Str) ++ "<lambda>"))) ∨ (x = .ref f2 ∧ G4 q2 = some (LamX.CodeO q2 (("law.<locals>." : Str) ++ "<lambda>"))) ∨ (x = .ref f3 ∧ G4 q3 = some (LamX.CodeO q3 (("law.<locals>." : Str) ++ "<lambda>"))) := by
          match i, hx with
          | 0, hx => cases hx; exact .inl ⟨rfl, s4 _ _ cd1⟩
          | 1, hx => cases hx; exact .inr (.inl ⟨rfl, s4 _ _ cd2⟩)
          | 2, hx => cases hx; exact .inr (.inr ⟨rfl, s4 _ _ cd3⟩)
          | n + 3, hx => simp at hx
        refine ⟨_, rfl, x, rfl, mem, fun t G5 s5 g5 => ⟨small (by show 2 ≤ 1000; decide), fun t2 ht2 => ?_⟩⟩
        have s6 := same_new ht2 (.tup [.str "no", .bl true])
        refine ⟨.tuple [.str "no", .bool true], .tuple [.str "no", .bool true], .tup (SqT.of (s6 _ _ g5)) (.cons (.str _) (.cons (.bl _) .nil)), .tup (SqT.of upd_same) (.cons (.str _) (.cons (.bl _) .nil)), no_shaped, no_shaped, ?_⟩
        have ev : PyData.eqv (.tuple [.str "no", .bool true]) (.tuple [.str "no", .bool true]) = true := by decide +kernel
        rw [ev]
        exact ⟨_, rfl, iteF ⟨fun c o e => s6 _ _ (s5 _ _ (s4 _ _ e)), s6 _ _ (s5 _ _ d4)⟩⟩
      · rintro G4 ⟨s4, d4⟩
        refine ⟨(by decide), fun p5 h5 => ?_⟩
        refine ⟨_, _, .lst (SqL.of (same_new h5 _ _ _ d4)) .nil, .lst (SqL.of upd_same) .nil, shaped_nil, shaped_nil, ?_⟩
        rw [eqv_nil]
        exact k _

end
end U

namespace U
open PySem L2 PyProof.Rows
theorem all_mk {l : PySem.W.OpenLaw} {w : World} {K : PySem.W.Frag} {h : Heap} {mg : Str → Option Value} {fa : Addr} (X : K.In h) (G : h.Ns mainGlobals mg) (hfa : mg "law" = some (.ref fa)) (O : LamX.OwnTab K fa h)
    {f_is_cell : Addr} {od_is_cell an_is_cell : Option Addr} {sl_is_cell : Array (Option Value)} {oc_is_cell kV_is_cell dc_is_cell pm_is_cell cd_is_cell ct_is_cell : Value}
    {f_place : Addr} {od_place an_place : Option Addr} {sl_place : Array (Option Value)} {oc_place kV_place dc_place pm_place cd_place ct_place : Value}
    {f_stretch : Addr} {od_stretch an_stretch : Option Addr} {sl_stretch : Array (Option Value)} {oc_stretch kV_stretch dc_stretch pm_stretch cd_stretch ct_stretch : Value}
    {f_shifted : Addr} {od_shifted an_shifted : Option Addr} {sl_shifted : Array (Option Value)} {oc_shifted kV_shifted dc_shifted pm_shifted cd_shifted ct_shifted : Value}
    {f_l_begun : Addr} {od_l_begun an_l_begun : Option Addr} {sl_l_begun : Array (Option Value)} {oc_l_begun kV_l_begun dc_l_begun pm_l_begun cd_l_begun ct_l_begun : Value}
    {f_l_take : Addr} {od_l_take an_l_take : Option Addr} {sl_l_take : Array (Option Value)} {oc_l_take kV_l_take dc_l_take pm_l_take cd_l_take ct_l_take : Value}
    {f_l_alike : Addr} {od_l_alike an_l_alike : Option Addr} {sl_l_alike : Array (Option Value)} {oc_l_alike kV_l_alike dc_l_alike pm_l_alike cd_l_alike ct_l_alike : Value}
    {f_l_cell : Addr} {od_l_cell an_l_cell : Option Addr} {sl_l_cell : Array (Option Value)} {oc_l_cell kV_l_cell dc_l_cell pm_l_cell cd_l_cell ct_l_cell : Value}
    {f_l_stretch : Addr} {od_l_stretch an_l_stretch : Option Addr} {sl_l_stretch : Array (Option Value)} {oc_l_stretch kV_l_stretch dc_l_stretch pm_l_stretch cd_l_stretch ct_l_stretch : Value}
    {f_l_down : Addr} {od_l_down an_l_down : Option Addr} {sl_l_down : Array (Option Value)} {oc_l_down kV_l_down dc_l_down pm_l_down cd_l_down ct_l_down : Value}
    {f_l_told : Addr} {od_l_told an_l_told : Option Addr} {sl_l_told : Array (Option Value)} {oc_l_told kV_l_told dc_l_told pm_l_told cd_l_told ct_l_told : Value}
    {f_law : Addr} {od_law an_law : Option Addr} {sl_law : Array (Option Value)} {oc_law kV_law dc_law pm_law ct_law : Value}
    {t_COLUMNS : Tok}
    {t_ROWS : Tok}
    {X_TableError : Addr}
    {X_NoCell : Addr}
    {X_BadFormula : Addr}
    {X_NoHand : Addr}
    {X_NoPoint : Addr}
    {X_OffTable : Addr}
    {X_BadNote : Addr}
    {C_law PT : Addr} {dd_c : Option Addr} {vs_c : Array Value} {sl_c : Array (Option Value)} {file_c : Str} {tf_c tg_c tt_c : Tok} {flags_c text_c : Int} {inF_c : Bool}
    (a_is_cell : PySem.W.nsIn K mainGlobals "is_cell" = some (some (.ref f_is_cell)))
    (l_is_cell : K.lookup f_is_cell = some ⟨oc_is_cell, od_is_cell, .func (PySem.W.fnOf "is_cell" "is_cell" (defArgs s_is_cell) (defBody s_is_cell) (defScope s_is_cell) .none kV_is_cell dc_is_cell pm_is_cell an_is_cell cd_is_cell ct_is_cell), sl_is_cell⟩)
    (c_is_cell : PySem.W.codeIn K cd_is_cell "is_cell" = true) (k_is_cell : PySem.W.keepIn K (.ref f_is_cell) = true)
    (a_place : PySem.W.nsIn K mainGlobals "place" = some (some (.ref f_place)))
    (l_place : K.lookup f_place = some ⟨oc_place, od_place, .func (PySem.W.fnOf "place" "place" (defArgs s_place) (defBody s_place) (defScope s_place) .none kV_place dc_place pm_place an_place cd_place ct_place), sl_place⟩)
    (c_place : PySem.W.codeIn K cd_place "place" = true) (k_place : PySem.W.keepIn K (.ref f_place) = true)
    (a_stretch : PySem.W.nsIn K mainGlobals "stretch" = some (some (.ref f_stretch)))
    (l_stretch : K.lookup f_stretch = some ⟨oc_stretch, od_stretch, .func (PySem.W.fnOf "stretch" "stretch" (defArgs s_stretch) (defBody s_stretch) (defScope s_stretch) .none kV_stretch dc_stretch pm_stretch an_stretch cd_stretch ct_stretch), sl_stretch⟩)
    (c_stretch : PySem.W.codeIn K cd_stretch "stretch" = true) (k_stretch : PySem.W.keepIn K (.ref f_stretch) = true)
    (a_shifted : PySem.W.nsIn K mainGlobals "shifted" = some (some (.ref f_shifted)))
    (l_shifted : K.lookup f_shifted = some ⟨oc_shifted, od_shifted, .func (PySem.W.fnOf "shifted" "shifted" (defArgs s_shifted) (defBody s_shifted) (defScope s_shifted) .none kV_shifted dc_shifted pm_shifted an_shifted cd_shifted ct_shifted), sl_shifted⟩)
    (c_shifted : PySem.W.codeIn K cd_shifted "shifted" = true) (k_shifted : PySem.W.keepIn K (.ref f_shifted) = true)
    (a_l_begun : PySem.W.nsIn K mainGlobals "_law_begun" = some (some (.ref f_l_begun)))
    (l_l_begun : K.lookup f_l_begun = some ⟨oc_l_begun, od_l_begun, .func (PySem.W.fnOf "_law_begun" "_law_begun" (defArgs s_l_begun) (defBody s_l_begun) (defScope s_l_begun) .none kV_l_begun dc_l_begun pm_l_begun an_l_begun cd_l_begun ct_l_begun), sl_l_begun⟩)
    (c_l_begun : PySem.W.codeIn K cd_l_begun "_law_begun" = true) (k_l_begun : PySem.W.keepIn K (.ref f_l_begun) = true)
    (a_l_take : PySem.W.nsIn K mainGlobals "_law_take" = some (some (.ref f_l_take)))
    (l_l_take : K.lookup f_l_take = some ⟨oc_l_take, od_l_take, .func (PySem.W.fnOf "_law_take" "_law_take" (defArgs s_l_take) (defBody s_l_take) (defScope s_l_take) .none kV_l_take dc_l_take pm_l_take an_l_take cd_l_take ct_l_take), sl_l_take⟩)
    (c_l_take : PySem.W.codeIn K cd_l_take "_law_take" = true) (k_l_take : PySem.W.keepIn K (.ref f_l_take) = true)
    (a_l_alike : PySem.W.nsIn K mainGlobals "_law_alike" = some (some (.ref f_l_alike)))
    (l_l_alike : K.lookup f_l_alike = some ⟨oc_l_alike, od_l_alike, .func (PySem.W.fnOf "_law_alike" "_law_alike" (defArgs s_l_alike) (defBody s_l_alike) (defScope s_l_alike) .none kV_l_alike dc_l_alike pm_l_alike an_l_alike cd_l_alike ct_l_alike), sl_l_alike⟩)
    (c_l_alike : PySem.W.codeIn K cd_l_alike "_law_alike" = true) (k_l_alike : PySem.W.keepIn K (.ref f_l_alike) = true)
    (a_l_cell : PySem.W.nsIn K mainGlobals "_law_cell" = some (some (.ref f_l_cell)))
    (l_l_cell : K.lookup f_l_cell = some ⟨oc_l_cell, od_l_cell, .func (PySem.W.fnOf "_law_cell" "_law_cell" (defArgs s_l_cell) (defBody s_l_cell) (defScope s_l_cell) .none kV_l_cell dc_l_cell pm_l_cell an_l_cell cd_l_cell ct_l_cell), sl_l_cell⟩)
    (c_l_cell : PySem.W.codeIn K cd_l_cell "_law_cell" = true) (k_l_cell : PySem.W.keepIn K (.ref f_l_cell) = true)
    (a_l_stretch : PySem.W.nsIn K mainGlobals "_law_stretch" = some (some (.ref f_l_stretch)))
    (l_l_stretch : K.lookup f_l_stretch = some ⟨oc_l_stretch, od_l_stretch, .func (PySem.W.fnOf "_law_stretch" "_law_stretch" (defArgs s_l_stretch) (defBody s_l_stretch) (defScope s_l_stretch) .none kV_l_stretch dc_l_stretch pm_l_stretch an_l_stretch cd_l_stretch ct_l_stretch), sl_l_stretch⟩)
    (c_l_stretch : PySem.W.codeIn K cd_l_stretch "_law_stretch" = true) (k_l_stretch : PySem.W.keepIn K (.ref f_l_stretch) = true)
    (a_l_down : PySem.W.nsIn K mainGlobals "_law_down" = some (some (.ref f_l_down)))
    (l_l_down : K.lookup f_l_down = some ⟨oc_l_down, od_l_down, .func (PySem.W.fnOf "_law_down" "_law_down" (defArgs s_l_down) (defBody s_l_down) (defScope s_l_down) .none kV_l_down dc_l_down pm_l_down an_l_down cd_l_down ct_l_down), sl_l_down⟩)
    (c_l_down : PySem.W.codeIn K cd_l_down "_law_down" = true) (k_l_down : PySem.W.keepIn K (.ref f_l_down) = true)
    (a_l_told : PySem.W.nsIn K mainGlobals "_law_told" = some (some (.ref f_l_told)))
    (l_l_told : K.lookup f_l_told = some ⟨oc_l_told, od_l_told, .func (PySem.W.fnOf "_law_told" "_law_told" (defArgs s_l_told) (defBody s_l_told) (defScope s_l_told) .none kV_l_told dc_l_told pm_l_told an_l_told cd_l_told ct_l_told), sl_l_told⟩)
    (c_l_told : PySem.W.codeIn K cd_l_told "_law_told" = true) (k_l_told : PySem.W.keepIn K (.ref f_l_told) = true)
    (a_law : PySem.W.nsIn K mainGlobals "law" = some (some (.ref f_law)))
    (l_law : K.lookup f_law = some ⟨oc_law, od_law, .func (PySem.W.fnOf "law" "law" (defArgs s_law) (defBody s_law) (defScope s_law) .none kV_law dc_law pm_law an_law (.ref C_law) ct_law), sl_law⟩)
    (c_law : PySem.W.codeIn K (.ref C_law) "law" = true) (k_law : PySem.W.keepIn K (.ref f_law) = true)
    (a_COLUMNS : PySem.W.nsIn K mainGlobals "COLUMNS" = some (some (.str "abcdef" t_COLUMNS)))
    (a_ROWS : PySem.W.nsIn K mainGlobals "ROWS" = some (some (.str "123456789" t_ROWS)))
    (a_TableError : PySem.W.nsIn K mainGlobals "TableError" = some (some (.ref X_TableError))) (k_TableError : PySem.W.keepIn K (.ref X_TableError) = true) (x_TableError : PySem.W.excIn K X_TableError [.type "ValueError", .type "Exception", .type "BaseException", .type "object"] "ValueError.__new__" = true)
    (b_TableError : PySem.W.subIn K (.ref X_TableError) (.type "BaseException") = some true) (t_TableError : PySem.W.typeIn K (.ref X_TableError) = some (.type "type"))
    (a_NoCell : PySem.W.nsIn K mainGlobals "NoCell" = some (some (.ref X_NoCell))) (k_NoCell : PySem.W.keepIn K (.ref X_NoCell) = true) (x_NoCell : PySem.W.excIn K X_NoCell [.type "ValueError", .type "Exception", .type "BaseException", .type "object"] "ValueError.__new__" = true)
    (b_NoCell : PySem.W.subIn K (.ref X_NoCell) (.type "BaseException") = some true) (t_NoCell : PySem.W.typeIn K (.ref X_NoCell) = some (.type "type"))
    (a_BadFormula : PySem.W.nsIn K mainGlobals "BadFormula" = some (some (.ref X_BadFormula))) (k_BadFormula : PySem.W.keepIn K (.ref X_BadFormula) = true) (x_BadFormula : PySem.W.excIn K X_BadFormula [.type "ValueError", .type "Exception", .type "BaseException", .type "object"] "ValueError.__new__" = true)
    (b_BadFormula : PySem.W.subIn K (.ref X_BadFormula) (.type "BaseException") = some true) (t_BadFormula : PySem.W.typeIn K (.ref X_BadFormula) = some (.type "type"))
    (a_NoHand : PySem.W.nsIn K mainGlobals "NoHand" = some (some (.ref X_NoHand))) (k_NoHand : PySem.W.keepIn K (.ref X_NoHand) = true) (x_NoHand : PySem.W.excIn K X_NoHand [.type "ValueError", .type "Exception", .type "BaseException", .type "object"] "ValueError.__new__" = true)
    (b_NoHand : PySem.W.subIn K (.ref X_NoHand) (.type "BaseException") = some true) (t_NoHand : PySem.W.typeIn K (.ref X_NoHand) = some (.type "type"))
    (a_NoPoint : PySem.W.nsIn K mainGlobals "NoPoint" = some (some (.ref X_NoPoint))) (k_NoPoint : PySem.W.keepIn K (.ref X_NoPoint) = true) (x_NoPoint : PySem.W.excIn K X_NoPoint [.type "ValueError", .type "Exception", .type "BaseException", .type "object"] "ValueError.__new__" = true)
    (b_NoPoint : PySem.W.subIn K (.ref X_NoPoint) (.type "BaseException") = some true) (t_NoPoint : PySem.W.typeIn K (.ref X_NoPoint) = some (.type "type"))
    (a_OffTable : PySem.W.nsIn K mainGlobals "OffTable" = some (some (.ref X_OffTable))) (k_OffTable : PySem.W.keepIn K (.ref X_OffTable) = true) (x_OffTable : PySem.W.excIn K X_OffTable [.type "ValueError", .type "Exception", .type "BaseException", .type "object"] "ValueError.__new__" = true)
    (b_OffTable : PySem.W.subIn K (.ref X_OffTable) (.type "BaseException") = some true) (t_OffTable : PySem.W.typeIn K (.ref X_OffTable) = some (.type "type"))
    (a_BadNote : PySem.W.nsIn K mainGlobals "BadNote" = some (some (.ref X_BadNote))) (t_BadNote : PySem.W.typeIn K (.ref X_BadNote) = some (.type "type")) (hs_BadNote : PySem.W.isClsIn K X_BadNote = true)
    (hd_TableError : PySem.W.hasDictIn K X_TableError = true) (hs_TableError : PySem.W.isClsIn K X_TableError = true) (hr_TableError : PySem.W.subIn K (.ref X_TableError) (.ref X_TableError) = some true)
    (hd_NoCell : PySem.W.hasDictIn K X_NoCell = true) (hs_NoCell : PySem.W.isClsIn K X_NoCell = true) (hr_NoCell : PySem.W.subIn K (.ref X_NoCell) (.ref X_NoCell) = some true)
    (hd_BadFormula : PySem.W.hasDictIn K X_BadFormula = true) (hs_BadFormula : PySem.W.isClsIn K X_BadFormula = true) (hr_BadFormula : PySem.W.subIn K (.ref X_BadFormula) (.ref X_BadFormula) = some true)
    (hd_NoHand : PySem.W.hasDictIn K X_NoHand = true) (hs_NoHand : PySem.W.isClsIn K X_NoHand = true) (hr_NoHand : PySem.W.subIn K (.ref X_NoHand) (.ref X_NoHand) = some true)
    (hd_NoPoint : PySem.W.hasDictIn K X_NoPoint = true) (hs_NoPoint : PySem.W.isClsIn K X_NoPoint = true) (hr_NoPoint : PySem.W.subIn K (.ref X_NoPoint) (.ref X_NoPoint) = some true)
    (hd_OffTable : PySem.W.hasDictIn K X_OffTable = true) (hs_OffTable : PySem.W.isClsIn K X_OffTable = true) (hr_OffTable : PySem.W.subIn K (.ref X_OffTable) (.ref X_OffTable) = some true)
    (ca_NoCell : PySem.W.findIn K (.ref X_NoCell) "__getattribute__" = some (some (.builtin "BaseException.__getattribute__"))) (cb_NoCell : PySem.W.findIn K (.ref X_NoCell) "__getattr__" = some none)
    (cc_NoCell : PySem.W.findIn K (.ref X_NoCell) "__class__" = some (some (.builtin "object.__class__"))) (ce_NoCell : PySem.W.specialIn K (.builtin "object.__class__") "__get__" = some (some (.builtin "getset_descriptor.__get__")))
    (cf_NoCell : PySem.W.takesIn K (.builtin "object.__class__") = some true) (cg_NoCell : PySem.W.mroIn K X_NoCell (.type "object") = some true) (cv_NoCell : PySem.W.subIn K (.ref X_NoCell) (.type "ValueError") = some true)
    (u_NoCell_TableError : PySem.W.subIn K (.ref X_NoCell) (.ref X_TableError) = some true)
    (u_NoCell_BadFormula : PySem.W.subIn K (.ref X_NoCell) (.ref X_BadFormula) = some false)
    (u_NoCell_BadNote : PySem.W.subIn K (.ref X_NoCell) (.ref X_BadNote) = some false)
    (u_NoCell_NoHand : PySem.W.subIn K (.ref X_NoCell) (.ref X_NoHand) = some false)
    (u_NoCell_NoPoint : PySem.W.subIn K (.ref X_NoCell) (.ref X_NoPoint) = some false)
    (u_NoCell_OffTable : PySem.W.subIn K (.ref X_NoCell) (.ref X_OffTable) = some false)
    (z_len : PySem.W.nsIn K mainGlobals "len" = some none)
    (z_range : PySem.W.nsIn K mainGlobals "range" = some none)
    (z_int : PySem.W.nsIn K mainGlobals "int" = some none)
    (z_str : PySem.W.nsIn K mainGlobals "str" = some none)
    (z_bool : PySem.W.nsIn K mainGlobals "bool" = some none)
    (z_list : PySem.W.nsIn K mainGlobals "list" = some none)
    (z_tuple : PySem.W.nsIn K mainGlobals "tuple" = some none)
    (z_dict : PySem.W.nsIn K mainGlobals "dict" = some none)
    (z_sorted : PySem.W.nsIn K mainGlobals "sorted" = some none)
    (z_isinstance : PySem.W.nsIn K mainGlobals "isinstance" = some none)
    (z_min : PySem.W.nsIn K mainGlobals "min" = some none)
    (z_max : PySem.W.nsIn K mainGlobals "max" = some none)
    (z_ValueError : PySem.W.nsIn K mainGlobals "ValueError" = some none)
    (z_abs : PySem.W.nsIn K mainGlobals "abs" = some none)
    (lc : K.lookup C_law = some ⟨.type "code", dd_c, .fields vs_c, sl_c⟩) (va : vs_c[11]? = some (.ref PT)) (vb : vs_c.getD 11 .none = .ref PT) (vc : vs_c.getD 18 .none = .str file_c tf_c) (vd : vs_c.getD 7 .none = .int flags_c tg_c) (ve : vs_c.getD 9 .none = .bool inF_c) (vf : vs_c.getD 10 .none = .int text_c tt_c)
    (vn : C_law ≠ PT) (nP : K.lookup PT = none) :
    LamX.LawAtS l w K CX0 6 63 "_law_script" mg fa h := by
  have e := hfa.symm.trans (PySem.W.mg_of X G a_law)
  cases e
  have F_is_cell := fun_mk (st := s_is_cell) l_is_cell c_is_cell k_is_cell
  have b_is_cell := F_is_cell.binds (ps := ["text"]) fun _ _ _ _ _ _ us hl => match us, hl with | [_], _ => rfl
  have m_is_cell := PySem.W.mg_of X G a_is_cell
  have F_place := fun_mk (st := s_place) l_place c_place k_place
  have b_place := F_place.binds (ps := ["cell"]) fun _ _ _ _ _ _ us hl => match us, hl with | [_], _ => rfl
  have m_place := PySem.W.mg_of X G a_place
  have F_stretch := fun_mk (st := s_stretch) l_stretch c_stretch k_stretch
  have b_stretch := F_stretch.binds (ps := ["one", "other"]) fun _ _ _ _ _ _ us hl => match us, hl with | [_, _], _ => rfl
  have m_stretch := PySem.W.mg_of X G a_stretch
  have F_shifted := fun_mk (st := s_shifted) l_shifted c_shifted k_shifted
  have b_shifted := F_shifted.binds (ps := ["cell", "rows"]) fun _ _ _ _ _ _ us hl => match us, hl with | [_, _], _ => rfl
  have m_shifted := PySem.W.mg_of X G a_shifted
  have F_l_begun := fun_mk (st := s_l_begun) l_l_begun c_l_begun k_l_begun
  have b_l_begun := F_l_begun.binds (ps := ["_law_script"]) fun _ _ _ _ _ _ us hl => match us, hl with | [_], _ => rfl
  have m_l_begun := PySem.W.mg_of X G a_l_begun
  have F_l_take := fun_mk (st := s_l_take) l_l_take c_l_take k_l_take
  have b_l_take := F_l_take.binds (ps := ["_law_box", "_law_many"]) fun _ _ _ _ _ _ us hl => match us, hl with | [_, _], _ => rfl
  have m_l_take := PySem.W.mg_of X G a_l_take
  have F_l_alike := fun_mk (st := s_l_alike) l_l_alike c_l_alike k_l_alike
  have b_l_alike := F_l_alike.binds (ps := ["_law_found", "_law_due"]) fun _ _ _ _ _ _ us hl => match us, hl with | [_, _], _ => rfl
  have m_l_alike := PySem.W.mg_of X G a_l_alike
  have F_l_cell := fun_mk (st := s_l_cell) l_l_cell c_l_cell k_l_cell
  have b_l_cell := F_l_cell.binds (ps := ["_law_box"]) fun _ _ _ _ _ _ us hl => match us, hl with | [_], _ => rfl
  have m_l_cell := PySem.W.mg_of X G a_l_cell
  have F_l_stretch := fun_mk (st := s_l_stretch) l_l_stretch c_l_stretch k_l_stretch
  have b_l_stretch := F_l_stretch.binds (ps := ["_law_one", "_law_other"]) fun _ _ _ _ _ _ us hl => match us, hl with | [_, _], _ => rfl
  have m_l_stretch := PySem.W.mg_of X G a_l_stretch
  have F_l_down := fun_mk (st := s_l_down) l_l_down c_l_down k_l_down
  have b_l_down := F_l_down.binds (ps := ["_law_cell_here", "_law_rows"]) fun _ _ _ _ _ _ us hl => match us, hl with | [_, _], _ => rfl
  have m_l_down := PySem.W.mg_of X G a_l_down
  have F_l_told := fun_mk (st := s_l_told) l_l_told c_l_told k_l_told
  have b_l_told := F_l_told.binds (ps := ["_law_work"]) fun _ _ _ _ _ _ us hl => match us, hl with | [_], _ => rfl
  have m_l_told := PySem.W.mg_of X G a_l_told
  have F_law := fun_mk (st := s_law) l_law c_law k_law
  have b_law := F_law.binds (ps := ["_law_script"]) fun _ _ _ _ _ _ us hl => match us, hl with | [_], _ => rfl
  have g_COLUMNS : GStr mg "COLUMNS" "abcdef" := ⟨_, PySem.W.mg_of X G a_COLUMNS⟩
  have g_ROWS : GStr mg "ROWS" "123456789" := ⟨_, PySem.W.mg_of X G a_ROWS⟩
  have e_TableError : ExcF K mg "TableError" X_TableError := ⟨PySem.W.mg_of X G a_TableError, k_TableError, x_TableError, b_TableError, t_TableError⟩
  have e_NoCell : ExcF K mg "NoCell" X_NoCell := ⟨PySem.W.mg_of X G a_NoCell, k_NoCell, x_NoCell, b_NoCell, t_NoCell⟩
  have e_BadFormula : ExcF K mg "BadFormula" X_BadFormula := ⟨PySem.W.mg_of X G a_BadFormula, k_BadFormula, x_BadFormula, b_BadFormula, t_BadFormula⟩
  have e_NoHand : ExcF K mg "NoHand" X_NoHand := ⟨PySem.W.mg_of X G a_NoHand, k_NoHand, x_NoHand, b_NoHand, t_NoHand⟩
  have e_NoPoint : ExcF K mg "NoPoint" X_NoPoint := ⟨PySem.W.mg_of X G a_NoPoint, k_NoPoint, x_NoPoint, b_NoPoint, t_NoPoint⟩
  have e_OffTable : ExcF K mg "OffTable" X_OffTable := ⟨PySem.W.mg_of X G a_OffTable, k_OffTable, x_OffTable, b_OffTable, t_OffTable⟩
  have e_BadNote : GRef mg "BadNote" X_BadNote := ⟨PySem.W.mg_of X G a_BadNote⟩
  have m_TableError : ExcM K X_TableError := ⟨hd_TableError, hs_TableError, hr_TableError⟩
  have m_NoCell : ExcM K X_NoCell := ⟨hd_NoCell, hs_NoCell, hr_NoCell⟩
  have m_BadFormula : ExcM K X_BadFormula := ⟨hd_BadFormula, hs_BadFormula, hr_BadFormula⟩
  have m_NoHand : ExcM K X_NoHand := ⟨hd_NoHand, hs_NoHand, hr_NoHand⟩
  have m_NoPoint : ExcM K X_NoPoint := ⟨hd_NoPoint, hs_NoPoint, hr_NoPoint⟩
  have m_OffTable : ExcM K X_OffTable := ⟨hd_OffTable, hs_OffTable, hr_OffTable⟩
  have c_NoCell : ExcC K X_NoCell := ⟨ca_NoCell, cb_NoCell, b_NoCell, hd_NoCell, cc_NoCell, ce_NoCell, cf_NoCell, cg_NoCell⟩
  have B : Bt mg := ⟨PySem.W.mg_none_of X G z_len, PySem.W.mg_none_of X G z_range, PySem.W.mg_none_of X G z_int, PySem.W.mg_none_of X G z_str, PySem.W.mg_none_of X G z_bool, PySem.W.mg_none_of X G z_list, PySem.W.mg_none_of X G z_tuple, PySem.W.mg_none_of X G z_dict, PySem.W.mg_none_of X G z_sorted, PySem.W.mg_none_of X G z_isinstance, PySem.W.mg_none_of X G z_min, PySem.W.mg_none_of X G z_max, PySem.W.mg_none_of X G z_ValueError, PySem.W.mg_none_of X G z_abs⟩
  refine ⟨PySem.W.fnOf "law" "law" (defArgs s_law) (defBody s_law) (defScope s_law) .none kV_law dc_law pm_law an_law (.ref C_law) ct_law, [(C_law, PT)], spLawT K PT, fun p m => ?_, fun p m => ?_, fun p m => ?_, fun s v => .of_eq rfl, fun H a ns hl _ hT hS => ⟨a, ns, rfl, hS, hl, hT _ (List.mem_singleton.mpr rfl), fun _ => rfl⟩, fun base _ _ hTB => ?_⟩
  · rw [List.mem_singleton.mp m]
    exact O _ _ _ _ _ _ _ _ l_law rfl rfl lc va
  · rw [List.mem_singleton.mp m]
    exact nP
  · rw [List.mem_singleton.mp m]
    exact ⟨_, vs_c, file_c, tf_c, flags_c, tg_c, inF_c, text_c, tt_c, X _ _ lc, rfl, rfl, va, vb, vc, vd, ve, vf, vn⟩

  have C_l_begun : Cal l.prog w K mg base 1 "_law_begun" ["_law_script"] (spBegun K) := ⟨_, _, ok_lbegun F_l_begun B, m_l_begun, F_l_begun.kp, b_l_begun⟩
  have C_l_take : Cal l.prog w K mg base 1 "_law_take" ["_law_box", "_law_many"] spTake := ⟨_, _, ok_ltake F_l_take B, m_l_take, F_l_take.kp, b_l_take⟩
  have C_l_cell : Cal l.prog w K mg base 2 "_law_cell" ["_law_box"] spCell := ⟨_, _, ok_lcell F_l_cell C_l_take, m_l_cell, F_l_cell.kp, b_l_cell⟩
  have C_l_stretch : Cal l.prog w K mg base 1 "_law_stretch" ["_law_one", "_law_other"] spStretchL := ⟨_, _, ok_lstretch F_l_stretch B, m_l_stretch, F_l_stretch.kp, b_l_stretch⟩
  have C_l_down : Cal l.prog w K mg base 1 "_law_down" ["_law_cell_here", "_law_rows"] spDown := ⟨_, _, ok_ldown F_l_down B, m_l_down, F_l_down.kp, b_l_down⟩
  have C_l_alike := cal_lalike (P := l.prog) (w := w) (base := base) F_l_alike B m_l_alike b_l_alike 3
  have C_is_cell : Cal l.prog w K mg base 1 "is_cell" ["text"] spIsCell := ⟨_, _, ok_is_cell F_is_cell B g_COLUMNS g_ROWS, m_is_cell, F_is_cell.kp, b_is_cell⟩
  have C_place : CalX l.prog w K mg base 2 "place" ["cell"] (spPlace X_NoCell) := ⟨_, _, ok_place F_place B g_COLUMNS g_ROWS e_NoCell C_is_cell, m_place, F_place.kp, b_place⟩
  have C_stretch : CalX l.prog w K mg base 3 "stretch" ["one", "other"] (spStretch X_NoCell) := ⟨_, _, ok_stretch F_stretch B g_COLUMNS g_ROWS C_place, m_stretch, F_stretch.kp, b_stretch⟩
  have C_shifted : CalX l.prog w K mg base 3 "shifted" ["cell", "rows"] (spShifted X_NoCell) := ⟨_, _, ok_shifted F_shifted B g_ROWS C_place, m_shifted, F_shifted.kp, b_shifted⟩
  exact ok_law l_law c_law (hTB _ (List.mem_singleton.mpr rfl)) B e_TableError e_NoCell e_BadFormula e_BadNote e_NoHand e_NoPoint e_OffTable c_NoCell (exm_sub e_TableError m_TableError u_NoCell_TableError) (kit_sub e_BadFormula m_BadFormula m_NoCell u_NoCell_BadFormula) (kit_sub2 t_BadNote hs_BadNote m_NoCell u_NoCell_BadNote)
    (kit_sub e_NoHand m_NoHand m_NoCell u_NoCell_NoHand) (kit_sub e_NoPoint m_NoPoint m_NoCell u_NoCell_NoPoint) (kit_sub e_OffTable m_OffTable m_NoCell u_NoCell_OffTable) (kit_sub e_NoCell m_NoCell m_NoCell hr_NoCell) (kit_val cv_NoCell)
    C_l_begun C_l_take C_l_cell C_l_alike C_l_stretch (C_l_down.imp fun _ _ _ _ => down2) C_stretch (C_shifted.imp fun _ _ _ _ => shifted2) F_l_told m_l_told b_l_told
theorem walk {l : PySem.W.OpenLaw} {q : Program} {loose : List Str} {XP : (Str → Option Value) → Heap → Prop} {YP : World → Heap → Prop} {d : DefRec} {K : Params → PySem.W.Frag} (hn : l.most = some 63) (hdf : d.params.defaults = []) (hrec : ((recsOf q).any fun e => e.name == d.name) = true)
    (hY : ∀ (w : World) (h : Heap), YP w h → (K w.params).In h)
    (F : ∀ (w : World) (mg : Str → Option Value) (fa : Addr) (h : Heap), YP w h → (K w.params).In h → h.Ns mainGlobals mg → mg d.name = some (.ref fa) → LamX.OwnTab (K w.params) fa h →
      LamX.LawAtS l w (K w.params) CX0 6 63 "_law_script" mg fa h) :
    PySem.W.WalkO q loose XP YP l.row.toRowW d [] (fun f vs => PySem.call f vs) :=
  LamX.walk_ofOwn (n := 63) (k := 6) (x := "_law_script") (CX := fun _ => CX0) hn (by decide) hdf ⟨rfl, by decide, by decide⟩ hrec hY F fun _ _ _ _ _ z => z
end U
open PySem PySem.W PyProof.Rows
theorem PySem.Challenge.cw_undotable_k01_cells_holds : PySem.Challenge.rw_undotable_k01_cells.Holds := by
  w_on; o_law; k_head; (case hw => w_witness2)
  k_fill
  refine U.walk (l := PySem.Challenge.rw_undotable_k01_cells) rfl rfl (by first | rfl | decide +kernel) (fun w h Y => PySem.W.km_in_of Y) ?F
  case F =>
    intro w mg fa h Y KX G hmg O
    refine' U.all_mk KX G hmg O ?a_is_cell ?l_is_cell ?c_is_cell ?k_is_cell ?a_place ?l_place ?c_place ?k_place ?a_stretch ?l_stretch ?c_stretch ?k_stretch ?a_shifted ?l_shifted ?c_shifted ?k_shifted ?a_l_begun ?l_l_begun ?c_l_begun ?k_l_begun ?a_l_take ?l_l_take ?c_l_take ?k_l_take ?a_l_alike ?l_l_alike ?c_l_alike ?k_l_alike ?a_l_cell ?l_l_cell ?c_l_cell ?k_l_cell ?a_l_stretch ?l_l_stretch ?c_l_stretch ?k_l_stretch ?a_l_down ?l_l_down ?c_l_down ?k_l_down ?a_l_told ?l_l_told ?c_l_told ?k_l_told ?a_law ?l_law ?c_law ?k_law ?a_COLUMNS ?a_ROWS ?a_TableError ?k_TableError ?x_TableError ?b_TableError ?t_TableError ?a_NoCell ?k_NoCell ?x_NoCell ?b_NoCell ?t_NoCell ?a_BadFormula ?k_BadFormula ?x_BadFormula ?b_BadFormula ?t_BadFormula ?a_NoHand ?k_NoHand ?x_NoHand ?b_NoHand ?t_NoHand ?a_NoPoint ?k_NoPoint ?x_NoPoint ?b_NoPoint ?t_NoPoint ?a_OffTable ?k_OffTable ?x_OffTable ?b_OffTable ?t_OffTable ?a_BadNote ?t_BadNote ?hs_BadNote ?hd_TableError ?hs_TableError ?hr_TableError ?hd_NoCell ?hs_NoCell ?hr_NoCell ?hd_BadFormula ?hs_BadFormula ?hr_BadFormula ?hd_NoHand ?hs_NoHand ?hr_NoHand ?hd_NoPoint ?hs_NoPoint ?hr_NoPoint ?hd_OffTable ?hs_OffTable ?hr_OffTable ?ca_NoCell ?cb_NoCell ?cc_NoCell ?ce_NoCell ?cf_NoCell ?cg_NoCell ?cv_NoCell ?u_NoCell_TableError ?u_NoCell_BadFormula ?u_NoCell_BadNote ?u_NoCell_NoHand ?u_NoCell_NoPoint ?u_NoCell_OffTable ?z_len ?z_range ?z_int ?z_str ?z_bool ?z_list ?z_tuple ?z_dict ?z_sorted ?z_isinstance ?z_min ?z_max ?z_ValueError ?z_abs ?lc ?va ?vb ?vc ?vd ?ve ?vf ?vn ?nP
    (case a_is_cell => k_is)
    (case l_is_cell => k_is)
    (case c_is_cell => k_is)
    (case k_is_cell => k_is)
    (case a_place => k_is)
    (case l_place => k_is)
    (case c_place => k_is)
    (case k_place => k_is)
    (case a_stretch => k_is)
    (case l_stretch => k_is)
    (case c_stretch => k_is)
    (case k_stretch => k_is)
    (case a_shifted => k_is)
    (case l_shifted => k_is)
    (case c_shifted => k_is)
    (case k_shifted => k_is)
    (case a_l_begun => k_is)
    (case l_l_begun => k_is)
    (case c_l_begun => k_is)
    (case k_l_begun => k_is)
    (case a_l_take => k_is)
    (case l_l_take => k_is)
    (case c_l_take => k_is)
    (case k_l_take => k_is)
    (case a_l_alike => k_is)
    (case l_l_alike => k_is)
    (case c_l_alike => k_is)
    (case k_l_alike => k_is)
    (case a_l_cell => k_is)
    (case l_l_cell => k_is)
    (case c_l_cell => k_is)
    (case k_l_cell => k_is)
    (case a_l_stretch => k_is)
    (case l_l_stretch => k_is)
    (case c_l_stretch => k_is)
    (case k_l_stretch => k_is)
    (case a_l_down => k_is)
    (case l_l_down => k_is)
    (case c_l_down => k_is)
    (case k_l_down => k_is)
    (case a_l_told => k_is)
    (case l_l_told => k_is)
    (case c_l_told => k_is)
    (case k_l_told => k_is)
    (case a_law => k_is)
    (case l_law => k_is)
    (case c_law => k_is)
    (case k_law => k_is)
    (case a_COLUMNS => k_is)
    (case a_ROWS => k_is)
    (case a_TableError => k_is)
    (case k_TableError => k_is)
    (case x_TableError => k_exc)
    (case b_TableError => k_is)
    (case t_TableError => k_is)
    (case a_NoCell => k_is)
    (case k_NoCell => k_is)
    (case x_NoCell => k_exc)
    (case b_NoCell => k_is)
    (case t_NoCell => k_is)
    (case a_BadFormula => k_is)
    (case k_BadFormula => k_is)
    (case x_BadFormula => k_exc)
    (case b_BadFormula => k_is)
    (case t_BadFormula => k_is)
    (case a_NoHand => k_is)
    (case k_NoHand => k_is)
    (case x_NoHand => k_exc)
    (case b_NoHand => k_is)
    (case t_NoHand => k_is)
    (case a_NoPoint => k_is)
    (case k_NoPoint => k_is)
    (case x_NoPoint => k_exc)
    (case b_NoPoint => k_is)
    (case t_NoPoint => k_is)
    (case a_OffTable => k_is)
    (case k_OffTable => k_is)
    (case x_OffTable => k_exc)
    (case b_OffTable => k_is)
    (case t_OffTable => k_is)
    (case a_BadNote => k_is)
    (case t_BadNote => k_is)
    (case hs_BadNote => k_is)
    (case hd_TableError => k_is)
    (case hs_TableError => k_is)
    (case hr_TableError => k_is)
    (case hd_NoCell => k_is)
    (case hs_NoCell => k_is)
    (case hr_NoCell => k_is)
    (case hd_BadFormula => k_is)
    (case hs_BadFormula => k_is)
    (case hr_BadFormula => k_is)
    (case hd_NoHand => k_is)
    (case hs_NoHand => k_is)
    (case hr_NoHand => k_is)
    (case hd_NoPoint => k_is)
    (case hs_NoPoint => k_is)
    (case hr_NoPoint => k_is)
    (case hd_OffTable => k_is)
    (case hs_OffTable => k_is)
    (case hr_OffTable => k_is)
    (case ca_NoCell => k_is)
    (case cb_NoCell => k_is)
    (case cc_NoCell => k_is)
    (case ce_NoCell => k_is)
    (case cf_NoCell => k_is)
    (case cg_NoCell => k_is)
    (case cv_NoCell => k_is)
    (case u_NoCell_TableError => k_is)
    (case u_NoCell_BadFormula => k_is)
    (case u_NoCell_BadNote => k_is)
    (case u_NoCell_NoHand => k_is)
    (case u_NoCell_NoPoint => k_is)
    (case u_NoCell_OffTable => k_is)
    (case z_len => k_is)
    (case z_range => k_is)
    (case z_int => k_is)
    (case z_str => k_is)
    (case z_bool => k_is)
    (case z_list => k_is)
    (case z_tuple => k_is)
    (case z_dict => k_is)
    (case z_sorted => k_is)
    (case z_isinstance => k_is)
    (case z_min => k_is)
    (case z_max => k_is)
    (case z_ValueError => k_is)
    (case z_abs => k_is)
    (case lc => k_is)
    (case va => (first | exact rfl | decide))
    (case vb => (first | exact rfl | decide))
    (case vc => (first | exact rfl | decide))
    (case vd => (first | exact rfl | decide))
    (case ve => (first | exact rfl | decide))
    (case vf => (first | exact rfl | decide))
    (case vn => decide)
    (case nP => (first | exact rfl | decide | with_unfolding_all rfl))
#print axioms PySem.Challenge.cw_undotable_k01_cells_holds

