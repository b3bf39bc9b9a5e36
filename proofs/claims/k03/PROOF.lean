import PyProof.Rows.All
import Wide.All
import OpenK.AllK
import Wide.FinOn
import HandS.ForMost
import HandS.ForExc
import HandS.IsInst
import HandS.StrMore
import HandS.RaiseMore
import HandS.Replace
import HandS.Flow
import HandS.Codes
import HandS.FStr
import HandS.DictComp
import HandS.Conv
import HandS.Star
import HandS.More
import KE.IntTextText
import HandS.ExcIs
import HandS.ExcOwn
import HandS.Dict
import PySem.Challenge.RW_undotable_k03_whole_contents_read
set_option Elab.async false
set_option maxRecDepth 100000
set_option maxHeartbeats 4000000
set_option linter.all false
set_option exponentiation.threshold 2000
namespace U
open PySem L2

/-! ### a def under its name -/
structure Cal (P : Program) (w : World) (K : PySem.W.Frag) (mg : Str → Option Value) (base : Heap) (k : Nat) (x : Str) (ps : List Str) (sp : Sp) : Prop where
  ex : ∃ (f : Addr) (fd : FuncData), FnOk P w K mg base CX0 k f fd ps sp ∧ mg x = some (.ref f) ∧ PySem.W.keepIn K (.ref f) = true ∧ Binds K fd ps []
theorem Cal.mono {P : Program} {w : World} {K : PySem.W.Frag} {mg : Str → Option Value} {base : Heap} {j k : Nat} {x : Str} {ps : List Str} {sp : Sp} (c : Cal P w K mg base j x ps sp) (h : j ≤ k) : Cal P w K mg base k x ps sp := by
  obtain ⟨f, fd, F, a, b, d⟩ := c.ex
  exact ⟨f, fd, F.mono h, a, b, d⟩
theorem Cal.imp {P : Program} {w : World} {K : PySem.W.Frag} {mg : Str → Option Value} {base : Heap} {k : Nat} {x : Str} {ps : List Str} {sp sp' : Sp} (c : Cal P w K mg base k x ps sp) (h : ∀ vs H Q E, sp' vs H Q E → sp vs H Q E) : Cal P w K mg base k x ps sp' := by
  obtain ⟨f, fd, F, a, b, d⟩ := c.ex
  exact ⟨f, fd, F.imp h, a, b, d⟩
def tCal (sp : Sp) (E : XK) (t : TA) : TE := fun σ H Q => t σ H fun vs H1 => sp vs H1 Q E
theorem tCal_eq (sp : Sp) (E : XK) (t : TA) : tCall sp [] E t = tCal sp E t := by
  funext σ H Q
  unfold tCall tCal
  have e : (fun (vs : List V) (H1 : Hp) => sp (vs ++ []) H1 Q E) = fun vs H1 => sp vs H1 Q E := by
    funext vs H1
    rw [List.append_nil]
  rw [e]
section
variable {X : Cx} {k : Nat} {x : Str} {ps : List Str} {sp : Sp} {p pos : Pos} {e : Expr} {es : List Expr} {t : TA}
theorem pc_c (c : Cal X.prog X.w X.K X.mg X.base k x ps sp) (hr : Room k X.A) (hg : Gl X x) (ha : PA X (e :: es) t)
    (hdb : (x == ("__debug__" : Str)) = false := by decide) (he : starEach (e :: es) X.env = (false, eval e X.env) :: starEach es X.env := by rfl) (hpl : (backTo pos (starEach es X.env)).any (·.1) = false := by rfl) :
    PE X (.Call (.Name x p) (e :: es) [] pos) (tCal sp E0 t) := by
  obtain ⟨f, fd, F, hm, kp, b⟩ := c.ex
  rw [← tCal_eq]
  exact pe_call F hr hg hm kp b .nil pass0 ha hdb he hpl
end
/-- what the builtins' names hold: nothing of the module's own -/
structure Bt (mg : Str → Option Value) : Prop where
  len : mg "len" = none
  range : mg "range" = none
  int : mg "int" = none
  str : mg "str" = none
  bool : mg "bool" = none
  list : mg "list" = none
  tuple : mg "tuple" = none
  dict : mg "dict" = none
  sorted : mg "sorted" = none
  isinstance : mg "isinstance" = none
  min : mg "min" = none
  max : mg "max" = none
  ValueError : mg "ValueError" = none
  abs : mg "abs" = none
theorem nomarkIn (b : Expr) {op : CmpOp} (h : behindInMarks op b = false := by rfl) : behindInMarks op b = false := h

theorem cmulR {i j : Int} (h1 : -(2 ^ 64) < j) (h2 : j < 2 ^ 64) : CMul i j := .inr ⟨h1, h2⟩
theorem cmulL {i j : Int} (h1 : -(2 ^ 64) < i) (h2 : i < 2 ^ 64) : CMul i j := .inl ⟨h1, h2⟩
theorem at0 {α : Type} {x : α} {r : List α} : atI (x :: r) 0 = some x := by
  have h : atI (x :: r) ((0 : Nat) : Int) = some x := atI_nat rfl
  exact h
theorem ix0 {x : V} {r : List V} : ixN (x :: r).length 0 = some 0 := by
  unfold ixN
  rw [if_pos (by decide), if_pos (by simp only [List.length_cons]; omega)]
  rfl
theorem sq0 {x : V} {r : List V} : seqIndex? 0 (x :: r).length = some 0 := by
  simp [seqIndex?]
theorem yes_ {σ : L2.St} {H : Hp} {A B : Hp → Prop} (h : A H) : tYes σ H (fun b H3 => if b = true then A H3 else B H3) := by
  show if true = true then A H else B H
  rw [if_pos rfl]
  exact h
/-- x or y, as a test: both ways meet -/
theorem or_join {A B Y : Prop} {a b : Bool} (hY : (if b = true then A else B) → Y) (h1 : (a || b) = true → A) (h2 : (a || b) = false → B) : if a = true then (if true = true then A else B) else Y := by
  cases a with
  | true => exact iteT (B := Y) (by rw [if_pos rfl]; exact h1 rfl)
  | false =>
    refine iteF (hY ?_)
    cases b with
    | true => exact iteT (h1 rfl)
    | false => exact iteF (h2 rfl)
theorem and_join {A B Y : Prop} {a b : Bool} (hY : (if b = true then A else B) → Y) (h1 : (a && b) = true → A) (h2 : (a && b) = false → B) : if a = true then Y else (if false = true then A else B) := by
  cases a with
  | false =>
    rw [if_neg Bool.false_ne_true, if_neg Bool.false_ne_true]
    exact h2 rfl
  | true =>
    rw [if_pos rfl]
    refine hY ?_
    cases b with
    | true => exact iteT (h1 rfl)
    | false => exact iteF (h2 rfl)
theorem dec_i {i j : Int} : decide (V.int i = V.int j) = decide (i = j) := by
  by_cases h : i = j
  · subst h; simp
  · rw [decide_eq_false h, decide_eq_false fun e => h (V.int.inj e)]
theorem dec_s {i j : Str} : decide (V.str i = V.str j) = decide (i = j) := by
  by_cases h : i = j
  · subst h; simp
  · rw [decide_eq_false h, decide_eq_false fun e => h (V.str.inj e)]
/-! ### heaps -/
theorem same_new {H : Hp} {p : Addr} (h : H p = none) (o : HO) : Same H (upd H p o) := fun b u q => by rw [upd_ne (ne_of_none q h)]; exact q
/-- all but what stands at b and l is as it was -/
def Keep (b l : Addr) (H H' : Hp) : Prop := ∀ c o, H c = some o → c ≠ b → c ≠ l → H' c = some o
theorem Keep.refl (b l : Addr) (H : Hp) : Keep b l H H := fun _ _ h _ _ => h
theorem Keep.trans {b l : Addr} {H H1 H2 : Hp} (x : Keep b l H H1) (y : Keep b l H1 H2) : Keep b l H H2 := fun c o h n m => y c o (x c o h n m) n m
theorem Keep.of {b l : Addr} {H H' : Hp} (s : Same H H') : Keep b l H H' := fun c o h _ _ => s c o h
theorem Keep.free {b l : Addr} {H H' : Hp} (x : Keep b l H H') {c : Addr} (hb : c ≠ b) (hl : c ≠ l) (h : H' c = none) : H c = none := by
  cases q : H c with
  | none => rfl
  | some o =>
    rw [x c o q hb hl] at h
    cases h
/-! ### the box of the script's numbers -/
structure Box (H : Hp) (b l : Addr) : Prop where
  ex : ∃ (s : Int) (ns : List Int), H b = some (.lst [.ref l, .int s]) ∧ H l = some (.lst (ns.map V.int)) ∧ 0 ≤ s ∧ s < 2147483647 ∧ ns.length ≤ 63
theorem Box.ne {H : Hp} {b l : Addr} (B : Box H b l) : b ≠ l := by
  obtain ⟨s, ns, h1, h2, _⟩ := B.ex
  refine ne_of h1 h2 fun e => ?_
  cases ns with
  | nil => cases e
  | cons a r => cases e
theorem Box.at_b {H : Hp} {b l : Addr} (B : Box H b l) : ∃ xs, H b = some (.lst xs) := by
  obtain ⟨s, ns, h1, h2, _⟩ := B.ex
  exact ⟨_, h1⟩
theorem Box.at_l {H : Hp} {b l : Addr} (B : Box H b l) : ∃ xs, H l = some (.lst xs) := by
  obtain ⟨s, ns, h1, h2, _⟩ := B.ex
  exact ⟨_, h2⟩
theorem Box.keep {H H' : Hp} {b l : Addr} (B : Box H b l) (s : Same H H') : Box H' b l := by
  obtain ⟨z, ns, h1, h2, h3⟩ := B.ex
  exact ⟨z, ns, s _ _ h1, s _ _ h2, h3⟩
/-- what is no list stands beside the box -/
theorem Box.off {H : Hp} {b l c : Addr} {o : HO} (B : Box H b l) (h : H c = some o) (n : ∀ xs, o ≠ .lst xs) : c ≠ b ∧ c ≠ l := by
  obtain ⟨xs, h1⟩ := B.at_b
  obtain ⟨ys, h2⟩ := B.at_l
  exact ⟨ne_of h h1 (n xs), ne_of h h2 (n ys)⟩
theorem Box.new {H : Hp} {b l c : Addr} (B : Box H b l) (h : H c = none) : c ≠ b ∧ c ≠ l := by
  obtain ⟨xs, h1⟩ := B.at_b
  obtain ⟨ys, h2⟩ := B.at_l
  exact ⟨(ne_of_none h1 h).symm, (ne_of_none h2 h).symm⟩

/-! ### data -/
theorem dp_ints (K : PySem.W.Frag) (H : Hp) : ∀ ns : List Int, DpAll K H (ns.map V.int) (ns.map PyData.int)
  | [] => .nil
  | n :: r => .cons (.int n) (dp_ints K H r)
theorem lay_ints : ∀ ns : List Int, PyData.canLayAll0 (ns.map PyData.int) = true
  | [] => by simp [PyData.canLayAll0]
  | n :: r => by
    have := lay_ints r
    simp [PyData.canLayAll0, PyData.canLay0, this]
theorem depth_ints : ∀ ns : List Int, PyData.depthAll (ns.map PyData.int) ≤ 1
  | [] => by simp [PyData.depthAll]
  | n :: r => by
    have := depth_ints r
    simp [PyData.depthAll, PyData.depth]
    omega
theorem shaped_ints (ns : List Int) : SeqAt.shaped (.list (ns.map PyData.int)) = true := by
  unfold SeqAt.shaped
  have h := lay_ints ns
  have d := depth_ints ns
  simp [PyData.canLay0, h, PyData.depth]
  omega
theorem shaped_nil : SeqAt.shaped (.list []) = true := by decide
theorem eqv_nil (ds : List PyData) : PyData.eqv (.list ds) (.list []) = ds.isEmpty := by
  cases ds <;> simp [PyData.eqv, PyData.eqvAll]

theorem sqT_ty {K : PySem.W.Frag} {H : Hp} {a : Addr} {xs : List V} (h : SqT K H a xs) : TyX K H (.ref a) (.type "tuple") := by
  rcases h with (h | ⟨o, h⟩) | ⟨o, its, n, h1, h2, _⟩
  · exact .base (.tup h)
  · exact .fTuple h
  · exact .kTuple h1 h2
theorem sqL_ty {K : PySem.W.Frag} {H : Hp} {a : Addr} {xs : List V} (h : SqL K H a xs) : TyX K H (.ref a) (.type "list") := by
  rcases h with (h | ⟨o, h⟩) | ⟨o, its, n, h1, h2, _⟩
  · exact .base (.lst h)
  · exact .base (.frz h)
  · exact .kList h1 h2
def tyName : PyData → String
  | .none => "NoneType"
  | .bool _ => "bool"
  | .int _ => "int"
  | .str _ => "str"
  | .list _ => "list"
  | .tuple _ => "tuple"
  | .dict _ => "dict"
theorem dp_ty {K : PySem.W.Frag} {H : Hp} {x : V} {d : PyData} (h : Dp K H x d) : TyX K H x (.type (tyName d)) := by
  cases h with
  | non => exact .base .non
  | bl b => exact .base (.bl b)
  | int i => exact .base (.int i)
  | str z => exact .base (.str z)
  | lst h _ => exact sqL_ty h
  | tup h _ => exact sqT_ty h
theorem k_NoneType_bool : kitB "NoneType" "bool" = some false := by decide +kernel
theorem k_NoneType_int : kitB "NoneType" "int" = some false := by decide +kernel
theorem k_NoneType_str : kitB "NoneType" "str" = some false := by decide +kernel
theorem k_NoneType_list : kitB "NoneType" "list" = some false := by decide +kernel
theorem k_NoneType_tuple : kitB "NoneType" "tuple" = some false := by decide +kernel
theorem k_NoneType_dict : kitB "NoneType" "dict" = some false := by decide +kernel
theorem k_bool_bool : kitB "bool" "bool" = some true := by decide +kernel
theorem k_bool_int : kitB "bool" "int" = some true := by decide +kernel
theorem k_bool_str : kitB "bool" "str" = some false := by decide +kernel
theorem k_bool_list : kitB "bool" "list" = some false := by decide +kernel
theorem k_bool_tuple : kitB "bool" "tuple" = some false := by decide +kernel
theorem k_bool_dict : kitB "bool" "dict" = some false := by decide +kernel
theorem k_int_bool : kitB "int" "bool" = some false := by decide +kernel
theorem k_int_int : kitB "int" "int" = some true := by decide +kernel
theorem k_int_str : kitB "int" "str" = some false := by decide +kernel
theorem k_int_list : kitB "int" "list" = some false := by decide +kernel
theorem k_int_tuple : kitB "int" "tuple" = some false := by decide +kernel
theorem k_int_dict : kitB "int" "dict" = some false := by decide +kernel
theorem k_str_bool : kitB "str" "bool" = some false := by decide +kernel
theorem k_str_int : kitB "str" "int" = some false := by decide +kernel
theorem k_str_str : kitB "str" "str" = some true := by decide +kernel
theorem k_str_list : kitB "str" "list" = some false := by decide +kernel
theorem k_str_tuple : kitB "str" "tuple" = some false := by decide +kernel
theorem k_str_dict : kitB "str" "dict" = some false := by decide +kernel
theorem k_list_bool : kitB "list" "bool" = some false := by decide +kernel
theorem k_list_int : kitB "list" "int" = some false := by decide +kernel
theorem k_list_str : kitB "list" "str" = some false := by decide +kernel
theorem k_list_list : kitB "list" "list" = some true := by decide +kernel
theorem k_list_tuple : kitB "list" "tuple" = some false := by decide +kernel
theorem k_list_dict : kitB "list" "dict" = some false := by decide +kernel
theorem k_tuple_bool : kitB "tuple" "bool" = some false := by decide +kernel
theorem k_tuple_int : kitB "tuple" "int" = some false := by decide +kernel
theorem k_tuple_str : kitB "tuple" "str" = some false := by decide +kernel
theorem k_tuple_list : kitB "tuple" "list" = some false := by decide +kernel
theorem k_tuple_tuple : kitB "tuple" "tuple" = some true := by decide +kernel
theorem k_tuple_dict : kitB "tuple" "dict" = some false := by decide +kernel
theorem k_dict_bool : kitB "dict" "bool" = some false := by decide +kernel
theorem k_dict_int : kitB "dict" "int" = some false := by decide +kernel
theorem k_dict_str : kitB "dict" "str" = some false := by decide +kernel
theorem k_dict_list : kitB "dict" "list" = some false := by decide +kernel
theorem k_dict_tuple : kitB "dict" "tuple" = some false := by decide +kernel
theorem k_dict_dict : kitB "dict" "dict" = some true := by decide +kernel
/-- isinstance of data -/
theorem isi_dp {K : PySem.W.Frag} {H : Hp} {x : V} {d : PyData} {Q : VK} (h : Dp K H x d) (T : String) {b : Bool} (hb : kitB (tyName d) T = some b) (q : Q (.bl b) H) : rIsi K [x, .ty T] H Q :=
  ⟨x, .ty T, _, _, b, rfl, .ty T, dp_ty h, kit_ty hb, q⟩
theorem dpAll_get {K : PySem.W.Frag} {H : Hp} : ∀ {xs : List V} {ds : List PyData}, DpAll K H xs ds → xs.length = ds.length ∧ ∀ (i : Nat) (x : V), xs[i]? = some x → ∃ d, ds[i]? = some d ∧ Dp K H x d
  | _, _, .nil => ⟨rfl, fun i x h => by simp at h⟩
  | _, _, .cons h t => by
    obtain ⟨e, g⟩ := dpAll_get t
    refine ⟨by simp [e], fun i x hx => ?_⟩
    cases i with
    | zero =>
      simp at hx
      subst hx
      exact ⟨_, rfl, h⟩
    | succ i =>
      obtain ⟨d, h1, h2⟩ := g i x (by simpa using hx)
      exact ⟨d, by simpa using h1, h2⟩
theorem dpAll_at {K : PySem.W.Frag} {H : Hp} {xs : List V} {ds : List PyData} (h : DpAll K H xs ds) {i : Nat} (hi : i < ds.length) : ∃ x, atI xs (i : Int) = some x ∧ Dp K H x ds[i] := by
  obtain ⟨e, g⟩ := dpAll_get h
  have hx : xs[i]? = some (xs[i]'(by omega)) := List.getElem?_eq_getElem _
  obtain ⟨d, h1, h2⟩ := g i _ hx
  rw [List.getElem?_eq_getElem hi] at h1
  cases h1
  exact ⟨_, atI_nat hx, h2⟩
theorem depth_get : ∀ {ds : List PyData} {i : Nat} (h : i < ds.length), PyData.depth ds[i] ≤ PyData.depthAll ds
  | [], _, h => by simp at h
  | d :: r, 0, _ => by simp [PyData.depthAll]; omega
  | d :: r, i + 1, h => by
    have := depth_get (ds := r) (i := i) (by simpa using h)
    simp [PyData.depthAll]
    omega
mutual
def szOk : PyData → Bool
  | .list xs => decide (xs.length ≤ 1000000) && szAll xs
  | .tuple xs => decide (xs.length ≤ 1000000) && szAll xs
  | _ => true
def szAll : List PyData → Bool
  | [] => true
  | x :: xs => szOk x && szAll xs
end
theorem szAll_get : ∀ {ds : List PyData} {i : Nat} (h : i < ds.length), szAll ds = true → szOk ds[i] = true
  | [], _, h, _ => by simp at h
  | d :: r, 0, _, q => by
    simp only [szAll, Bool.and_eq_true] at q
    exact q.1
  | d :: r, i + 1, h, q => by
    simp only [szAll, Bool.and_eq_true] at q
    have := szAll_get (ds := r) (i := i) (by simpa using h) q.2
    simpa using this
def spAlike (K : PySem.W.Frag) (n : Nat) : Sp := fun vs H Q _ => ∃ (x y : V) (d : PyData), vs = [x, y] ∧ Dp K H x d ∧ Dp K H y d ∧ PyData.depth d < n ∧ szOk d = true ∧ Q (.bl true) H
/-! ### the law's helpers: promises -/
def spBegun (K : PySem.W.Frag) : Sp := fun vs H Q _ => ∃ (a : Addr) (ns : List Int), vs = [.ref a] ∧ SqL K H a (ns.map V.int) ∧ ns.length ≤ 63 ∧
  ∀ (b l : Addr) (H' : Hp), Same H H' → H b = none → H l = none → Box H' b l → Q (.ref b) H'
def spTake : Sp := fun vs H Q _ => ∃ (b l : Addr) (m : Int), vs = [.ref b, .int m] ∧ Box H b l ∧ 0 < m ∧ m < 1073741824 ∧
  ∀ (r : Int) (H' : Hp), 0 ≤ r → r < m → Box H' b l → Keep b l H H' → Q (.int r) H'
/-! ### cells -/
structure Cel where
  c : Nat
  r : Nat
  hc : c < 6
  hr : r < 9
  deriving DecidableEq
def Cel.l (x : Cel) : List Nat := [97 + x.c, 49 + x.r]
def Cel.s (x : Cel) : Str := SX.S x.l
theorem Cel.len (x : Cel) : x.s.length = 2 := rfl
theorem six {p : Int → Prop} {i : Int} (h0 : 0 ≤ i) (h1 : i < 6) (h : ∀ k : Nat, k < 6 → p k) : p i := by
  have e : i = (i.toNat : Int) := by omega
  rw [e]
  exact h _ (by omega)
theorem at_abc {i : Int} (h0 : 0 ≤ i) (h1 : i < 6) : atI ("abcdef" : Str).cps.toList i = some (97 + i.toNat) := by
  have e : ("abcdef" : Str).cps.toList = [97, 98, 99, 100, 101, 102] := by decide +kernel
  rw [e]
  have : i = 0 ∨ i = 1 ∨ i = 2 ∨ i = 3 ∨ i = 4 ∨ i = 5 := by omega
  rcases this with h | h | h | h | h | h <;> subst h <;> rfl
theorem at_abc3 {i : Int} (h0 : 0 ≤ i) (h1 : i < 3) : atI ("abc" : Str).cps.toList i = some (97 + i.toNat) := by
  have e : ("abc" : Str).cps.toList = [97, 98, 99] := by decide +kernel
  rw [e]
  have : i = 0 ∨ i = 1 ∨ i = 2 := by omega
  rcases this with h | h | h <;> subst h <;> rfl
theorem at_123 {i : Int} (h0 : 0 ≤ i) (h1 : i < 9) : atI ("123456789" : Str).cps.toList i = some (49 + i.toNat) := by
  have e : ("123456789" : Str).cps.toList = [49, 50, 51, 52, 53, 54, 55, 56, 57] := by decide +kernel
  rw [e]
  have : i = 0 ∨ i = 1 ∨ i = 2 ∨ i = 3 ∨ i = 4 ∨ i = 5 ∨ i = 6 ∨ i = 7 ∨ i = 8 := by omega
  rcases this with h | h | h | h | h | h | h | h | h <;> subst h <;> rfl
theorem at_1233 {i : Int} (h0 : 0 ≤ i) (h1 : i < 3) : atI ("123" : Str).cps.toList i = some (49 + i.toNat) := by
  have e : ("123" : Str).cps.toList = [49, 50, 51] := by decide +kernel
  rw [e]
  have : i = 0 ∨ i = 1 ∨ i = 2 := by omega
  rcases this with h | h | h <;> subst h <;> rfl
theorem Cel.at0 (x : Cel) : atI x.s.cps.toList 0 = some (97 + x.c) := rfl
theorem Cel.at1 (x : Cel) : atI x.s.cps.toList 1 = some (49 + x.r) := rfl
theorem find_abc : ∀ {c : Nat}, c < 6 → Txt.find "abcdef" (SX.S [97 + c]) = (c : Int) := by decide +kernel
theorem int_one : ∀ {r : Nat}, r < 9 → PySem.intText? (SX.S [49 + r]) = some ((r : Int) + 1) := by decide +kernel
theorem str_one : ∀ {r : Nat}, r < 9 → Str.ofString (toString ((r : Int) + 1)) = SX.S [49 + r] := by decide +kernel
theorem small {n : Nat} (h : n ≤ 1000) : n ≤ sizeLine := Nat.le_of_lt (small1000 h)
theorem log_small {i : Int} (h0 : 0 ≤ i) (h1 : i ≤ 1000) : i.natAbs.log2 < 1920 := by
  have := Nat.log2_le_self i.natAbs
  omega
/-- two ints sorted -/
theorem sort2 {x y : Int} {ns : List Int} (h : ns.Perm [x, y]) (p : ns.Pairwise (· ≤ ·)) : ns = [min x y, max x y] := by
  have l := h.length_eq
  match ns, l with
  | [a, b], _ =>
    have ab : a ≤ b := by simpa using p
    have m : a = x ∧ b = y ∨ a = y ∧ b = x := by
      have ha : a ∈ [x, y] := h.mem_iff.mp (by simp)
      have hb : b ∈ [x, y] := h.mem_iff.mp (by simp)
      have hx : x ∈ [a, b] := h.mem_iff.mpr (by simp)
      have hy : y ∈ [a, b] := h.mem_iff.mpr (by simp)
      simp at ha hb hx hy
      omega
    rcases m with ⟨rfl, rfl⟩ | ⟨rfl, rfl⟩
    · rw [Int.min_eq_left ab, Int.max_eq_right ab]
    · rw [Int.min_eq_right ab, Int.max_eq_left ab]
/-- the stretch of two cells, row by row -/
def rowL (a n r : Nat) : List Str := (List.range' a n).map fun k => SX.S [97 + k, 49 + r]
def rowsL (a n b m : Nat) : List Str := (List.range' b m).flatMap fun r => rowL a n r
def strL (x y : Cel) : List Str := rowsL (min x.c y.c) (max x.c y.c + 1 - min x.c y.c) (min x.r y.r) (max x.r y.r + 1 - min x.r y.r)
theorem rowL_succ (a n r : Nat) : rowL a (n + 1) r = rowL a n r ++ [SX.S [97 + (a + n), 49 + r]] := by
  unfold rowL
  rw [List.range'_concat, List.map_append]
  simp
theorem rowsL_succ (a n b m : Nat) : rowsL a n b (m + 1) = rowsL a n b m ++ rowL a n (b + m) := by
  unfold rowsL
  rw [List.range'_concat, List.flatMap_append]
  simp
theorem rowL_len (a n r : Nat) : (rowL a n r).length = n := by
  unfold rowL
  rw [List.length_map, List.length_range']
theorem rowsL_len (a n b : Nat) : ∀ m, (rowsL a n b m).length = n * m
  | 0 => rfl
  | m + 1 => by rw [rowsL_succ, List.length_append, rowsL_len a n b m, rowL_len, Nat.mul_succ]
/-- a cell's text -/
def spCell : Sp := fun vs H Q _ => ∃ (b l : Addr), vs = [.ref b] ∧ Box H b l ∧ ∀ (c : Cel) (H' : Hp), Box H' b l → Keep b l H H' → Q (.str c.s) H'
def spStretchL : Sp := fun vs H Q _ => ∃ (x y : Cel), vs = [.str x.s, .str y.s] ∧ ∀ (p : Addr) (H' : Hp), H p = none → Same H H' → H' p = some (.lst ((strL x y).map V.str)) → Q (.ref p) H'
/-! ### contents -/
inductive W3 where
  | add | sub | mul
  deriving DecidableEq
def W3.s : W3 → Str
  | .add => "add"
  | .sub => "sub"
  | .mul => "mul"
inductive Part where
  | num (n : Int) | cel (c : Cel) | sum (c d : Cel) | op (w : W3) (p q : Part) | pick (p q r t : Part)
  deriving DecidableEq
/-- all numbers have at most six figures -/
def Part.good : Part → Prop
  | .num n => -1000000 < n ∧ n < 1000000
  | .cel _ => True
  | .sum _ _ => True
  | .op _ p q => p.good ∧ q.good
  | .pick p q r t => p.good ∧ q.good ∧ r.good ∧ t.good
def Part.hgt : Part → Nat
  | .num _ => 1
  | .cel _ => 1
  | .sum _ _ => 1
  | .op _ p q => max p.hgt q.hgt + 1
  | .pick p q r t => max (max p.hgt q.hgt) (max r.hgt t.hgt) + 1
theorem Part.hgt_pos (p : Part) : 1 ≤ p.hgt := by cases p <;> simp [Part.hgt]
/-- a part as it lies: tuples -/
def PA (K : PySem.W.Frag) (H : Hp) : Part → V → Prop
  | .num n, v => ∃ a, v = .ref a ∧ SqT K H a [.str "num", .int n]
  | .cel c, v => ∃ a, v = .ref a ∧ SqT K H a [.str "cell", .str c.s]
  | .sum c d, v => ∃ a, v = .ref a ∧ SqT K H a [.str "sum", .str c.s, .str d.s]
  | .op w p q, v => ∃ a x y, v = .ref a ∧ SqT K H a [.str w.s, x, y] ∧ PA K H p x ∧ PA K H q y
  | .pick p q r t, v => ∃ a x y z u, v = .ref a ∧ SqT K H a [.str "pick", x, y, z, u] ∧ PA K H p x ∧ PA K H q y ∧ PA K H r z ∧ PA K H t u
/-- tuples stay -/
def Tk (K : PySem.W.Frag) (H H' : Hp) : Prop := ∀ a xs, SqT K H a xs → SqT K H' a xs
theorem Tk.refl (K : PySem.W.Frag) (H : Hp) : Tk K H H := fun _ _ h => h
theorem Tk.trans {K : PySem.W.Frag} {H H1 H2 : Hp} (x : Tk K H H1) (y : Tk K H1 H2) : Tk K H H2 := fun a xs h => y a xs (x a xs h)
theorem Tk.same {K : PySem.W.Frag} {H H' : Hp} (s : Same H H') : Tk K H H' := fun a xs h => by
  rcases h with (h | ⟨o, h⟩) | h
  · exact .inl (.inl (s _ _ h))
  · exact .inl (.inr ⟨o, s _ _ h⟩)
  · exact .inr h
theorem Tk.keep {K : PySem.W.Frag} {H H' : Hp} {b l : Addr} (B : Box H b l) (k : Keep b l H H') : Tk K H H' := fun a xs h => by
  rcases h with (h | ⟨o, h⟩) | h
  · have q := B.off h fun _ e => by cases e
    exact .inl (.inl (k _ _ h q.1 q.2))
  · have q := B.off h fun _ e => by cases e
    exact .inl (.inr ⟨o, k _ _ h q.1 q.2⟩)
  · exact .inr h
theorem PA.tk {K : PySem.W.Frag} {H H' : Hp} (t : Tk K H H') : ∀ {p : Part} {v : V}, PA K H p v → PA K H' p v
  | .num n, v, ⟨a, e, h⟩ => ⟨a, e, t _ _ h⟩
  | .cel c, v, ⟨a, e, h⟩ => ⟨a, e, t _ _ h⟩
  | .sum c d, v, ⟨a, e, h⟩ => ⟨a, e, t _ _ h⟩
  | .op w p q, v, ⟨a, x, y, e, h, h1, h2⟩ => ⟨a, x, y, e, t _ _ h, PA.tk t h1, PA.tk t h2⟩
  | .pick p q r s, v, ⟨a, x, y, z, u, e, h, h1, h2, h3, h4⟩ => ⟨a, x, y, z, u, e, t _ _ h, PA.tk t h1, PA.tk t h2, PA.tk t h3, PA.tk t h4⟩
/-- a content: nothing, or a part -/
def CA (K : PySem.W.Frag) (H : Hp) : Option Part → V → Prop
  | none, v => v = .non
  | some p, v => PA K H p v
theorem CA.tk {K : PySem.W.Frag} {H H' : Hp} (t : Tk K H H') : ∀ {p : Option Part} {v : V}, CA K H p v → CA K H' p v
  | none, _, h => h
  | some _, _, h => PA.tk t h
def spPart (K : PySem.W.Frag) (n : Nat) : Sp := fun vs H Q _ => ∃ (b l : Addr) (d : Int), vs = [.ref b, .int d] ∧ Box H b l ∧ 0 ≤ d ∧ d.toNat < n ∧
  ∀ (p : Part) (v : V) (H' : Hp), p.good → p.hgt ≤ d.toNat + 1 → PA K H' p v → Box H' b l → Keep b l H H' → Q v H'
/-- a content that a text may stand for: no number within a formula alone -/
def goodC : Option Part → Nat → Prop
  | none, _ => True
  | some p, n => p.good ∧ p.hgt ≤ n
def spContent (K : PySem.W.Frag) (n : Nat) : Sp := fun vs H Q _ => ∃ (b l : Addr) (d : Int), vs = [.ref b, .int d] ∧ Box H b l ∧ 0 ≤ d ∧ d.toNat < n ∧
  ∀ (p : Option Part) (v : V) (H' : Hp), goodC p (d.toNat + 1) → CA K H' p v → Box H' b l → Keep b l H H' → Q v H'
/-! ### defs that may raise -/
structure CalX (P : Program) (w : World) (K : PySem.W.Frag) (mg : Str → Option Value) (base : Heap) (k : Nat) (x : Str) (ps : List Str) (sp : Sp) : Prop where
  ex : ∃ (f : Addr) (fd : FuncData), FnOk P w K mg base (L2.CX P w) k f fd ps sp ∧ mg x = some (.ref f) ∧ PySem.W.keepIn K (.ref f) = true ∧ Binds K fd ps []
theorem CalX.mono {P : Program} {w : World} {K : PySem.W.Frag} {mg : Str → Option Value} {base : Heap} {j k : Nat} {x : Str} {ps : List Str} {sp : Sp} (c : CalX P w K mg base j x ps sp) (h : j ≤ k) : CalX P w K mg base k x ps sp := by
  obtain ⟨f, fd, F, a, b, d⟩ := c.ex
  exact ⟨f, fd, F.mono h, a, b, d⟩
section
variable {X : Cx} {k : Nat} {x : Str} {ps : List Str} {sp : Sp} {p pos : Pos} {e : Expr} {es : List Expr} {t : TA} {E : XK}
theorem pc_x (c : CalX X.prog X.w X.K X.mg X.base k x ps sp) (hr : Room k X.A) (hg : Gl X x) (hx : Passes (L2.CX X.prog X.w) X E) (ha : L2.PA X (e :: es) t)
    (hdb : (x == ("__debug__" : Str)) = false := by decide) (he : starEach (e :: es) X.env = (false, eval e X.env) :: starEach es X.env := by rfl) (hpl : (backTo pos (starEach es X.env)).any (·.1) = false := by rfl) :
    PE X (.Call (.Name x p) (e :: es) [] pos) (tCal sp E t) := by
  obtain ⟨f, fd, F, hm, kp, b⟩ := c.ex
  rw [← tCal_eq]
  exact pe_call F hr hg hm kp b .nil hx ha hdb he hpl
end
/-- a constant of the module that is a text, an int -/
def GStr (mg : Str → Option Value) (x z : Str) : Prop := ∃ t, mg x = some (.str z t)
def GInt (mg : Str → Option Value) (x : Str) (i : Int) : Prop := ∃ t, mg x = some (.int i t)
theorem pe_gs {X : Cx} {x z : Str} {pos : Pos} (h : GStr X.mg x z) (hg : Gl X x) (hd : (x == ("__debug__" : Str)) = false := by decide) : PE X (.Name x pos) (tC (.str z)) := by
  obtain ⟨t, e⟩ := h
  exact pe_glob hg e ⟨t, rfl⟩ hd
theorem pe_gi {X : Cx} {x : Str} {i : Int} {pos : Pos} (h : GInt X.mg x i) (hg : Gl X x) (hd : (x == ("__debug__" : Str)) = false := by decide) : PE X (.Name x pos) (tC (.int i)) := by
  obtain ⟨t, e⟩ := h
  exact pe_glob hg e ⟨t, rfl⟩ hd
theorem pe_gr {X : Cx} {x : Str} {a : Addr} {pos : Pos} (h : X.mg x = some (.ref a)) (hg : Gl X x) (hd : (x == ("__debug__" : Str)) = false := by decide) : PE X (.Name x pos) (tC (.ref a)) := pe_glob hg h rfl hd
/-- an own exception class without an __init__ -/
structure ExcF (K : PySem.W.Frag) (mg : Str → Option Value) (x : Str) (C : Addr) : Prop where
  g : mg x = some (.ref C)
  k : PySem.W.keepIn K (.ref C) = true
  x : PySem.W.excIn K C [.type "ValueError", .type "Exception", .type "BaseException", .type "object"] "ValueError.__new__" = true
  b : PySem.W.subIn K (.ref C) (.type "BaseException") = some true
  t : PySem.W.typeIn K (.ref C) = some (.type "type")
theorem pmk_x {X : Cx} {x : Str} {C : Addr} {e : Expr} {ta : TE} {p pos : Pos} (E : ExcF X.K X.mg x C) (hg : Gl X x) (he : PE X e ta) (hs : starEach [e] X.env = (false, eval e X.env) :: starEach [] X.env := by rfl) (hdb : (x == ("__debug__" : Str)) = false := by decide) :
    PMk X (.Call (.Name x p) [e] [] pos) (fun σ H Q => ta σ H fun _ H1 => Q (.ref C) none H1) := SkE.pmk_own1 PySem.F.excBase_ValueError E.x E.g E.k (raises_own E.b E.t) hg he hs hdb
/-- a walk over a text's signs -/
theorem its_loop {x : Str} {H0 : Hp} {Qd : Hp → Prop} {body : V → Hp → (Hp → Prop) → Prop} (Pv : Nat → Hp → Prop) (h0 : Pv 0 H0) (hs : ∀ i c H, x.cps[i]? = some c → Pv i H → body (.str ⟨#[c]⟩) H (Pv (i + 1))) (hd : ∀ H, Pv x.cps.size H → Qd H) :
    ∃ W : Nat → Nat → Hp → Prop, (∃ m, W 0 m H0) ∧ ∀ i m H, W i m H → ((Its x).stop i H ∧ Qd H) ∨ ((Its x).go i H ∧ ∃ Nx : Hp → Prop, (∀ H', Nx H' → ∃ m', m' < m ∧ W (i + 1) m' H') ∧ ∀ v H', (Its x).yld i H v H' → body v H' Nx) := by
  refine ⟨fun i m H => m = x.cps.size - i ∧ i ≤ x.cps.size ∧ Pv i H, ⟨x.cps.size, by simp, Nat.zero_le _, h0⟩, ?_⟩
  rintro i m H ⟨rfl, hi, p⟩
  by_cases hlt : i < x.cps.size
  · refine .inr ⟨hlt, Pv (i + 1), fun H' p' => ⟨x.cps.size - (i + 1), by omega, rfl, hlt, p'⟩, fun v H' y => ?_⟩
    obtain ⟨rfl, c, hc, rfl⟩ := y
    exact hs i c _ hc p
  · have e : i = x.cps.size := by omega
    subst e
    exact .inl ⟨Nat.le_refl _, hd H p⟩
theorem wipe_out_ {σ : L2.St} {i : Nat} : ∀ {vs : List Nat} {x : Option V}, i ∈ vs → wipe (σ.set i x) vs = wipe σ vs
  | [], _, h => by simp at h
  | v :: vs, x, h => by
    show (wipe (σ.set i x) vs).set v none = (wipe σ vs).set v none
    rcases List.mem_cons.mp h with rfl | h
    · have c : ∀ (ws : List Nat) (τ : L2.St), (wipe (τ.set i x) ws).set i none = (wipe τ ws).set i none := by
        intro ws
        induction ws with
        | nil => intro τ; simp [wipe]
        | cons w ws ih =>
          intro τ
          show ((wipe (τ.set i x) ws).set w none).set i none = ((wipe τ ws).set w none).set i none
          by_cases e : w = i
          · subst e
            rw [List.set_set, List.set_set]
            exact ih τ
          · rw [List.set_comm _ _ e, ih τ, List.set_comm _ _ (Ne.symm e)]
      exact c vs σ
    · rw [wipe_out_ h]
theorem wipe_wipe {σ : L2.St} : ∀ {vs : List Nat}, wipe (wipe σ vs) vs = wipe σ vs
  | [] => rfl
  | v :: vs => by
    show (wipe ((wipe σ vs).set v none) vs).set v none = (wipe σ vs).set v none
    by_cases h : v ∈ vs
    · rw [wipe_out_ h, wipe_wipe]
    · have c : ∀ (ws : List Nat) (τ : L2.St), (wipe (τ.set v none) ws).set v none = (wipe τ ws).set v none := by
        intro ws
        induction ws with
        | nil => intro τ; simp [wipe]
        | cons w ws ih =>
          intro τ
          show ((wipe (τ.set v none) ws).set w none).set v none = ((wipe τ ws).set w none).set v none
          by_cases e : w = v
          · subst e
            rw [List.set_set, List.set_set]
            exact ih τ
          · rw [List.set_comm _ _ e, ih τ, List.set_comm _ _ (Ne.symm e)]
      rw [c, wipe_wipe]
theorem wipe_in {σ : L2.St} {vs : List Nat} {i : Nat} {x : Option V} (h : i ∈ vs) : wipe ((wipe σ vs).set i x) vs = wipe σ vs := by rw [wipe_out_ h, wipe_wipe]
end U

namespace U
open PySem L2
/-! ### texts as lists of signs -/
/-- a number's figures -/
def nl : Int → List Nat
  | .ofNat n => TL.numL n
  | .negSucc n => 45 :: TL.numL (n + 1)
def numS (n : Int) : Str := Str.ofString (toString n)
theorem numS_nl (n : Int) : numS n = SX.S (nl n) := by
  cases n with
  | ofNat n => exact SX.num_S n
  | negSucc n =>
    refine TL.ext_tl ?_
    have e : toString (Int.negSucc n) = "-" ++ toString ((n + 1 : Nat) : Int) := rfl
    have q := TL.tl_num (n + 1)
    unfold numS
    rw [e, TL.tl_ofString, String.toList_append, List.map_append]
    rw [TL.tl_ofString] at q
    rw [q]
    rfl
theorem nl_free {n : Int} {s : Nat} (h : s < 45 ∨ 57 < s ∨ s = 46 ∨ s = 47) : s ∉ nl n := by
  cases n with
  | ofNat n => exact TL.numL_free (by omega)
  | negSucc n =>
    intro hm
    rcases List.mem_cons.mp hm with e | e
    · omega
    · exact TL.numL_free (by omega) e
theorem nl_len {n : Int} (h0 : -1000000 < n) (h1 : n < 1000000) : (nl n).length ≤ 7 := by
  cases n with
  | ofNat n =>
    have := TL.numL_len (n := n) (k := 6) (by decide) (by simp only [Int.ofNat_eq_natCast] at h1; omega)
    show (TL.numL n).length ≤ 7
    omega
  | negSucc n =>
    have := TL.numL_len (n := n + 1) (k := 6) (by decide) (by omega)
    show (TL.numL (n + 1)).length + 1 ≤ 7
    omega
theorem nl_ne (n : Int) : nl n ≠ [] := by
  cases n with
  | ofNat n => exact TL.numL_ne n
  | negSucc n => exact List.cons_ne_nil _ _
def W3.l : W3 → List Nat
  | .add => [97, 100, 100]
  | .sub => [115, 117, 98]
  | .mul => [109, 117, 108]
theorem W3.s_l (w : W3) : w.s = SX.S w.l := by cases w <;> decide +kernel
def sumL : List Nat := [115, 117, 109]
def pickL : List Nat := [112, 105, 99, 107]
/-- the words of a part -/
def Part.wl : Part → List (List Nat)
  | .num n => [nl n]
  | .cel c => [c.l]
  | .sum c d => [sumL, c.l, d.l]
  | .op w p q => w.l :: (p.wl ++ q.wl)
  | .pick p q r t => pickL :: (p.wl ++ (q.wl ++ (r.wl ++ t.wl)))
theorem Part.wl_ne (p : Part) : p.wl ≠ [] := by cases p <;> exact List.cons_ne_nil _ _
def Part.tx (p : Part) : List Nat := TL.joinL [32] p.wl
theorem joinL_app {s : List Nat} : ∀ {xs ys : List (List Nat)}, xs ≠ [] → ys ≠ [] → TL.joinL s (xs ++ ys) = TL.joinL s xs ++ (s ++ TL.joinL s ys)
  | [], _, h, _ => absurd rfl h
  | [x], [], _, h => absurd rfl h
  | [x], y :: r, _, _ => rfl
  | x :: x2 :: r, ys, _, h => by
    show x ++ (s ++ TL.joinL s (x2 :: r ++ ys)) = (x ++ (s ++ TL.joinL s (x2 :: r))) ++ (s ++ TL.joinL s ys)
    rw [joinL_app (List.cons_ne_nil _ _) h]
    simp only [List.append_assoc]
def Part.kids : Part → List Part
  | .op _ p q => [p, q]
  | .pick p q r t => [p, q, r, t]
  | _ => []
def Part.word : Part → Str
  | .num _ => "num"
  | .cel _ => "cell"
  | .sum _ _ => "sum"
  | .op w _ _ => w.s
  | .pick _ _ _ _ => "pick"
def Part.isOp : Part → Bool
  | .op _ _ _ => true
  | .pick _ _ _ _ => true
  | _ => false
theorem Part.tx_op (w : W3) (p q : Part) : (Part.op w p q).tx = w.l ++ ([32] ++ TL.joinL [32] [p.tx, q.tx]) := by
  show TL.joinL [32] ([w.l] ++ (p.wl ++ q.wl)) = _
  rw [joinL_app (by simp) (by simp [p.wl_ne]), joinL_app p.wl_ne q.wl_ne]
  rfl
theorem Part.tx_pick (p q r t : Part) : (Part.pick p q r t).tx = pickL ++ ([32] ++ TL.joinL [32] [p.tx, q.tx, r.tx, t.tx]) := by
  show TL.joinL [32] ([pickL] ++ (p.wl ++ (q.wl ++ (r.wl ++ t.wl)))) = _
  rw [joinL_app (by simp) (by simp [p.wl_ne]), joinL_app p.wl_ne (by simp [q.wl_ne]), joinL_app q.wl_ne (by simp [r.wl_ne]), joinL_app r.wl_ne t.wl_ne]
  rfl
/-- how long a part's text is -/
theorem Part.tx_len : ∀ {p : Part}, p.good → p.tx.length + 8 ≤ 10 * 4 ^ p.hgt
  | .num n, h => by
    have := nl_len h.1 h.2
    show (nl n).length + 8 ≤ 40
    omega
  | .cel c, _ => by show 2 + 8 ≤ 40; omega
  | .sum c d, _ => by show 9 + 8 ≤ 40; omega
  | .op w p q, h => by
    have h1 := Part.tx_len h.1
    have h2 := Part.tx_len h.2
    have e1 : 4 ^ p.hgt ≤ 4 ^ (max p.hgt q.hgt) := Nat.pow_le_pow_right (by decide) (by omega)
    have e2 : 4 ^ q.hgt ≤ 4 ^ (max p.hgt q.hgt) := Nat.pow_le_pow_right (by decide) (by omega)
    have e3 : 4 ^ (Part.op w p q).hgt = 4 ^ (max p.hgt q.hgt) * 4 := by show 4 ^ (max p.hgt q.hgt + 1) = _; rw [Nat.pow_succ]
    have w3 : w.l.length = 3 := by cases w <;> rfl
    rw [Part.tx_op, e3]
    show (w.l ++ (32 :: (p.tx ++ (32 :: q.tx)))).length + 8 ≤ _
    simp only [List.length_append, List.length_cons]
    omega
  | .pick p q r t, h => by
    have h1 := Part.tx_len h.1
    have h2 := Part.tx_len h.2.1
    have h3 := Part.tx_len h.2.2.1
    have h4 := Part.tx_len h.2.2.2
    have e1 : 4 ^ p.hgt ≤ 4 ^ (max (max p.hgt q.hgt) (max r.hgt t.hgt)) := Nat.pow_le_pow_right (by decide) (by omega)
    have e2 : 4 ^ q.hgt ≤ 4 ^ (max (max p.hgt q.hgt) (max r.hgt t.hgt)) := Nat.pow_le_pow_right (by decide) (by omega)
    have e3 : 4 ^ r.hgt ≤ 4 ^ (max (max p.hgt q.hgt) (max r.hgt t.hgt)) := Nat.pow_le_pow_right (by decide) (by omega)
    have e4 : 4 ^ t.hgt ≤ 4 ^ (max (max p.hgt q.hgt) (max r.hgt t.hgt)) := Nat.pow_le_pow_right (by decide) (by omega)
    have e5 : 4 ^ (Part.pick p q r t).hgt = 4 ^ (max (max p.hgt q.hgt) (max r.hgt t.hgt)) * 4 := by show 4 ^ (max (max p.hgt q.hgt) (max r.hgt t.hgt) + 1) = _; rw [Nat.pow_succ]
    rw [Part.tx_pick, e5]
    show (pickL ++ (32 :: (p.tx ++ (32 :: (q.tx ++ (32 :: (r.tx ++ (32 :: t.tx)))))))).length + 8 ≤ _
    simp only [List.length_append, List.length_cons]
    have : pickL.length = 4 := rfl
    omega
theorem Part.tx_le {p : Part} (h : p.good) (n : p.hgt ≤ 8) : p.tx.length ≤ 700000 := by
  have h1 := Part.tx_len h
  have e : 4 ^ p.hgt ≤ 4 ^ 8 := Nat.pow_le_pow_right (by decide) n
  have e2 : (4 : Nat) ^ 8 = 65536 := by decide
  omega
theorem Part.kid_good {p q : Part} (h : p.good) (m : q ∈ p.kids) : q.good := by
  cases p with
  | op w a b =>
    simp only [Part.kids, List.mem_cons, List.not_mem_nil, or_false] at m
    rcases m with rfl | rfl
    · exact h.1
    · exact h.2
  | pick a b c d =>
    simp only [Part.kids, List.mem_cons, List.not_mem_nil, or_false] at m
    rcases m with rfl | rfl | rfl | rfl
    · exact h.1
    · exact h.2.1
    · exact h.2.2.1
    · exact h.2.2.2
  | _ => simp [Part.kids] at m
theorem Part.kid_hgt {p q : Part} (m : q ∈ p.kids) : q.hgt < p.hgt := by
  cases p with
  | op w a b =>
    simp only [Part.kids, List.mem_cons, List.not_mem_nil, or_false] at m
    show _ < max a.hgt b.hgt + 1
    rcases m with rfl | rfl <;> omega
  | pick a b c d =>
    simp only [Part.kids, List.mem_cons, List.not_mem_nil, or_false] at m
    show _ < max (max a.hgt b.hgt) (max c.hgt d.hgt) + 1
    rcases m with rfl | rfl | rfl | rfl <;> omega
  | _ => simp [Part.kids] at m
/-! ### parts as they lie, by word and kids -/
def PAs (K : PySem.W.Frag) (H : Hp) : List Part → List V → Prop
  | [], [] => True
  | p :: ps, x :: xs => PA K H p x ∧ PAs K H ps xs
  | _, _ => False
theorem PAs.tk {K : PySem.W.Frag} {H H' : Hp} (t : Tk K H H') : ∀ {ps : List Part} {xs : List V}, PAs K H ps xs → PAs K H' ps xs
  | [], [], _ => trivial
  | _ :: _, _ :: _, h => ⟨PA.tk t h.1, PAs.tk t h.2⟩
theorem PAs.len {K : PySem.W.Frag} {H : Hp} : ∀ {ps : List Part} {xs : List V}, PAs K H ps xs → xs.length = ps.length
  | [], [], _ => rfl
  | _ :: _, _ :: _, h => by simp [PAs.len h.2]
theorem PAs.get {K : PySem.W.Frag} {H : Hp} : ∀ {ps : List Part} {xs : List V} {i : Nat} {x : V}, PAs K H ps xs → xs[i]? = some x → ∃ p, ps[i]? = some p ∧ PA K H p x
  | [], [], i, x, _, e => by simp at e
  | p :: _, y :: _, 0, x, h, e => by
    simp at e
    subst e
    exact ⟨p, rfl, h.1⟩
  | _ :: ps, _ :: xs, i + 1, x, h, e => by
    obtain ⟨q, h1, h2⟩ := PAs.get (i := i) h.2 (by simpa using e)
    exact ⟨q, by simpa using h1, h2⟩
theorem PA.node {K : PySem.W.Frag} {H : Hp} {p : Part} {v : V} (h : PA K H p v) (o : p.isOp = true) : ∃ a xs, v = .ref a ∧ SqT K H a (.str p.word :: xs) ∧ PAs K H p.kids xs := by
  cases p with
  | op w p q =>
    obtain ⟨a, x, y, e, h1, h2, h3⟩ := h
    exact ⟨a, [x, y], e, h1, h2, h3, trivial⟩
  | pick p q r t =>
    obtain ⟨a, x, y, z, u, e, h1, h2, h3, h4, h5⟩ := h
    exact ⟨a, [x, y, z, u], e, h1, h2, h3, h4, h5, trivial⟩
  | _ => exact absurd o Bool.false_ne_true
theorem PA.head {K : PySem.W.Frag} {H : Hp} {p : Part} {v : V} (h : PA K H p v) : ∃ a xs, v = .ref a ∧ SqT K H a (.str p.word :: xs) := by
  cases p with
  | num n => obtain ⟨a, e, h⟩ := h; exact ⟨a, _, e, h⟩
  | cel c => obtain ⟨a, e, h⟩ := h; exact ⟨a, _, e, h⟩
  | sum c d => obtain ⟨a, e, h⟩ := h; exact ⟨a, _, e, h⟩
  | op w p q => obtain ⟨a, x, y, e, h, _⟩ := h; exact ⟨a, _, e, h⟩
  | pick p q r t => obtain ⟨a, x, y, z, u, e, h, _⟩ := h; exact ⟨a, _, e, h⟩
def Part.isNum : Part → Bool
  | .num _ => true
  | _ => false
def Part.isCel : Part → Bool
  | .cel _ => true
  | _ => false
def Part.isSum : Part → Bool
  | .sum _ _ => true
  | _ => false
theorem ws_num (w : W3) : decide (w.s = "num") = false := by cases w <;> decide +kernel
theorem ws_cell (w : W3) : decide (w.s = "cell") = false := by cases w <;> decide +kernel
theorem ws_sum (w : W3) : decide (w.s = "sum") = false := by cases w <;> decide +kernel
theorem ws_pick (w : W3) : decide (w.s = "pick") = false := by cases w <;> decide +kernel
theorem Part.w_num (p : Part) : decide (p.word = "num") = p.isNum := by
  cases p with
  | op w p q => exact ws_num w
  | num n => exact (by decide +kernel : decide (("num" : Str) = "num") = true)
  | cel c => exact (by decide +kernel : decide (("cell" : Str) = "num") = false)
  | sum c d => exact (by decide +kernel : decide (("sum" : Str) = "num") = false)
  | pick p q r t => exact (by decide +kernel : decide (("pick" : Str) = "num") = false)
theorem Part.w_cell (p : Part) : decide (p.word = "cell") = p.isCel := by
  cases p with
  | op w p q => exact ws_cell w
  | num n => exact (by decide +kernel : decide (("num" : Str) = "cell") = false)
  | cel c => exact (by decide +kernel : decide (("cell" : Str) = "cell") = true)
  | sum c d => exact (by decide +kernel : decide (("sum" : Str) = "cell") = false)
  | pick p q r t => exact (by decide +kernel : decide (("pick" : Str) = "cell") = false)
theorem Part.w_sum (p : Part) : decide (p.word = "sum") = p.isSum := by
  cases p with
  | op w p q => exact ws_sum w
  | num n => exact (by decide +kernel : decide (("num" : Str) = "sum") = false)
  | cel c => exact (by decide +kernel : decide (("cell" : Str) = "sum") = false)
  | sum c d => exact (by decide +kernel : decide (("sum" : Str) = "sum") = true)
  | pick p q r t => exact (by decide +kernel : decide (("pick" : Str) = "sum") = false)
theorem cut1 (x : V) (xs : List V) : cutV (x :: xs) (some 1) none = xs := by
  unfold cutV HT.sIx
  simp
theorem call_str_any {X : Cx} : CallR X (.type "str") (fun xs H Q => (∃ i, xs = [V.int i] ∧ i.natAbs.log2 < 1920 ∧ Q (.str (toString i)) H) ∨ ∃ a, xs = [V.str a] ∧ Q (.str a) H) := CallR.or call_str_int SkE.call_str_str
def blankS : Str := SX.S [32]
theorem blank_eq : (" " : Str) = SX.S [32] := by decide +kernel
def spPT (K : PySem.W.Frag) (n : Nat) : Sp := fun vs H Q _ => ∃ (p : Part) (v : V), vs = [v] ∧ PA K H p v ∧ p.good ∧ p.hgt ≤ n ∧ p.hgt ≤ 8 ∧ ∀ (H' : Hp), Same H H' → Q (.str (SX.S p.tx)) H'
theorem inW (p : Part) : inV (.str p.word) [.str "num", .str "cell"] = (p.isNum || p.isCel) := by
  have e : ∀ z : Str, inV (.str z) [.str "num", .str "cell"] = (decide (("num" : Str) = z) || decide (("cell" : Str) = z)) := fun z => by
    simp [inV, eqV, Bool.beq_eq_decide_eq]
  rw [e, ← Part.w_num, ← Part.w_cell]
  simp only [eq_comm]
theorem log_ok {i : Int} (h0 : -1000000 < i) (h1 : i < 1000000) : i.natAbs.log2 < 1920 := by
  by_cases h : i.natAbs = 0
  · rw [h]
    decide
  · rw [Nat.log2_lt h]
    have : (2 : Nat) ^ 20 ≤ 2 ^ 1920 := Nat.pow_le_pow_right (by decide) (by decide)
    have e : (2 : Nat) ^ 20 = 1048576 := by decide
    omega
theorem sumS : ("sum" : Str) = SX.S sumL := by decide +kernel
theorem sumS_ : ("sum " : Str) = SX.S (sumL ++ [32]) := by decide +kernel
theorem pickS : ("pick" : Str) = SX.S pickL := by decide +kernel
theorem S_app (a b : List Nat) : SX.S a ++ SX.S b = SX.S (a ++ b) := SX.S_cat a b
theorem S_length (a : List Nat) : (SX.S a).length = a.length := SX.S_len a
def Part.wd : Part → List Nat
  | .op w _ _ => w.l
  | _ => pickL
theorem Part.wd_eq {p : Part} (o : p.isOp = true) : p.word = SX.S p.wd := by
  cases p with
  | op w p q => exact w.s_l
  | pick p q r t => exact pickS
  | _ => exact absurd o Bool.false_ne_true
theorem Part.tx_kids {p : Part} (o : p.isOp = true) : p.tx = p.wd ++ ([32] ++ TL.joinL [32] (p.kids.map Part.tx)) := by
  cases p with
  | op w p q => exact Part.tx_op w p q
  | pick p q r t => exact Part.tx_pick p q r t
  | _ => exact absurd o Bool.false_ne_true
theorem Part.wd_len (p : Part) : p.wd.length ≤ 4 := by
  cases p with
  | op w p q => cases w <;> simp [Part.wd, W3.l]
  | _ => simp [Part.wd, pickL]
theorem Part.kids_len (p : Part) : p.kids.length ≤ 4 := by cases p <;> simp [Part.kids]
theorem Part.kinds (p : Part) : (∃ n, p = .num n) ∨ (∃ c, p = .cel c) ∨ (∃ c d, p = .sum c d) ∨ p.isOp = true := by
  cases p with
  | num n => exact .inl ⟨n, rfl⟩
  | cel c => exact .inr (.inl ⟨c, rfl⟩)
  | sum c d => exact .inr (.inr (.inl ⟨c, d, rfl⟩))
  | op w p q => exact .inr (.inr (.inr rfl))
  | pick p q r t => exact .inr (.inr (.inr rfl))
theorem Part.op_not {p : Part} (o : p.isOp = true) : p.isNum = false ∧ p.isCel = false ∧ p.isSum = false := by
  cases p with
  | op w p q => exact ⟨rfl, rfl, rfl⟩
  | pick p q r t => exact ⟨rfl, rfl, rfl⟩
  | _ => exact absurd o Bool.false_ne_true
theorem sl1_ne (x : V) (xs : List V) : ¬ (HT.sIx (x :: xs).length 0 (some 1) = 0 ∧ HT.sIx (x :: xs).length (x :: xs).length none = (x :: xs).length) := by
  rintro ⟨h, _⟩
  unfold HT.sIx at h
  simp at h
theorem sum_le {α : Type} {f : α → Nat} {B : Nat} : ∀ {l : List α}, (∀ x ∈ l, f x ≤ B) → (l.map f).sum ≤ l.length * B
  | [], _ => by simp
  | x :: r, h => by
    have h1 := h x (by simp)
    have h2 := sum_le (l := r) fun y hy => h y (by simp [hy])
    rw [List.map_cons, List.sum_cons, List.length_cons, Nat.succ_mul]
    omega
theorem take_next {α : Type} {l : List α} {i : Nat} {x : α} (h : l[i]? = some x) : l.take (i + 1) = l.take i ++ [x] := by
  rw [List.take_add_one, h]
  rfl
theorem join_kids (l : List Part) : Txt.join " " (l.map fun z => SX.S z.tx) = SX.S (TL.joinL [32] (l.map Part.tx)) := by
  rw [blank_eq, ← SX.join_S, List.map_map]
  rfl
theorem kids_size {l : List Part} (h4 : l.length ≤ 4) (hg : ∀ z ∈ l, z.good ∧ z.hgt ≤ 8) : ((l.map fun z => SX.S z.tx).map (·.length)).sum + (l.map fun z => SX.S z.tx).length * (" " : Str).length ≤ 16777216 := by
  have h1 : (" " : Str).length = 1 := by rw [blank_eq]; rfl
  rw [h1, List.map_map, List.length_map]
  have h2 := sum_le (f := (fun x : Str => x.length) ∘ fun z : Part => SX.S z.tx) (B := 700000) (l := l) fun z hz => by
    show (SX.S z.tx).length ≤ 700000
    rw [S_length]
    exact Part.tx_le (hg z hz).1 (hg z hz).2
  have h3 : l.length * 700000 ≤ 4 * 700000 := Nat.mul_le_mul_right _ h4
  omega
/-! ### a content's text -/
def ctx : Option Part → List Nat
  | none => []
  | some (.num n) => nl n
  | some p => [61, 32] ++ p.tx
theorem ctx_not {p : Part} (h : p.isNum = false) : ctx (some p) = [61, 32] ++ p.tx := by
  cases p with
  | num n => exact absurd h.symm Bool.false_ne_true
  | _ => rfl
theorem eqS : ("= " : Str) = SX.S [61, 32] := by decide +kernel
def spText (K : PySem.W.Frag) : Sp := fun vs H Q _ => ∃ (p : Option Part) (v : V), vs = [v] ∧ CA K H p v ∧ goodC p 8 ∧ ∀ (H' : Hp), Same H H' → Q (.str (SX.S (ctx p))) H'
/-! ### the cells that a content reads -/
def addU (acc : List Str) (x : Str) : List Str := if x ∈ acc then acc else acc ++ [x]
def dedupe (l : List Str) : List Str := l.foldl addU []
theorem mem_addU {acc : List Str} {x y : Str} : y ∈ addU acc x ↔ y ∈ acc ∨ y = x := by
  unfold addU
  by_cases h : x ∈ acc
  · rw [if_pos h]
    constructor
    · exact .inl
    · rintro (q | rfl)
      · exact q
      · exact h
  · rw [if_neg h]
    simp
theorem mem_foldU : ∀ {l acc : List Str} {y : Str}, y ∈ l.foldl addU acc ↔ y ∈ acc ∨ y ∈ l
  | [], acc, y => by simp
  | x :: r, acc, y => by
    rw [List.foldl_cons, mem_foldU, mem_addU]
    simp only [List.mem_cons]
    constructor
    · rintro ((h | h) | h)
      · exact .inl h
      · exact .inr (.inl h)
      · exact .inr (.inr h)
    · rintro (h | h | h)
      · exact .inl (.inl h)
      · exact .inl (.inr h)
      · exact .inr h
theorem fold_addU (acc pre : List Str) (x : Str) : (addU pre x).foldl addU acc = addU (pre.foldl addU acc) x := by
  by_cases h : x ∈ pre
  · have e : addU pre x = pre := if_pos h
    have e2 : addU (pre.foldl addU acc) x = pre.foldl addU acc := if_pos (mem_foldU.mpr (.inr h))
    rw [e, e2]
  · have e : addU pre x = pre ++ [x] := if_neg h
    rw [e, List.foldl_append]
    rfl
theorem fold_fold (acc : List Str) : ∀ (l pre : List Str), (l.foldl addU pre).foldl addU acc = l.foldl addU (pre.foldl addU acc)
  | [], pre => rfl
  | x :: r, pre => by
    rw [List.foldl_cons, fold_fold acc r (addU pre x), fold_addU]
    rfl
theorem fold_dedupe (acc l : List Str) : (dedupe l).foldl addU acc = l.foldl addU acc := fold_fold acc l []
theorem dedupe_nodup : ∀ {l acc : List Str}, (acc ++ l).Nodup → l.foldl addU acc = acc ++ l
  | [], acc, _ => by simp
  | x :: r, acc, h => by
    have hx : x ∉ acc := fun q => by
      have := List.nodup_append.mp h
      exact this.2.2 x q x (by simp) rfl
    have e : addU acc x = acc ++ [x] := if_neg hx
    rw [List.foldl_cons, e, dedupe_nodup (by simpa using h)]
    simp
theorem foldU_len : ∀ (l acc : List Str), (l.foldl addU acc).length ≤ acc.length + l.length
  | [], acc => by simp
  | x :: r, acc => by
    have h1 := foldU_len r (addU acc x)
    have h2 : (addU acc x).length ≤ acc.length + 1 := by
      unfold addU
      split <;> simp
    rw [List.foldl_cons, List.length_cons]
    omega
theorem rowL_mem {a n r : Nat} {z : Str} : z ∈ rowL a n r ↔ ∃ k, a ≤ k ∧ k < a + n ∧ z = SX.S [97 + k, 49 + r] := by
  unfold rowL
  simp only [List.mem_map, List.mem_range'_1]
  constructor
  · rintro ⟨k, ⟨h1, h2⟩, rfl⟩
    exact ⟨k, h1, h2, rfl⟩
  · rintro ⟨k, h1, h2, rfl⟩
    exact ⟨k, ⟨h1, h2⟩, rfl⟩
theorem S2_inj {a b c d : Nat} (h : SX.S [97 + a, 49 + b] = SX.S [97 + c, 49 + d]) : a = c ∧ b = d := by
  have q := SX.S_inj h
  simp only [List.cons.injEq, and_true] at q
  omega
theorem rowL_nodup (a r : Nat) : ∀ n, (rowL a n r).Nodup
  | 0 => by simp [rowL]
  | n + 1 => by
    rw [rowL_succ, List.nodup_append]
    refine ⟨rowL_nodup a r n, by simp, ?_⟩
    rintro x hx y hy rfl
    obtain ⟨k, h1, h2, e⟩ := rowL_mem.mp hx
    have e2 : x = SX.S [97 + (a + n), 49 + r] := by simpa using hy
    rw [e] at e2
    have := S2_inj e2
    omega
theorem rowsL_mem {a n b m : Nat} {z : Str} : z ∈ rowsL a n b m ↔ ∃ k r, a ≤ k ∧ k < a + n ∧ b ≤ r ∧ r < b + m ∧ z = SX.S [97 + k, 49 + r] := by
  unfold rowsL
  simp only [List.mem_flatMap, List.mem_range'_1, rowL_mem]
  constructor
  · rintro ⟨r, ⟨h1, h2⟩, k, h3, h4, rfl⟩
    exact ⟨k, r, h3, h4, h1, h2, rfl⟩
  · rintro ⟨k, r, h3, h4, h1, h2, rfl⟩
    exact ⟨r, ⟨h1, h2⟩, k, h3, h4, rfl⟩
theorem rowsL_nodup (a n b : Nat) : ∀ m, (rowsL a n b m).Nodup
  | 0 => by simp [rowsL]
  | m + 1 => by
    rw [rowsL_succ, List.nodup_append]
    refine ⟨rowsL_nodup a n b m, rowL_nodup _ _ _, ?_⟩
    rintro x hx y hy rfl
    obtain ⟨k, r, h1, h2, h3, h4, e⟩ := rowsL_mem.mp hx
    obtain ⟨k', h1', h2', e'⟩ := rowL_mem.mp hy
    rw [e] at e'
    have := S2_inj e'
    omega
theorem strL_nodup (x y : Cel) : (strL x y).Nodup := rowsL_nodup _ _ _ _
theorem strL_len (x y : Cel) : (strL x y).length ≤ 54 := by
  unfold strL
  rw [rowsL_len]
  have h1 := x.hc
  have h2 := y.hc
  have h3 := x.hr
  have h4 := y.hr
  have : (max x.c y.c + 1 - min x.c y.c) * (max x.r y.r + 1 - min x.r y.r) ≤ 6 * 9 := Nat.mul_le_mul (by omega) (by omega)
  omega
/-- all that a part reads, as often as it stands there -/
def Part.cells : Part → List Str
  | .num _ => []
  | .cel c => [c.s]
  | .sum c d => strL c d
  | .op _ p q => p.cells ++ q.cells
  | .pick p q r t => p.cells ++ (q.cells ++ (r.cells ++ t.cells))
theorem Part.cells_kids {p : Part} (o : p.isOp = true) : p.cells = p.kids.flatMap Part.cells := by
  cases p with
  | op w p q => simp [Part.kids, Part.cells]
  | pick p q r t => simp [Part.kids, Part.cells]
  | _ => exact absurd o Bool.false_ne_true
def Part.reads (p : Part) : List Str := dedupe p.cells
def readsC : Option Part → List Str
  | none => []
  | some p => p.reads
theorem Part.cells_len : ∀ (p : Part), p.cells.length ≤ 54 * 4 ^ p.hgt
  | .num n => by simp [Part.cells]
  | .cel c => by simp [Part.cells, Part.hgt]
  | .sum c d => by
    have := strL_len c d
    show (strL c d).length ≤ 54 * 4 ^ 1
    omega
  | .op w p q => by
    have h1 := Part.cells_len p
    have h2 := Part.cells_len q
    have e1 : 4 ^ p.hgt ≤ 4 ^ (max p.hgt q.hgt) := Nat.pow_le_pow_right (by decide) (by omega)
    have e2 : 4 ^ q.hgt ≤ 4 ^ (max p.hgt q.hgt) := Nat.pow_le_pow_right (by decide) (by omega)
    have e3 : 4 ^ (Part.op w p q).hgt = 4 ^ (max p.hgt q.hgt) * 4 := by show 4 ^ (max p.hgt q.hgt + 1) = _; rw [Nat.pow_succ]
    rw [e3]
    show (p.cells ++ q.cells).length ≤ _
    rw [List.length_append]
    omega
  | .pick p q r t => by
    have h1 := Part.cells_len p
    have h2 := Part.cells_len q
    have h3 := Part.cells_len r
    have h4 := Part.cells_len t
    have e1 : 4 ^ p.hgt ≤ 4 ^ (max (max p.hgt q.hgt) (max r.hgt t.hgt)) := Nat.pow_le_pow_right (by decide) (by omega)
    have e2 : 4 ^ q.hgt ≤ 4 ^ (max (max p.hgt q.hgt) (max r.hgt t.hgt)) := Nat.pow_le_pow_right (by decide) (by omega)
    have e3 : 4 ^ r.hgt ≤ 4 ^ (max (max p.hgt q.hgt) (max r.hgt t.hgt)) := Nat.pow_le_pow_right (by decide) (by omega)
    have e4 : 4 ^ t.hgt ≤ 4 ^ (max (max p.hgt q.hgt) (max r.hgt t.hgt)) := Nat.pow_le_pow_right (by decide) (by omega)
    have e5 : 4 ^ (Part.pick p q r t).hgt = 4 ^ (max (max p.hgt q.hgt) (max r.hgt t.hgt)) * 4 := by show 4 ^ (max (max p.hgt q.hgt) (max r.hgt t.hgt) + 1) = _; rw [Nat.pow_succ]
    rw [e5]
    show (p.cells ++ (q.cells ++ (r.cells ++ t.cells))).length ≤ _
    simp only [List.length_append]
    omega
theorem Part.cells_le {p : Part} (h : p.hgt ≤ 8) : p.cells.length ≤ 3600000 := by
  have h1 := Part.cells_len p
  have e : 4 ^ p.hgt ≤ 4 ^ 8 := Nat.pow_le_pow_right (by decide) h
  have e2 : (4 : Nat) ^ 8 = 65536 := by decide
  omega
theorem inS (x : Str) (l : List Str) : inV (.str x) (l.map V.str) = decide (x ∈ l) := by
  induction l with
  | nil => rfl
  | cons y r ih =>
    have e : inV (.str x) ((y :: r).map V.str) = (eqV (.str y) (.str x) || inV (.str x) (r.map V.str)) := rfl
    rw [e, ih]
    have e2 : eqV (.str y) (.str x) = decide (y = x) := by simp [eqV, Bool.beq_eq_decide_eq]
    rw [e2]
    by_cases h : y = x
    · subst h; simp
    · by_cases h2 : x ∈ r
      · simp [h, h2]
      · simp [h, h2]
        exact fun e => h e.symm
theorem flat_strs : ∀ l : List Str, (l.map V.str).all flatV = true
  | [] => rfl
  | _ :: r => flat_strs r
def spReads (K : PySem.W.Frag) (n : Nat) : Sp := fun vs H Q _ => ∃ (p : Option Part) (v : V), vs = [v] ∧ CA K H p v ∧ (∀ q, p = some q → q.hgt < n ∧ q.hgt ≤ 8) ∧ 0 < n ∧
  ∀ (r : Addr) (H' : Hp), H r = none → Same H H' → H' r = some (.lst ((readsC p).map V.str)) → Q (.ref r) H'
/-! ### the program's cells -/
def isCelL : List Nat → Bool
  | [a, b] => decide (97 ≤ a) && decide (a ≤ 102) && (decide (49 ≤ b) && decide (b ≤ 57))
  | _ => false
theorem isCelL_cel (c : Cel) : isCelL c.l = true := by
  have := c.hc
  have := c.hr
  simp [isCelL, Cel.l]
  omega
theorem isCelL_iff {l : List Nat} (h : isCelL l = true) : ∃ c : Cel, l = c.l := by
  match l, h with
  | [a, b], h =>
    simp only [isCelL, Bool.and_eq_true, decide_eq_true_eq] at h
    refine ⟨⟨a - 97, b - 49, by omega, by omega⟩, ?_⟩
    show [a, b] = [97 + (a - 97), 49 + (b - 49)]
    congr 1
    · omega
    · congr 1
      omega
theorem Cel.l_inj {c d : Cel} (h : c.l = d.l) : c = d := by
  cases c
  cases d
  simp only [Cel.l, List.cons.injEq, and_true] at h
  congr 1 <;> omega
def spIsCell : Sp := fun vs H Q _ => ∃ l : List Nat, vs = [.str (SX.S l)] ∧ l.length ≤ sizeLine ∧ Q (.bl (isCelL l)) H
def spPlace (CN : Addr) : Sp := fun vs H Q E => ∃ l : List Nat, vs = [.str (SX.S l)] ∧ l.length ≤ 10000000 ∧ (∀ c : Cel, l = c.l → ∀ t, H t = none → Q (.ref t) (upd H t (.tup [.int c.c, .int c.r]))) ∧ (isCelL l = false → E (.ref CN) none H)
def spStretch (CN : Addr) : Sp := fun vs H Q E => ∃ l m : List Nat, vs = [.str (SX.S l), .str (SX.S m)] ∧ l.length ≤ 10000000 ∧ m.length ≤ 10000000 ∧
  (∀ c d : Cel, l = c.l → m = d.l → ∀ (p : Addr) (H' : Hp), H p = none → Same H H' → H' p = some (.lst ((strL c d).map V.str)) → Q (.ref p) H') ∧ ((isCelL l = false ∨ isCelL m = false) → ∀ H', Same H H' → E (.ref CN) none H')
def spShifted (CN : Addr) : Sp := fun vs H Q E => ∃ (l : List Nat) (n : Int), vs = [.str (SX.S l), .int n] ∧ l.length ≤ 10000000 ∧
  (∀ c : Cel, l = c.l → ∀ (H' : Hp), Same H H' → (∀ d : Cel, d.c = c.c → (d.r : Int) = c.r + n → Q (.str d.s) H') ∧ ((c.r : Int) + n < 0 ∨ 9 ≤ (c.r : Int) + n → Q (.str (SX.S [])) H')) ∧ (isCelL l = false → ∀ H', Same H H' → E (.ref CN) none H')
theorem col_in (a : Nat) : decide (a ∈ ("abcdef" : Str).cps.toList) = (decide (97 ≤ a) && decide (a ≤ 102)) := by
  have e : ("abcdef" : Str).cps.toList = [97, 98, 99, 100, 101, 102] := by decide +kernel
  rw [e, Bool.eq_iff_iff]
  simp
  omega
theorem row_in (a : Nat) : decide (a ∈ ("123456789" : Str).cps.toList) = (decide (49 ≤ a) && decide (a ≤ 57)) := by
  have e : ("123456789" : Str).cps.toList = [49, 50, 51, 52, 53, 54, 55, 56, 57] := by decide +kernel
  rw [e, Bool.eq_iff_iff]
  simp
  omega
theorem col_idx : ∀ {c : Nat}, c < 6 → (Builtin.Str.occurrences ("abcdef" : Str) (SX.S [97 + c]) 0 ("abcdef" : Str).length 1).head? = some c := by decide +kernel
theorem row_idx : ∀ {c : Nat}, c < 9 → (Builtin.Str.occurrences ("123456789" : Str) (SX.S [49 + c]) 0 ("123456789" : Str).length 1).head? = some c := by decide +kernel
theorem head_rest {l : List Nat} {x : Nat} (h : l.head? = some x) : ∃ r, l = x :: r := by
  cases l with
  | nil => cases h
  | cons y r => cases h; exact ⟨r, rfl⟩
theorem cut_col : ∀ {a : Nat}, a < 6 → ∀ {n : Nat}, n < 7 → a + n ≤ 6 → cutS ("abcdef" : Str) (some (a : Int)) (some ((a + n : Nat) : Int)) = SX.S (List.range' (97 + a) n) := by decide +kernel
theorem cut_row : ∀ {a : Nat}, a < 9 → ∀ {n : Nat}, n < 10 → a + n ≤ 9 → cutS ("123456789" : Str) (some (a : Int)) (some ((a + n : Nat) : Int)) = SX.S (List.range' (49 + a) n) := by decide +kernel
theorem range_at {a n i c : Nat} (h : (SX.S (List.range' a n)).cps[i]? = some c) : i < n ∧ c = a + i := by
  have h : (List.range' a n).toArray[i]? = some c := h
  rw [List.getElem?_toArray] at h
  obtain ⟨hi, e⟩ := List.getElem?_eq_some_iff.mp h
  rw [List.getElem_range'] at e
  rw [List.length_range'] at hi
  exact ⟨hi, by omega⟩
theorem range_size (a n : Nat) : (SX.S (List.range' a n)).cps.size = n := by simp [SX.S]
theorem ten_m {n : Nat} (h : n ≤ 10000000) : n ≤ sizeLine := by rw [sizeLine_eq]; omega
/-! ### the program's words and cells -/
def svs (l : List (List Nat)) : List V := l.map fun z => V.str (SX.S z)
theorem svs_len (l : List (List Nat)) : (svs l).length = l.length := List.length_map _
theorem svs_app (l m : List (List Nat)) : svs (l ++ m) = svs l ++ svs m := List.map_append
theorem svs_map (l : List (List Nat)) : svs l = (l.map SX.S).map V.str := by
  unfold svs
  rw [List.map_map]
  rfl
def spWords (K : PySem.W.Frag) (n : Nat) : Sp := fun vs H Q _ => ∃ (p : Part) (v : V), vs = [v] ∧ PA K H p v ∧ p.good ∧ p.hgt ≤ n ∧ p.hgt ≤ 8 ∧ ∀ (r : Addr) (H' : Hp), H r = none → Same H H' → H' r = some (.lst (svs p.wl)) → Q (.ref r) H'
def spCells (K : PySem.W.Frag) (n : Nat) : Sp := fun vs H Q _ => ∃ (p : Part) (v : V), vs = [v] ∧ PA K H p v ∧ p.hgt ≤ n ∧ p.hgt ≤ 8 ∧ ∀ (r : Addr) (H' : Hp), H r = none → Same H H' → H' r = some (.lst (p.cells.map V.str)) → Q (.ref r) H'
theorem Part.wl_kids {p : Part} (o : p.isOp = true) : p.wl = p.wd :: p.kids.flatMap Part.wl := by
  cases p with
  | op w p q => simp [Part.kids, Part.wl, Part.wd]
  | pick p q r t => simp [Part.kids, Part.wl, Part.wd]
  | _ => exact absurd o Bool.false_ne_true
theorem joinL_len {s : List Nat} : ∀ l : List (List Nat), l.length ≤ (TL.joinL (32 :: s) l).length + 1
  | [] => by simp [TL.joinL]
  | [x] => by simp [TL.joinL]
  | x :: y :: r => by
    have := joinL_len (s := s) (y :: r)
    show (x :: y :: r).length ≤ (x ++ ((32 :: s) ++ TL.joinL (32 :: s) (y :: r))).length + 1
    simp only [List.length_append, List.length_cons] at this ⊢
    omega
theorem Part.wl_len {p : Part} (h : p.good) (n : p.hgt ≤ 8) : p.wl.length ≤ 700001 := by
  have h1 := Part.tx_le h n
  have h2 := joinL_len (s := []) p.wl
  unfold Part.tx at h1
  omega
theorem joinL_sum : ∀ l : List (List Nat), (l.map List.length).sum + l.length ≤ (TL.joinL [32] l).length + 1
  | [] => by simp
  | [x] => by simp [TL.joinL]
  | x :: y :: r => by
    have := joinL_sum (y :: r)
    show _ ≤ (x ++ ([32] ++ TL.joinL [32] (y :: r))).length + 1
    simp only [List.map_cons, List.sum_cons, List.length_append, List.length_cons, List.length_nil] at this ⊢
    omega
theorem join_wl (p : Part) : Txt.join " " (p.wl.map SX.S) = SX.S p.tx := by
  rw [blank_eq, SX.join_S]
  rfl
theorem wl_size {p : Part} (h : p.good) (n : p.hgt ≤ 8) : ((p.wl.map SX.S).map (·.length)).sum + (p.wl.map SX.S).length * (" " : Str).length ≤ 16777216 := by
  have h1 : (" " : Str).length = 1 := by rw [blank_eq]; rfl
  have h2 := joinL_sum p.wl
  have h3 := Part.tx_le h n
  unfold Part.tx at h3
  rw [h1, SX.lens, List.length_map]
  have e : p.wl.map (fun x => x.length) = p.wl.map List.length := rfl
  rw [e]
  omega
theorem keepTk {K : PySem.W.Frag} {r : Addr} {G G' : Hp} {ys : List V} (g : G r = some (.lst ys)) (kp : Keep r r G G') : Tk K G G' := fun a0 zs h => by
  rcases h with (h | ⟨o, h⟩) | h
  · have ne : a0 ≠ r := ne_of h g (by intro z; cases z)
    exact .inl (.inl (kp _ _ h ne ne))
  · have ne : a0 ≠ r := ne_of h g (by intro z; cases z)
    exact .inl (.inr ⟨o, kp _ _ h ne ne⟩)
  · exact .inr h
end U

namespace U
open PySem L2 PyProof.Rows
section
variable {X : Cx}
/-- name = {k: v for ..} on one line, the name a local -/
theorem ps_setDc {i : Nat} {y : Str} {py : Pos} {kx vx tg iter : Expr} {ifs : List Expr} {scope : Scope} {own : List (Str × Nat)} {pos spos : Pos} {wi : TI} {g : TG} {tt : TT} {tk tv : TE} (hc : X.calm = true) (hN : X.N.Nodup) (hy : X.N[i]? = some y)
    (hyl : X.env.scope.names.lookup y = some .local) (hsw : swapsWith (.DictComp kx vx [⟨tg, iter, ifs, 0⟩] scope pos) (some (.Name y py)) spos.line X.env = pure true) (hi : PI X tg iter wi) (ok : BlkOk X.N X.env.scope scope own)
    (hg : ∀ (s : Shared) (H : Hp) (C : Addr) (cl : List (Str × Addr)) (fp : List Addr), PG (X.blk s H scope (compEnvC scope cl C X.env) fp) tg g)
    (ht : ∀ (s : Shared) (H : Hp) (C : Addr) (cl : List (Str × Addr)) (fp : List Addr), PTs (X.blk s H scope (compEnvC scope cl C X.env) fp) ifs tt)
    (hk : ∀ (s : Shared) (H : Hp) (C : Addr) (cl : List (Str × Addr)) (fp : List Addr), PE (X.blk s H scope (compEnvC scope cl C X.env) fp) kx tk)
    (hv : ∀ (s : Shared) (H : Hp) (C : Addr) (cl : List (Str × Addr)) (fp : List Addr), PE (X.blk s H scope (compEnvC scope cl C X.env) fp) vx tv)
    (hs : ∀ x, foldedSetIterable iter X.env x = pure x := by intro _; rfl) :
    PS X (.Assign [.Name y py] (.DictComp kx vx [⟨tg, iter, ifs, 0⟩] scope pos) spos) (tAsg (tDc wi g tt tk tv (own.map (·.2))) (gName i)) := by
  refine ⟨fun pins s σ H D I h => ?_⟩
  rw [exec_Assign_Name_used _ _ _ _ hsw]
  refine wpAny_bind (wpAny_standAt (wpAny_bind ?_))
  have h : tDc wi g tt tk tv (own.map (·.2)) σ H (fun x H1 => gName i x σ H1 D.nx) := h
  refine wpAny_bind (thn (dc_core (use := some (assign (.Name y py) X.env)) (Qf := fun _ s' => SP X pins D .next s') hc hN I hi ok hg ht hk hv hs h fun L C s' m H' I' q hn f => ?_) fun _ s' hq => wpAny_pure (wpAny_pure hq))
  refine wpAny_assign_Name (store_ok2 (v := V.ref L) I' hN hy (.inl hyl) rfl (fun s2 I2 ⟨a, sb, ha⟩ => ?_) (.inr hyl))
  have f1 := f.2.1
  have haC : C ≠ a := by
    rcases ha with z | z
    · exact z ▸ f1
    · exact fun e => f.2.2.2.2.1 y a z e.symm
  refine ⟨m, hn.sameBut sb haC, fun h3 sb3 => ?_⟩
  exact ⟨_, H', I2.turned (t' := s2.toks) (fun b o hb e => (sb3.2 b hb).trans e) f.1 f1 f.2.2.2.1 f.2.2.2.2.1 f.2.2.2.2.2, q⟩
theorem sw_dc {kx vx : Expr} {gs : List Comprehension} {scope : Scope} {pos py : Pos} {y : Str} {l : Nat} {env : Env} (hk : env.scope.kind = .function) (hy : env.scope.names.lookup y = some .local) (hl : (py.line == pos.line) = true)
    (ha : (scope.names.any fun (n, k) => n == y && (k == .local || k == .cell)) = false) : swapsWith (.DictComp kx vx gs scope pos) (some (.Name y py)) l env = pure true :=
  sw_true (elt := kx) (gs := gs) (scope := scope) (pos := pos) (py := py) (y := y) (l := l) (env := env) hk hy hl ha
/-- a walk over a list that stays -/
theorem itl_loop {K : PySem.W.Frag} {a : Addr} {xs : List V} {H0 : Hp} {Qd : Hp → Prop} {body : V → Hp → (Hp → Prop) → Prop} (Pv : Nat → Hp → Prop) (h0 : Pv 0 H0) (hl : ∀ i H, i ≤ xs.length → Pv i H → SqL K H a xs)
    (hs : ∀ i x H, xs[i]? = some x → Pv i H → body x H (Pv (i + 1))) (hd : ∀ H, Pv xs.length H → Qd H) :
    ∃ W : Nat → Nat → Hp → Prop, (∃ m, W 0 m H0) ∧ ∀ i m H, W i m H → ((Itl K a).stop i H ∧ Qd H) ∨ ((Itl K a).go i H ∧ ∃ Nx : Hp → Prop, (∀ H', Nx H' → ∃ m', m' < m ∧ W (i + 1) m' H') ∧ ∀ v H', (Itl K a).yld i H v H' → body v H' Nx) := by
  refine ⟨fun i m H => m = xs.length - i ∧ i ≤ xs.length ∧ Pv i H, ⟨xs.length, by simp, Nat.zero_le _, h0⟩, fun i m H ⟨em, hi, p⟩ => ?_⟩
  subst em
  have q := hl i H hi p
  rcases Nat.lt_or_ge i xs.length with hlt | hge
  · exact .inr ⟨⟨xs, xs[i], q, List.getElem?_eq_getElem hlt⟩, Pv (i + 1), fun H' p' => ⟨xs.length - (i + 1), by omega, rfl, hlt, p'⟩, fun v H' y => by
      obtain ⟨e, y⟩ := y
      rw [e]
      exact hs i v H (y xs q) p⟩
  · have e : i = xs.length := by omega
    exact .inl ⟨⟨xs, q, hge⟩, hd H (e ▸ p)⟩
theorem itt_loop {K : PySem.W.Frag} {a : Addr} {xs : List V} {H0 : Hp} {Qd : Hp → Prop} {body : V → Hp → (Hp → Prop) → Prop} (Pv : Nat → Hp → Prop) (h0 : Pv 0 H0) (hl : ∀ i H, i ≤ xs.length → Pv i H → SqT K H a xs)
    (hs : ∀ i x H, xs[i]? = some x → Pv i H → body x H (Pv (i + 1))) (hd : ∀ H, Pv xs.length H → Qd H) :
    ∃ W : Nat → Nat → Hp → Prop, (∃ m, W 0 m H0) ∧ ∀ i m H, W i m H → ((Itt K a).stop i H ∧ Qd H) ∨ ((Itt K a).go i H ∧ ∃ Nx : Hp → Prop, (∀ H', Nx H' → ∃ m', m' < m ∧ W (i + 1) m' H') ∧ ∀ v H', (Itt K a).yld i H v H' → body v H' Nx) := by
  refine ⟨fun i m H => m = xs.length - i ∧ i ≤ xs.length ∧ Pv i H, ⟨xs.length, by simp, Nat.zero_le _, h0⟩, fun i m H ⟨em, hi, p⟩ => ?_⟩
  subst em
  have q := hl i H hi p
  rcases Nat.lt_or_ge i xs.length with hlt | hge
  · exact .inr ⟨⟨xs, xs[i], q, List.getElem?_eq_getElem hlt⟩, Pv (i + 1), fun H' p' => ⟨xs.length - (i + 1), by omega, rfl, hlt, p'⟩, fun v H' y => by
      obtain ⟨e, y⟩ := y
      rw [e]
      exact hs i v H (y xs q) p⟩
  · have e : i = xs.length := by omega
    exact .inl ⟨⟨xs, q, hge⟩, hd H (e ▸ p)⟩
theorem put_keys {κ : Type} [DecidableEq κ] (kvs : List (κ × V)) (k : κ) (v : V) : (putK kvs k v).map (·.1) = if k ∈ kvs.map (·.1) then kvs.map (·.1) else kvs.map (·.1) ++ [k] := by
  unfold putK
  have e : (kvs.any fun kv => decide (kv.1 = k)) = decide (k ∈ kvs.map (·.1)) := by
    rw [Bool.eq_iff_iff]
    simp only [List.any_eq_true, decide_eq_true_eq, List.mem_map]
  rw [e]
  by_cases h : k ∈ kvs.map (·.1)
  · rw [decide_eq_true h, if_pos rfl, if_pos h, List.map_map]
    refine List.map_congr_left fun p _ => ?_
    show (if p.1 = k then (p.1, v) else p).1 = p.1
    split <;> rfl
  · rw [decide_eq_false h, if_neg Bool.false_ne_true, if_neg h, List.map_append]
    rfl
/-- the dict's keys are the texts so far -/
theorem put_addU {kvs : List (Key × V)} {l : List Str} (h : kvs.map (·.1) = l.map Sum.inr) (x : Str) (v : V) : (putK kvs (Sum.inr x) v).map (·.1) = (addU l x).map Sum.inr := by
  rw [put_keys, h]
  have e : (Sum.inr x : Key) ∈ l.map Sum.inr ↔ x ∈ l := by
    simp
  unfold addU
  by_cases hx : x ∈ l
  · rw [if_pos hx, if_pos (e.mpr hx)]
  · rw [if_neg hx, if_neg fun z => hx (e.mp z), List.map_append]
    rfl
def spRC (K : PySem.W.Frag) : Sp := fun vs H Q _ => ∃ (p : Option Part) (v : V), vs = [v] ∧ CA K H p v ∧ (∀ q, p = some q → q.hgt ≤ 8) ∧
  ∀ (r : Addr) (H' : Hp), H r = none → Same H H' → H' r = some (.lst ((readsC p).map V.str)) → Q (.ref r) H'
end
end U

namespace U
open PySem L2 PyProof.Rows
/-! ### how a content is read: the mirror -/
def isDig (c : Nat) : Bool := decide (48 ≤ c) && decide (c ≤ 57)
def figsL (l : List Nat) : List Nat := match l with
  | 45 :: r => r
  | _ => l
def isNumL (l : List Nat) : Bool := (figsL l).all isDig && (!(figsL l).isEmpty && (decide ((figsL l).length ≤ 6) && (decide (l = [48]) || decide ((figsL l).head? ≠ some 48))))
def valL (l : List Nat) : Int := match l with
  | 45 :: r => -((NumText.digitsVal r : Nat) : Int)
  | _ => ((NumText.digitsVal l : Nat) : Int)
def celOf (l : List Nat) : Cel := match l with
  | [a, b] => ⟨(a - 97) % 6, (b - 49) % 9, Nat.mod_lt _ (by decide), Nat.mod_lt _ (by decide)⟩
  | _ => ⟨0, 0, by decide, by decide⟩
theorem celOf_l (c : Cel) : celOf c.l = c := by
  have h1 := c.hc
  have h2 := c.hr
  cases c with
  | mk a b _ _ =>
    show (⟨(97 + a - 97) % 6, (49 + b - 49) % 9, _, _⟩ : Cel) = _
    congr 1 <;> (simp only at h1 h2; omega)
def addL : List Nat := [97, 100, 100]
def subL : List Nat := [115, 117, 98]
def mulL : List Nat := [109, 117, 108]
def w3of (l : List Nat) : W3 := if l = addL then .add else if l = subL then .sub else .mul
def arity (l : List Nat) : Option Nat := if l = addL ∨ l = subL ∨ l = mulL then some 2 else if l = pickL then some 4 else none
def mkP (w : List Nat) : List Part → Option Part
  | [p, q] => some (.op (w3of w) p q)
  | [p, q, r, t] => some (.pick p q r t)
  | _ => none
abbrev Ws := List (List Nat)
def seqP (f : Ws → Option (Part × Ws)) : Nat → Ws → Option (List Part × Ws)
  | 0, ws => some ([], ws)
  | m + 1, ws => match f ws with
    | none => none
    | some (p, r) => match seqP f m r with
      | none => none
      | some (ps, r') => some (p :: ps, r')
def sumP : Ws → Option (Part × Ws)
  | c :: d :: r => if isCelL c = true ∧ isCelL d = true then some (.sum (celOf c) (celOf d), r) else none
  | _ => none
def pt : Nat → Ws → Option (Part × Ws)
  | 0, _ => none
  | _ + 1, [] => none
  | n + 1, w :: r =>
    if isNumL w = true then some (.num (valL w), r)
    else if isCelL w = true then some (.cel (celOf w), r)
    else if w = sumL then sumP r
    else match arity w with
      | none => none
      | some m => match seqP (pt n) m r with
        | none => none
        | some (ps, r') => match mkP w ps with
          | none => none
          | some p => some (p, r')
def spIsNum : Sp := fun vs H Q _ => ∃ l : List Nat, vs = [.str (SX.S l)] ∧ l.length ≤ 10000000 ∧ Q (.bl (isNumL l)) H
/-- words that may be asked: none longer than ten million signs -/
def okW (W : Ws) : Prop := ∀ w ∈ W, w.length ≤ 10000000
def spPartAt (K : PySem.W.Frag) (CB : Addr) (n : Nat) : Sp := fun vs H Q E => ∃ (a : Addr) (W : Ws) (k : Nat) (d : Int), vs = [.ref a, .int k, .int d] ∧ SqL K H a (svs W) ∧ okW W ∧ k ≤ W.length ∧ (n : Int) + d = 6 ∧
  (∀ p r, pt n (W.drop k) = some (p, r) → ∀ (t : Addr) (v : V) (H' : Hp), Same H H' → PA K H' p v → r.length ≤ W.length → H' t = some (.tup [v, .int ((W.length - r.length : Nat) : Int)]) → r = W.drop (W.length - r.length) → Q (.ref t) H') ∧
  (pt n (W.drop k) = none → ∀ H', Same H H' → E (.ref CB) none H')
def spSumAt (K : PySem.W.Frag) (CB : Addr) : Sp := fun vs H Q E => ∃ (a : Addr) (W : Ws) (k : Nat), vs = [.ref a, .int k] ∧ SqL K H a (svs W) ∧ okW W ∧ k < W.length ∧
  (∀ p r, sumP (W.drop (k + 1)) = some (p, r) → ∀ (t : Addr) (v : V) (H' : Hp), Same H H' → PA K H' p v → r.length ≤ W.length → H' t = some (.tup [v, .int ((W.length - r.length : Nat) : Int)]) → r = W.drop (W.length - r.length) → Q (.ref t) H') ∧
  (sumP (W.drop (k + 1)) = none → ∀ H', Same H H' → E (.ref CB) none H')
def spPartsAt (K : PySem.W.Frag) (CB : Addr) (n : Nat) : Sp := fun vs H Q E => ∃ (a : Addr) (W : Ws) (k : Nat) (d : Int) (w : List Nat) (m : Nat), vs = [.ref a, .int k, .int d] ∧ SqL K H a (svs W) ∧ okW W ∧ k < W.length ∧ W[k]? = some w ∧ arity w = some m ∧ (n : Int) + d + 1 = 6 ∧
  (∀ ps r p, seqP (pt n) m (W.drop (k + 1)) = some (ps, r) → mkP w ps = some p → ∀ (t : Addr) (v : V) (H' : Hp), Same H H' → PA K H' p v → r.length ≤ W.length → H' t = some (.tup [v, .int ((W.length - r.length : Nat) : Int)]) → r = W.drop (W.length - r.length) → Q (.ref t) H') ∧
  (seqP (pt n) m (W.drop (k + 1)) = none → ∀ H', Same H H' → E (.ref CB) none H')
def spPartsX (K : PySem.W.Frag) (CB : Addr) : Nat → Sp
  | 0 => fun _ _ _ _ => False
  | n + 1 => spPartsAt K CB n
/-- the dict PARTS of the module -/
structure PartsF (K : PySem.W.Frag) (w : World) (a : Addr) : Prop where
  dict : ∃ es n, KDict K w a es n
  two : ∀ l, arity l = some 2 → ∃ t, PySem.W.nsIn K a (SX.S l) = some (some (.int 2 t))
  four : ∀ l, arity l = some 4 → ∃ t, PySem.W.nsIn K a (SX.S l) = some (some (.int 4 t))
  no : ∀ l, arity l = none → PySem.W.nsIn K a (SX.S l) = some none
theorem arity_cases (l : List Nat) : arity l = some 2 ∨ arity l = some 4 ∨ arity l = none := by
  unfold arity
  split
  · exact .inl rfl
  · split
    · exact .inr (.inl rfl)
    · exact .inr (.inr rfl)
theorem seqP_len {f : Ws → Option (Part × Ws)} : ∀ {m : Nat} {ws : Ws} {ps : List Part} {r : Ws}, seqP f m ws = some (ps, r) → ps.length = m
  | 0, ws, ps, r, h => by
    cases h
    rfl
  | m + 1, ws, ps, r, h => by
    unfold seqP at h
    split at h
    · cases h
    · split at h
      · cases h
      · cases h
        rename_i q
        simp [seqP_len q]
theorem mkP_some {w : List Nat} {ps : List Part} {m : Nat} (h : arity w = some m) (hl : ps.length = m) : ∃ p, mkP w ps = some p := by
  rcases arity_cases w with e | e | e
  · rw [e] at h
    cases h
    match ps, hl with
    | [p, q], _ => exact ⟨_, rfl⟩
  · rw [e] at h
    cases h
    match ps, hl with
    | [p, q, r, t], _ => exact ⟨_, rfl⟩
  · rw [e] at h
    cases h
theorem mkP_pa {K : PySem.W.Frag} {H : Hp} {w : List Nat} {ps : List Part} {m : Nat} {p : Part} {t : Addr} {xs : List V} (h : arity w = some m) (hl : ps.length = m) (hp : mkP w ps = some p) (ht : SqT K H t (.str (SX.S w) :: xs)) (hx : PAs K H ps xs) : PA K H p (.ref t) := by
  have lx := hx.len
  rcases arity_cases w with e | e | e
  · rw [e] at h
    cases h
    match ps, hl, hp, hx with
    | [p, q], _, hp, hx =>
      cases hp
      match xs, lx, hx with
      | [x, y], _, hx =>
        have ew : (w3of w).s = SX.S w := by
          rw [W3.s_l]
          unfold arity at e
          split at e
          · rename_i z
            unfold w3of
            rcases z with rfl | rfl | rfl
            · rw [if_pos rfl]; rfl
            · rw [if_neg (by decide), if_pos rfl]; rfl
            · rw [if_neg (by decide), if_neg (by decide)]; rfl
          · split at e
            · cases e
            · cases e
        exact ⟨t, x, y, rfl, by rw [ew]; exact ht, hx.1, hx.2.1⟩
  · rw [e] at h
    cases h
    match ps, hl, hp, hx with
    | [p, q, r, u], _, hp, hx =>
      cases hp
      match xs, lx, hx with
      | [x, y, z, a], _, hx =>
        have ew : ("pick" : Str) = SX.S w := by
          rw [pickS]
          unfold arity at e
          split at e
          · cases e
          · split at e
            · rename_i z
              rw [z]
            · cases e
        exact ⟨t, x, y, z, a, rfl, by rw [ew]; exact ht, hx.1, hx.2.1, hx.2.2.1, hx.2.2.2.1⟩
  · rw [e] at h
    cases h
theorem PAs.snoc {K : PySem.W.Frag} {H : Hp} {p : Part} {x : V} : ∀ {ps : List Part} {xs : List V}, PAs K H ps xs → PA K H p x → PAs K H (ps ++ [p]) (xs ++ [x])
  | [], [], _, h => ⟨h, trivial⟩
  | _ :: _, _ :: _, h, q => ⟨h.1, PAs.snoc h.2 q⟩
theorem svs_at {W : Ws} {k : Nat} {w : List Nat} (h : W[k]? = some w) : atI (svs W) (k : Int) = some (.str (SX.S w)) := atI_nat (by unfold svs; rw [List.getElem?_map, h]; rfl)
theorem drop_at {W : Ws} {k : Nat} (h : k < W.length) : ∃ w, W[k]? = some w ∧ W.drop k = w :: W.drop (k + 1) := ⟨W[k], List.getElem?_eq_getElem h, List.drop_eq_getElem_cons h⟩
/-! ### numbers as texts -/
theorem minusS : ("-" : Str) = SX.S [45] := by decide +kernel
theorem figsL_neg (r : List Nat) : figsL (45 :: r) = r := rfl
theorem figsL_ne {c : Nat} (r : List Nat) (h : c ≠ 45) : figsL (c :: r) = c :: r := by
  unfold figsL
  split
  · rename_i e
    cases e
    exact absurd rfl h
  · rfl
theorem rp_minus (l : List Nat) : Txt.removeprefix (SX.S l) "-" = SX.S (figsL l) := by
  rw [minusS]
  unfold Txt.removeprefix
  rw [StrLaws.subAt_eq]
  have e0 : (SX.S l).cps.toList = l := rfl
  have e1 : (SX.S [45]).cps.toList = [45] := rfl
  have e2 : (SX.S [45]).length = 1 := rfl
  rw [e0, e1, e2, List.drop_zero]
  cases l with
  | nil => rfl
  | cons c r =>
    by_cases h : c = 45
    · subst h
      have e3 : (List.take 1 (45 :: r) == [45]) = true := by simp
      rw [e3, if_pos rfl]
      unfold Txt.affix
      rw [S_length]
      have e4 : ((45 :: r).length - 1 == (45 :: r).length) = false := by simp
      simp only [e4, Bool.false_eq_true, if_false]
      refine TL.ext_tl ?_
      show (Builtin.Str.strSub (SX.S (45 :: r)) 1 (45 :: r).length).cps.toList = r
      rw [StrLaws.strSub_toList, e0]
      simp
    · have e3 : (List.take 1 (c :: r) == [45]) = false := by
        simp [h]
      rw [e3, if_neg Bool.false_ne_true, figsL_ne r h]
      rfl
theorem dig_ascii : ∀ {c : Nat}, c < 128 → Unicode.isDigit c = isDig c := by decide +kernel
theorem num_ok (f : List Nat) : (Txt.isascii (SX.S f) && Txt.isdigit (SX.S f)) = (f.all isDig && !f.isEmpty) := by
  have e1 : Txt.isascii (SX.S f) = f.all (fun c => decide (c < 128)) := by
    unfold Txt.isascii SX.S
    simp
  have e2 : Txt.isdigit (SX.S f) = (!f.isEmpty && f.all Unicode.isDigit) := by
    unfold Txt.isdigit
    rw [S_length]
    have e : (SX.S f).cps.all Unicode.isDigit = f.all Unicode.isDigit := by unfold SX.S; simp
    rw [e]
    cases f <;> simp
  rw [e1, e2, Bool.eq_iff_iff]
  simp only [Bool.and_eq_true, List.all_eq_true, decide_eq_true_eq]
  constructor
  · rintro ⟨h1, h2, h3⟩
    exact ⟨fun c hc => (dig_ascii (h1 c hc)) ▸ h3 c hc, h2⟩
  · rintro ⟨h1, h2⟩
    have lt : ∀ c ∈ f, c < 128 := fun c hc => by
      have := h1 c hc
      simp only [isDig, Bool.and_eq_true, decide_eq_true_eq] at this
      omega
    exact ⟨lt, h2, fun c hc => (dig_ascii (lt c hc)).symm ▸ h1 c hc⟩
theorem zeroS : ("0" : Str) = SX.S [48] := by decide +kernel
theorem isNumL_len {l : List Nat} (h : isNumL l = true) : l.length ≤ 7 := by
  unfold isNumL at h
  simp only [Bool.and_eq_true, decide_eq_true_eq] at h
  have := h.2.2.1
  cases l with
  | nil => simp
  | cons c r =>
    by_cases e : c = 45
    · subst e
      rw [figsL_neg] at this
      simp only [List.length_cons]
      omega
    · rw [figsL_ne r e] at this
      omega
theorem isNumL_val {l : List Nat} (h : isNumL l = true) : PySem.intText? (SX.S l) = some (valL l) := by
  have hl := isNumL_len h
  unfold isNumL at h
  simp only [Bool.and_eq_true, decide_eq_true_eq, List.all_eq_true, Bool.not_eq_true', List.isEmpty_eq_false_iff] at h
  obtain ⟨h1, h2, _, _⟩ := h
  have dig : ∀ c ∈ figsL l, 48 ≤ c ∧ c ≤ 57 := fun c hc => by
    have := h1 c hc
    simpa [isDig] using this
  cases l with
  | nil => exact absurd rfl h2
  | cons c r =>
    by_cases e : c = 45
    · subst e
      rw [figsL_neg] at dig h2
      exact PySem.intText_neg (x := SX.S (45 :: r)) rfl dig h2 (by rw [S_length]; omega)
    · rw [figsL_ne r e] at dig h2
      have q := PySem.intText_digits (x := SX.S (c :: r)) dig h2 (by rw [S_length]; omega)
      rw [q]
      unfold valL
      split
      · rename_i z
        cases z
        exact absurd rfl e
      · rfl
theorem cut_nat (l : List V) (i j : Nat) : cutV l (some (i : Int)) (some (j : Int)) = (l.drop i).take (j - i) := by
  unfold cutV
  rw [HT.sIx_nat, HT.sIx_nat]
  by_cases h : i ≤ l.length
  · rw [Nat.min_eq_left h, List.take_eq_take_iff, List.length_drop]
    omega
  · rw [List.drop_eq_nil_of_le (by omega), List.drop_eq_nil_of_le (by omega)]
    simp
theorem cut_from (l : List V) (i : Nat) : cutV l (some (i : Int)) none = l.drop i := by
  unfold cutV
  rw [HT.sIx_nat, HT.sIx_none]
  by_cases h : i ≤ l.length
  · rw [Nat.min_eq_left h, List.take_of_length_le]
    rw [List.length_drop]
    omega
  · rw [List.drop_eq_nil_of_le (by omega), List.drop_eq_nil_of_le (by omega)]
    simp
theorem cut_to (l : List V) (j : Nat) : cutV l none (some (j : Int)) = l.take j := by
  unfold cutV
  rw [HT.sIx_nat, HT.sIx_none, List.drop_zero, List.take_eq_take_iff]
  omega
theorem cut_two (l : List V) (k : Nat) : cutV l (some ((k : Int) + 1)) (some ((k : Int) + 3)) = (l.drop (k + 1)).take 2 := by
  have q := cut_nat l (k + 1) (k + 3)
  have e : k + 3 - (k + 1) = 2 := by omega
  rw [e] at q
  exact q
theorem svs_drop (W : Ws) (k : Nat) : (svs W).drop k = svs (W.drop k) := by unfold svs; rw [List.map_drop]
theorem okW_drop {W : Ws} (h : okW W) (k : Nat) : okW (W.drop k) := fun w hw => h w (List.mem_of_mem_drop hw)
theorem celOf_of {l : List Nat} (h : isCelL l = true) : SX.S l = (celOf l).s := by
  obtain ⟨c, rfl⟩ := isCelL_iff h
  rw [celOf_l]
  rfl
theorem drop_back {W r : Ws} {k j : Nat} (h : W.drop k = r) (hk : k ≤ W.length) : r = W.drop (W.length - r.length) := by
  have e : r.length = W.length - k := by rw [← h, List.length_drop]
  have e2 : W.length - r.length = k := by omega
  rw [e2, h]
theorem seqP_some {f : Ws → Option (Part × Ws)} {m : Nat} {ws r : Ws} {p : Part} (h : f ws = some (p, r)) : seqP f (m + 1) ws = (match seqP f m r with | none => none | some (ps, r') => some (p :: ps, r')) := by
  rw [seqP, h]
theorem seqP_no {f : Ws → Option (Part × Ws)} {m : Nat} {ws : Ws} (h : f ws = none) : seqP f (m + 1) ws = none := by
  rw [seqP, h]
/-- the keys of a written dict, as texts -/
def dictKeys (es : Array DictEntry) : List Str := es.toList.filterMap fun e => match e.key with
  | .str x _ => some x
  | _ => none
theorem nsIn_none {K : PySem.W.Frag} {w : World} {a : Addr} {es : Array DictEntry} {n : Nat} (h : K.lookup a = some ⟨.type "dict", none, .dict es n, #[]⟩) (lit : PySem.W.KeysLit w.params es.toList) {ks : List Str} (hk : dictKeys es = ks) {z : Str} (hz : z ∉ ks) : PySem.W.nsIn K a z = some none := by
  have key : ∀ e ∈ es.toList, e.key.isStr z = false ∧ e.refKey = false := fun e he => by
    obtain ⟨x, t, ex, _⟩ := lit.all e he
    have mem : x ∈ ks := by
      rw [← hk]
      unfold dictKeys
      rw [List.mem_filterMap]
      exact ⟨e, he, by rw [ex]⟩
    constructor
    · rw [ex]
      cases q : (Value.str x t).isStr z with
      | false => rfl
      | true =>
        rw [PySem.W.isStr_of] at q
        obtain ⟨u, eu⟩ := Value.isStrOf_shape q
        cases eu
        exact absurd mem hz
    · unfold DictEntry.refKey
      rw [ex]
  unfold PySem.W.nsIn
  rw [h]
  simp only
  have f1 : es.toList.find? (fun e => e.key.isStr z) = none := List.find?_eq_none.mpr fun e he => by
    rw [(key e he).1]
    exact Bool.false_ne_true
  have f2 : es.toList.any (fun e => e.refKey) = false := List.any_eq_false.mpr fun e he => by
    rw [(key e he).2]
    exact Bool.false_ne_true
  rw [f1, f2]
  rfl
theorem partsF_mk {K : PySem.W.Frag} {w : World} {a : Addr} {es : Array DictEntry} {n : Nat} {t0 t1 t2 t3 : Tok} (h : K.lookup a = some ⟨.type "dict", none, .dict es n, #[]⟩) (lit : PySem.W.KeysLit w.params es.toList) (low : (a == sysModules) = false)
    (hk : dictKeys es = ([("add" : Str), "sub", "mul", "pick"] : List Str)) (v0 : PySem.W.nsIn K a "add" = some (some (.int 2 t0))) (v1 : PySem.W.nsIn K a "sub" = some (some (.int 2 t1))) (v2 : PySem.W.nsIn K a "mul" = some (some (.int 2 t2))) (v3 : PySem.W.nsIn K a "pick" = some (some (.int 4 t3))) : PartsF K w a := by
  have ea : ("add" : Str) = SX.S addL := by decide +kernel
  have es' : ("sub" : Str) = SX.S subL := by decide +kernel
  have em : ("mul" : Str) = SX.S mulL := by decide +kernel
  refine ⟨⟨es, n, h, lit, low⟩, fun l e => ?_, fun l e => ?_, fun l e => ?_⟩
  · unfold arity at e
    split at e
    · rename_i z
      rcases z with rfl | rfl | rfl
      · exact ⟨_, ea ▸ v0⟩
      · exact ⟨_, es' ▸ v1⟩
      · exact ⟨_, em ▸ v2⟩
    · split at e <;> cases e
  · unfold arity at e
    split at e
    · cases e
    · split at e
      · rename_i z
        rw [z]
        exact ⟨_, pickS ▸ v3⟩
      · cases e
  · refine nsIn_none h lit hk ?_
    unfold arity at e
    split at e
    · cases e
    · rename_i z1
      split at e
      · cases e
      · rename_i z2
        rw [ea, es', em, pickS]
        intro q
        simp only [List.mem_cons, List.not_mem_nil, or_false] at q
        rcases q with q | q | q | q
        · exact z1 (.inl (SX.S_inj q))
        · exact z1 (.inr (.inl (SX.S_inj q)))
        · exact z1 (.inr (.inr (SX.S_inj q)))
        · exact z2 (SX.S_inj q)
end U

namespace U
open PySem L2 PyProof.Rows
/-! ### a text is read: the mirror -/
def wsL (l : List Nat) : Ws := TL.spl [32] 0 [] l
def rd (l : List Nat) : Option (Option Part) :=
  if l = [] then some none
  else if isNumL l = true then some (some (.num (valL l)))
  else if (wsL l).head? ≠ some [61] then none
  else match pt 5 ((wsL l).drop 1) with
    | some (p, []) => if p.isNum = true then none else some (some p)
    | _ => none
theorem pre1 (c : Nat) (r : List Nat) : TL.pre [32] (c :: r) = decide (c = 32) := by
  unfold TL.pre
  by_cases h : c = 32
  · subst h; simp
  · simp [h]
theorem spl_len : ∀ (l acc w : List Nat), w ∈ TL.spl [32] 0 acc l → w.length ≤ acc.length + l.length
  | [], acc, w, h => by
    rw [TL.spl_nil] at h
    simp at h
    rw [h]
    simp
  | c :: r, acc, w, h => by
    by_cases e : c = 32
    · rw [TL.spl_hit (by rw [pre1, e]; rfl)] at h
      rcases List.mem_cons.mp h with q | q
      · rw [q]; simp
      · have := spl_len r [] w q
        simp only [List.length_nil, List.length_cons] at this ⊢
        omega
    · rw [TL.spl_miss (by rw [pre1]; exact decide_eq_false e)] at h
      have := spl_len r (acc ++ [c]) w h
      simp only [List.length_append, List.length_cons, List.length_nil] at this ⊢
      omega
theorem spl_ne (l acc : List Nat) : TL.spl [32] 0 acc l ≠ [] := by
  induction l generalizing acc with
  | nil => rw [TL.spl_nil]; simp
  | cons c r ih =>
    by_cases e : c = 32
    · rw [TL.spl_hit (by rw [pre1, e]; rfl)]; simp
    · rw [TL.spl_miss (by rw [pre1]; exact decide_eq_false e)]; exact ih _
theorem split_ws (l : List Nat) : Txt.split (SX.S l) " " = (wsL l).map SX.S := by
  rw [blank_eq]
  exact SX.split_S (by simp) (by decide)
theorem okW_ws {l : List Nat} (h : l.length ≤ 10000000) : okW (wsL l) := fun w hw => by
  have := spl_len l [] w hw
  simp only [List.length_nil] at this
  omega
def spRead (K : PySem.W.Frag) (CB : Addr) : Sp := fun vs H Q E => ∃ l : List Nat, vs = [.str (SX.S l)] ∧ l.length ≤ 10000000 ∧
  (∀ o, rd l = some o → ∀ (v : V) (H' : Hp), Same H H' → CA K H' o v → Q v H') ∧ (rd l = none → ∀ H', Same H H' → E (.ref CB) none H')
/-! ### what is written is read to the same -/
theorem numL_head {n : Nat} (h : n ≠ 0) : (TL.numL n).head? ≠ some 48 := by
  induction n using Nat.strongRecOn with
  | _ n ih =>
    by_cases hn : n < 10
    · rw [TL.numL_lt hn]
      simp
      omega
    · rw [TL.numL_step (by omega)]
      have := ih (n / 10) (by omega) (by omega)
      have ne := TL.numL_ne (n / 10)
      cases q : TL.numL (n / 10) with
      | nil => exact absurd q ne
      | cons c r =>
        rw [q] at this
        simpa using this
theorem numL_dig (n : Nat) : (TL.numL n).all isDig = true := by
  rw [List.all_eq_true]
  intro c hc
  have := TL.numL_digits n c hc
  simp [isDig, this]
theorem numL_not45 (n : Nat) : figsL (TL.numL n) = TL.numL n := by
  cases q : TL.numL n with
  | nil => rfl
  | cons c r =>
    refine figsL_ne r fun e => ?_
    have := TL.numL_free (n := n) (s := 45) (by omega)
    rw [q, e] at this
    exact this (by simp)
theorem isNumL_nl {n : Int} (h0 : -1000000 < n) (h1 : n < 1000000) : isNumL (nl n) = true := by
  cases n with
  | ofNat n =>
    have l6 := TL.numL_len (n := n) (k := 6) (by decide) (by simp only [Int.ofNat_eq_natCast] at h1; omega)
    show isNumL (TL.numL n) = true
    unfold isNumL
    rw [numL_not45, numL_dig, decide_eq_true l6]
    have ne := TL.numL_ne n
    simp only [Bool.true_and, Bool.and_eq_true, Bool.not_eq_true', List.isEmpty_eq_false_iff, Bool.or_eq_true, decide_eq_true_eq]
    refine ⟨ne, ?_⟩
    by_cases z : n = 0
    · left; rw [z, TL.numL_lt (by decide)]
    · right; exact numL_head z
  | negSucc n =>
    have l6 := TL.numL_len (n := n + 1) (k := 6) (by decide) (by omega)
    show isNumL (45 :: TL.numL (n + 1)) = true
    unfold isNumL
    rw [figsL_neg, numL_dig, decide_eq_true l6]
    have ne := TL.numL_ne (n + 1)
    simp only [Bool.true_and, Bool.and_eq_true, Bool.not_eq_true', List.isEmpty_eq_false_iff, Bool.or_eq_true, decide_eq_true_eq]
    exact ⟨ne, .inr (numL_head (by omega))⟩
theorem valL_nl (n : Int) : valL (nl n) = n := by
  cases n with
  | ofNat n =>
    show valL (TL.numL n) = _
    have e : valL (TL.numL n) = ((NumText.digitsVal (TL.numL n) : Nat) : Int) := by
      unfold valL
      split
      · rename_i q
        have := TL.numL_free (n := n) (s := 45) (by omega)
        rw [q] at this
        exact absurd (by simp) this
      · rfl
    rw [e, TL.numL_val]
    rfl
  | negSucc n =>
    show -((NumText.digitsVal (TL.numL (n + 1)) : Nat) : Int) = _
    rw [TL.numL_val]
    omega
theorem notNum {c : Nat} (r : List Nat) (h : c ≠ 45) (h2 : c < 48 ∨ 57 < c) : isNumL (c :: r) = false := by
  unfold isNumL
  rw [figsL_ne r h]
  have e : isDig c = false := by
    simp [isDig]
    omega
  simp [e]
theorem cel_notNum (c : Cel) : isNumL c.l = false := by
  have := c.hc
  exact notNum _ (by omega) (by omega)
theorem nl_notCel (n : Int) : isCelL (nl n) = false := by
  have key : ∀ m : Nat, ∀ c ∈ TL.numL m, 48 ≤ c ∧ c ≤ 57 := fun m => TL.numL_digits m
  cases h : isCelL (nl n) with
  | false => rfl
  | true =>
    obtain ⟨x, e⟩ := isCelL_iff h
    have hx := x.hc
    cases n with
    | ofNat n =>
      have := key n (97 + x.c) (by show _ ∈ nl (Int.ofNat n); rw [e]; simp [Cel.l])
      omega
    | negSucc n =>
      have e : (45 :: TL.numL (n + 1)) = [97 + x.c, 49 + x.r] := e
      simp at e
      omega
theorem w3_facts (w : W3) : isNumL w.l = false ∧ isCelL w.l = false ∧ w.l ≠ sumL ∧ arity w.l = some 2 ∧ w3of w.l = w := by
  cases w <;> refine ⟨by decide, by decide, by decide, by decide, by decide⟩
theorem pick_facts : isNumL pickL = false ∧ isCelL pickL = false ∧ pickL ≠ sumL ∧ arity pickL = some 4 := ⟨by decide, by decide, by decide, by decide⟩
theorem pt_word {n : Nat} {w : List Nat} {r : Ws} (h1 : isNumL w = false) (h2 : isCelL w = false) (h3 : w ≠ sumL) {m : Nat} (h4 : arity w = some m) {ps : List Part} {r' : Ws} (h5 : seqP (pt n) m r = some (ps, r')) {p : Part} (h6 : mkP w ps = some p) :
    pt (n + 1) (w :: r) = some (p, r') := by
  show (if isNumL w = true then _ else if isCelL w = true then _ else if w = sumL then _ else _) = _
  rw [h1, h2, if_neg Bool.false_ne_true, if_neg Bool.false_ne_true, if_neg h3, h4]
  simp only [h5, h6]
theorem pt_wl : ∀ (p : Part) (n : Nat) (r : Ws), p.good → p.hgt ≤ n → pt n (p.wl ++ r) = some (p, r)
  | .num m, n, r, g, h => by
    obtain ⟨k, rfl⟩ : ∃ k, n = k + 1 := ⟨n - 1, by have : 1 ≤ n := h; omega⟩
    show (if isNumL (nl m) = true then _ else _) = _
    rw [if_pos (isNumL_nl g.1 g.2), valL_nl]
    rfl
  | .cel c, n, r, g, h => by
    obtain ⟨k, rfl⟩ : ∃ k, n = k + 1 := ⟨n - 1, by have : 1 ≤ n := h; omega⟩
    show (if isNumL c.l = true then _ else if isCelL c.l = true then _ else _) = _
    rw [if_neg (by rw [cel_notNum]; exact Bool.false_ne_true), if_pos (isCelL_cel c), celOf_l]
    rfl
  | .sum c d, n, r, g, h => by
    obtain ⟨k, rfl⟩ : ∃ k, n = k + 1 := ⟨n - 1, by have : 1 ≤ n := h; omega⟩
    show (if isNumL sumL = true then _ else if isCelL sumL = true then _ else if sumL = sumL then sumP (c.l :: d.l :: r) else _) = _
    rw [if_neg (by decide), if_neg (by decide), if_pos rfl]
    show (if isCelL c.l = true ∧ isCelL d.l = true then some (Part.sum (celOf c.l) (celOf d.l), r) else none) = _
    rw [if_pos ⟨isCelL_cel c, isCelL_cel d⟩, celOf_l, celOf_l]
  | .op w p q, n, r, g, h => by
    obtain ⟨k, rfl⟩ : ∃ k, n = k + 1 := ⟨n - 1, by have : max p.hgt q.hgt + 1 ≤ n := h; omega⟩
    have h : max p.hgt q.hgt + 1 ≤ k + 1 := h
    obtain ⟨f1, f2, f3, f4, f5⟩ := w3_facts w
    have e1 := pt_wl p k (q.wl ++ r) g.1 (by omega)
    have e2 := pt_wl q k r g.2 (by omega)
    show pt (k + 1) (w.l :: ((p.wl ++ q.wl) ++ r)) = _
    rw [List.append_assoc]
    refine pt_word f1 f2 f3 f4 (ps := [p, q]) (by rw [seqP_some e1, seqP_some e2]; rfl) ?_
    show some (Part.op (w3of w.l) p q) = _
    rw [f5]
  | .pick p q s t, n, r, g, h => by
    obtain ⟨k, rfl⟩ : ∃ k, n = k + 1 := ⟨n - 1, by have : max (max p.hgt q.hgt) (max s.hgt t.hgt) + 1 ≤ n := h; omega⟩
    have h : max (max p.hgt q.hgt) (max s.hgt t.hgt) + 1 ≤ k + 1 := h
    obtain ⟨f1, f2, f3, f4⟩ := pick_facts
    have e1 := pt_wl p k (q.wl ++ (s.wl ++ (t.wl ++ r))) g.1 (by omega)
    have e2 := pt_wl q k (s.wl ++ (t.wl ++ r)) g.2.1 (by omega)
    have e3 := pt_wl s k (t.wl ++ r) g.2.2.1 (by omega)
    have e4 := pt_wl t k r g.2.2.2 (by omega)
    show pt (k + 1) (pickL :: ((p.wl ++ (q.wl ++ (s.wl ++ t.wl))) ++ r)) = _
    simp only [List.append_assoc]
    exact pt_word f1 f2 f3 f4 (ps := [p, q, s, t]) (by rw [seqP_some e1, seqP_some e2, seqP_some e3, seqP_some e4]; rfl) rfl
theorem wl_free : ∀ (p : Part), ∀ w ∈ p.wl, 32 ∉ w
  | .num n, w, h => by
    simp only [Part.wl, List.mem_singleton] at h
    rw [h]
    exact nl_free (by omega)
  | .cel c, w, h => by
    simp only [Part.wl, List.mem_singleton] at h
    rw [h]
    simp [Cel.l]
    omega
  | .sum c d, w, h => by
    simp only [Part.wl, List.mem_cons, List.not_mem_nil, or_false] at h
    rcases h with rfl | rfl | rfl
    · decide
    · simp [Cel.l]; omega
    · simp [Cel.l]; omega
  | .op o p q, w, h => by
    simp only [Part.wl, List.mem_cons, List.mem_append] at h
    rcases h with rfl | h | h
    · cases o <;> decide
    · exact wl_free p w h
    · exact wl_free q w h
  | .pick p q r t, w, h => by
    simp only [Part.wl, List.mem_cons, List.mem_append] at h
    rcases h with rfl | h | h | h | h
    · decide
    · exact wl_free p w h
    · exact wl_free q w h
    · exact wl_free r w h
    · exact wl_free t w h
theorem rd_ctx : ∀ {o : Option Part}, goodC o 5 → rd (ctx o) = some o
  | none, _ => rfl
  | some p, g => by
    by_cases hp : p.isNum = true
    · cases p with
      | num n =>
        show rd (nl n) = _
        unfold rd
        rw [if_neg (nl_ne n), if_pos (isNumL_nl g.1.1 g.1.2), valL_nl]
      | _ => exact absurd hp Bool.false_ne_true
    · have hp : p.isNum = false := Bool.eq_false_iff.mpr hp
      rw [ctx_not hp]
      have ej : [61, 32] ++ p.tx = TL.joinL [32] ([61] :: p.wl) := by
        have := joinL_app (s := [32]) (xs := [[61]]) (ys := p.wl) (by simp) p.wl_ne
        show [61, 32] ++ TL.joinL [32] p.wl = TL.joinL [32] ([[61]] ++ p.wl)
        rw [this]
        rfl
      have ew : wsL ([61, 32] ++ p.tx) = [61] :: p.wl := by
        rw [ej]
        refine TL.spl_join (by simp) fun w hw => ?_
        rcases List.mem_cons.mp hw with rfl | hw
        · decide
        · exact wl_free p w hw
      unfold rd
      rw [if_neg (by simp), if_neg (by rw [show [61, 32] ++ p.tx = 61 :: (32 :: p.tx) from rfl, notNum _ (by decide) (by decide)]; exact Bool.false_ne_true), ew, if_neg (by simp)]
      have e5 := pt_wl p 5 [] g.1 g.2
      rw [List.append_nil] at e5
      show (match pt 5 p.wl with | some (p, []) => if p.isNum = true then none else some (some p) | _ => none) = _
      rw [e5]
      simp [hp]
theorem str_cat_len (a b : Str) : (a ++ b).length = a.length + b.length := by
  show (a.cps ++ b.cps).size = _
  rw [Array.size_append]
  rfl
/-! ### contents as data -/
def Part.data : Part → PyData
  | .num n => .tuple [.str "num", .int n]
  | .cel c => .tuple [.str "cell", .str c.s]
  | .sum c d => .tuple [.str "sum", .str c.s, .str d.s]
  | .op w p q => .tuple [.str w.s, p.data, q.data]
  | .pick p q r t => .tuple [.str "pick", p.data, q.data, r.data, t.data]
theorem PA.dp {K : PySem.W.Frag} {H : Hp} : ∀ {p : Part} {v : V}, PA K H p v → Dp K H v p.data
  | .num n, v, ⟨a, e, h⟩ => e ▸ .tup h (.cons (.str _) (.cons (.int _) .nil))
  | .cel c, v, ⟨a, e, h⟩ => e ▸ .tup h (.cons (.str _) (.cons (.str _) .nil))
  | .sum c d, v, ⟨a, e, h⟩ => e ▸ .tup h (.cons (.str _) (.cons (.str _) (.cons (.str _) .nil)))
  | .op w p q, v, ⟨a, x, y, e, h, h1, h2⟩ => e ▸ .tup h (.cons (.str _) (.cons (PA.dp h1) (.cons (PA.dp h2) .nil)))
  | .pick p q r s, v, ⟨a, x, y, z, u, e, h, h1, h2, h3, h4⟩ => e ▸ .tup h (.cons (.str _) (.cons (PA.dp h1) (.cons (PA.dp h2) (.cons (PA.dp h3) (.cons (PA.dp h4) .nil)))))
theorem Part.data_depth : ∀ p : Part, PyData.depth p.data ≤ p.hgt
  | .num n => by simp [Part.data, Part.hgt, PyData.depth, PyData.depthAll]
  | .cel c => by simp [Part.data, Part.hgt, PyData.depth, PyData.depthAll]
  | .sum c d => by simp [Part.data, Part.hgt, PyData.depth, PyData.depthAll]
  | .op w p q => by
    have h1 := Part.data_depth p
    have h2 := Part.data_depth q
    simp only [Part.data, Part.hgt, PyData.depth, PyData.depthAll]
    omega
  | .pick p q r t => by
    have h1 := Part.data_depth p
    have h2 := Part.data_depth q
    have h3 := Part.data_depth r
    have h4 := Part.data_depth t
    simp only [Part.data, Part.hgt, PyData.depth, PyData.depthAll]
    omega
theorem Part.data_sz : ∀ p : Part, szOk p.data = true
  | .num n => by simp [Part.data, szOk, szAll]
  | .cel c => by simp [Part.data, szOk, szAll]
  | .sum c d => by simp [Part.data, szOk, szAll]
  | .op w p q => by simp [Part.data, szOk, szAll, Part.data_sz p, Part.data_sz q]
  | .pick p q r t => by simp [Part.data, szOk, szAll, Part.data_sz p, Part.data_sz q, Part.data_sz r, Part.data_sz t]
theorem dp_strs (K : PySem.W.Frag) (H : Hp) : ∀ l : List Str, DpAll K H (l.map V.str) (l.map PyData.str)
  | [] => .nil
  | x :: r => .cons (.str x) (dp_strs K H r)
theorem depth_strs : ∀ l : List Str, PyData.depthAll (l.map PyData.str) = 0
  | [] => by simp [PyData.depthAll]
  | x :: r => by simp [PyData.depthAll, PyData.depth, depth_strs r]
theorem sz_strs : ∀ l : List Str, szAll (l.map PyData.str) = true
  | [] => by simp [szAll]
  | x :: r => by simp [szAll, szOk, sz_strs r]
theorem dp_strl {K : PySem.W.Frag} {H : Hp} {r : Addr} {l : List Str} (h : H r = some (.lst (l.map V.str))) : Dp K H (.ref r) (.list (l.map PyData.str)) := .lst (SqL.of h) (dp_strs K H l)
theorem strl_ok {l : List Str} (h : l.length ≤ 1000000) : szOk (.list (l.map PyData.str)) = true := by
  simp [szOk, sz_strs, h]
/-- every text that a content reads is a cell: at most 54 of them -/
theorem cells_mem : ∀ (p : Part) (z : Str), z ∈ p.cells → ∃ c : Cel, z = c.s
  | .num n, z, h => by simp [Part.cells] at h
  | .cel c, z, h => by
    simp [Part.cells] at h
    exact ⟨c, h⟩
  | .sum c d, z, h => by
    obtain ⟨k, r, h1, h2, h3, h4, e⟩ := rowsL_mem.mp h
    have := c.hc
    have := d.hc
    have := c.hr
    have := d.hr
    exact ⟨⟨k, r, by omega, by omega⟩, e⟩
  | .op w p q, z, h => by
    rcases List.mem_append.mp h with h | h
    · exact cells_mem p z h
    · exact cells_mem q z h
  | .pick p q r t, z, h => by
    rcases List.mem_append.mp h with h | h
    · exact cells_mem p z h
    rcases List.mem_append.mp h with h | h
    · exact cells_mem q z h
    rcases List.mem_append.mp h with h | h
    · exact cells_mem r z h
    · exact cells_mem t z h
theorem foldU_nodup : ∀ (l acc : List Str), acc.Nodup → (l.foldl addU acc).Nodup
  | [], acc, h => h
  | x :: r, acc, h => by
    refine foldU_nodup r (addU acc x) ?_
    unfold addU
    split
    · exact h
    · rename_i q
      rw [List.nodup_append]
      refine ⟨h, by simp, ?_⟩
      rintro a ha b hb rfl
      simp at hb
      exact q (hb ▸ ha)
theorem reads_nodup (p : Part) : p.reads.Nodup := foldU_nodup _ _ List.nodup_nil
theorem reads_cel {p : Part} {z : Str} (h : z ∈ p.reads) : ∃ c : Cel, z = c.s := by
  have q := mem_foldU.mp h
  simp at q
  exact cells_mem p z q
def celNo (z : Str) : Nat := (z.cps.getD 0 0 - 97) * 9 + (z.cps.getD 1 0 - 49)
theorem celNo_s (c : Cel) : celNo c.s = c.c * 9 + c.r := by
  show (97 + c.c - 97) * 9 + (49 + c.r - 49) = _
  omega
theorem cels_54 {l : List Str} (nd : l.Nodup) (h : ∀ z ∈ l, ∃ c : Cel, z = c.s) : l.length ≤ 54 := by
  have nd2 : (l.map celNo).Nodup := by
    show (l.map celNo).Pairwise (· ≠ ·)
    rw [List.pairwise_map]
    refine List.Pairwise.imp_of_mem (fun {a b} ha hb hab e => ?_) nd
    obtain ⟨c, rfl⟩ := h a ha
    obtain ⟨d, rfl⟩ := h b hb
    rw [celNo_s, celNo_s] at e
    have h1 := c.hr
    have h2 := d.hr
    refine hab ?_
    unfold Cel.s Cel.l
    rw [show c.c = d.c by omega, show c.r = d.r by omega]
  have sub : l.map celNo ⊆ List.range 54 := by
    intro x hx
    obtain ⟨z, hz, rfl⟩ := List.mem_map.mp hx
    obtain ⟨c, rfl⟩ := h z hz
    rw [celNo_s, List.mem_range]
    have h1 := c.hc
    have h2 := c.hr
    omega
  have := nd2.length_le_of_subset sub
  simpa using this
theorem reads_54 (p : Part) : p.reads.length ≤ 54 := cels_54 (reads_nodup p) fun z h => reads_cel h
theorem readsC_54 (p : Option Part) : (readsC p).length ≤ 54 := by
  cases p with
  | none => simp [readsC]
  | some p => exact reads_54 p
theorem tx_le5 {p : Part} (h : p.good) (n : p.hgt ≤ 8) : (ctx (some p)).length ≤ 800000 := by
  cases p with
  | num m =>
    have := nl_len h.1 h.2
    show (nl m).length ≤ _
    omega
  | _ =>
    have := Part.tx_le h n
    rw [ctx_not rfl]
    simp only [List.length_append, List.length_cons, List.length_nil]
    omega
theorem ctx_le {o : Option Part} (h : goodC o 8) : (ctx o).length ≤ 800000 := by
  cases o with
  | none => simp [ctx]
  | some p => exact tx_le5 h.1 h.2
theorem goodC_mono {o : Option Part} {m n : Nat} (h : goodC o m) (l : m ≤ n) : goodC o n := by
  cases o with
  | none => trivial
  | some p => exact ⟨h.1, Nat.le_trans h.2 l⟩
/-- what law(script) promises: for a list of at most 63 ints the answer is True -/
def spLaw (K : PySem.W.Frag) : Sp := fun vs H Q _ => ∃ (a : Addr) (ns : List Int), vs = [.ref a] ∧ SqL K H a (ns.map V.int) ∧ ns.length ≤ 63 ∧ ∀ H', Q (.bl true) H'
end U

namespace U
open PySem L2 PyProof.Rows
/-! ### what is read is written just so -/
theorem ofNat_toNat {c : Nat} (h : c < 58) : (Char.ofNat c).toNat = c := by
  have : ∀ c : Nat, c < 58 → (Char.ofNat c).toNat = c := by decide
  exact this c h
theorem numL_back {f : List Nat} (hd : ∀ c ∈ f, 48 ≤ c ∧ c ≤ 57) (h0 : f ≠ []) (h : f = [48] ∨ f.head? ≠ some 48) : TL.numL (NumText.digitsVal f) = f := by
  obtain ⟨n, hn⟩ : ∃ n, f.length = n + 1 := ⟨f.length - 1, by have := List.length_pos_iff.mpr h0; omega⟩
  have q := NumText.toDigits_digitsVal n f hn hd (by
    rcases h with rfl | h
    · left; simp at hn; omega
    · right
      cases f with
      | nil => exact absurd rfl h0
      | cons c r =>
        refine ⟨c, r, rfl, ?_⟩
        have := hd c (by simp)
        simp at h
        omega)
  unfold TL.numL
  rw [q, List.map_map]
  have : ∀ l : List Nat, (∀ c ∈ l, 48 ≤ c ∧ c ≤ 57) → l.map (Char.toNat ∘ Char.ofNat) = l := by
    intro l
    induction l with
    | nil => intro _; rfl
    | cons c r ih =>
      intro h
      have hc := h c (by simp)
      rw [List.map_cons, ih fun d hm => h d (by simp [hm])]
      show (Char.ofNat c).toNat :: r = _
      rw [ofNat_toNat (by omega)]
  exact this f hd
theorem digitsVal_lt : ∀ (n : Nat) (f : List Nat), f.length = n → (∀ c ∈ f, 48 ≤ c ∧ c ≤ 57) → NumText.digitsVal f < 10 ^ n
  | 0, f, hl, _ => by
    rw [List.length_eq_zero_iff.mp hl]
    decide
  | n + 1, f, hl, h => by
    have hne : f ≠ [] := by intro e; rw [e] at hl; simp at hl
    have e := List.dropLast_concat_getLast hne
    have l1 : f.dropLast.length = n := by rw [List.length_dropLast, hl]; rfl
    have ih := digitsVal_lt n f.dropLast l1 fun d hm => h d (List.dropLast_subset f hm)
    have hc := h (f.getLast hne) (List.getLast_mem hne)
    rw [← e, NumText.digitsVal_snoc, Nat.pow_succ]
    omega
theorem isNumL_back {l : List Nat} (h : isNumL l = true) : nl (valL l) = l ∧ -1000000 < valL l ∧ valL l < 1000000 := by
  unfold isNumL at h
  simp only [Bool.and_eq_true, decide_eq_true_eq, List.all_eq_true, Bool.not_eq_true', List.isEmpty_eq_false_iff, Bool.or_eq_true] at h
  obtain ⟨h1, h2, h3, h4⟩ := h
  have dig : ∀ c ∈ figsL l, 48 ≤ c ∧ c ≤ 57 := fun c hc => by
    have := h1 c hc
    simpa [isDig] using this
  have lt := digitsVal_lt _ _ rfl dig
  have lt6 : NumText.digitsVal (figsL l) < 1000000 := Nat.lt_of_lt_of_le lt (show 10 ^ (figsL l).length ≤ 10 ^ 6 from Nat.pow_le_pow_right (by decide) h3)
  cases l with
  | nil => exact absurd rfl h2
  | cons c r =>
    by_cases e : c = 45
    · subst e
      rw [figsL_neg] at dig h2 h4 lt6
      have h4 : r.head? ≠ some 48 := by
        rcases h4 with h4 | h4
        · cases h4
        · exact h4
      have q := numL_back dig h2 (.inr h4)
      have ne0 : NumText.digitsVal r ≠ 0 := fun z => by
        rw [z, TL.numL_lt (by decide)] at q
        rw [← q] at h4
        exact h4 rfl
      have ev : valL (45 :: r) = -((NumText.digitsVal r : Nat) : Int) := rfl
      rw [ev]
      obtain ⟨k, hk⟩ : ∃ k, NumText.digitsVal r = k + 1 := ⟨NumText.digitsVal r - 1, by omega⟩
      rw [hk] at q lt6 ⊢
      refine ⟨?_, by omega, by omega⟩
      show 45 :: TL.numL (k + 1) = _
      rw [q]
    · rw [figsL_ne r e] at dig h2 h4 lt6
      have ev : valL (c :: r) = ((NumText.digitsVal (c :: r) : Nat) : Int) := by
        unfold valL
        split
        · rename_i z
          cases z
          exact absurd rfl e
        · rfl
      rw [ev]
      refine ⟨numL_back dig h2 h4, by omega, by omega⟩
theorem celOf_back {l : List Nat} (h : isCelL l = true) : (celOf l).l = l := by
  obtain ⟨c, rfl⟩ := isCelL_iff h
  rw [celOf_l]
def wls : List Part → Ws
  | [] => []
  | p :: r => p.wl ++ wls r
theorem seqP_back {f : Ws → Option (Part × Ws)} {n : Nat} (hf : ∀ ws p r, f ws = some (p, r) → ws = p.wl ++ r ∧ p.good ∧ p.hgt ≤ n) : ∀ (m : Nat) (ws r : Ws) (ps : List Part), seqP f m ws = some (ps, r) → ws = wls ps ++ r ∧ ∀ p ∈ ps, p.good ∧ p.hgt ≤ n
  | 0, ws, r, ps, h => by
    cases h
    exact ⟨rfl, fun _ h => nomatch h⟩
  | m + 1, ws, r, ps, h => by
    unfold seqP at h
    split at h
    · cases h
    · rename_i p r1 q1
      split at h
      · cases h
      · rename_i ps' r2 q2
        cases h
        obtain ⟨e1, g1⟩ := hf _ _ _ q1
        obtain ⟨e2, g2⟩ := seqP_back hf m _ _ _ q2
        refine ⟨by rw [e1, e2]; simp [wls], fun x hx => ?_⟩
        rcases List.mem_cons.mp hx with rfl | hx
        · exact g1
        · exact g2 x hx
theorem arity_two {w : List Nat} (h : arity w = some 2) : (w3of w).l = w := by
  unfold arity at h
  split at h
  · rename_i z
    unfold w3of
    rcases z with rfl | rfl | rfl
    · rw [if_pos rfl]; rfl
    · rw [if_neg (by decide), if_pos rfl]; rfl
    · rw [if_neg (by decide), if_neg (by decide)]; rfl
  · split at h <;> cases h
theorem arity_four {w : List Nat} (h : arity w = some 4) : w = pickL := by
  unfold arity at h
  split at h
  · cases h
  · split at h
    · assumption
    · cases h
theorem pt_back : ∀ (n : Nat) (ws : Ws) (p : Part) (r : Ws), pt n ws = some (p, r) → ws = p.wl ++ r ∧ p.good ∧ p.hgt ≤ n
  | 0, ws, p, r, h => by cases h
  | n + 1, [], p, r, h => by cases h
  | n + 1, w :: rest, p, r, h => by
    unfold pt at h
    split at h
    · rename_i hn
      cases h
      obtain ⟨e, g1, g2⟩ := isNumL_back hn
      exact ⟨by show _ = [nl (valL w)] ++ rest; rw [e]; rfl, ⟨g1, g2⟩, Nat.succ_le_succ (Nat.zero_le _)⟩
    · split at h
      · rename_i hc
        cases h
        exact ⟨by show _ = [(celOf w).l] ++ rest; rw [celOf_back hc]; rfl, trivial, Nat.succ_le_succ (Nat.zero_le _)⟩
      · split at h
        · rename_i hs
          subst hs
          unfold sumP at h
          split at h
          · split at h
            · rename_i hc
              cases h
              refine ⟨?_, trivial, Nat.succ_le_succ (Nat.zero_le _)⟩
              show _ = [sumL, (celOf _).l, (celOf _).l] ++ _
              rw [celOf_back hc.1, celOf_back hc.2]
              rfl
            · cases h
          · cases h
        · split at h
          · cases h
          · rename_i m hm
            split at h
            · cases h
            · rename_i ps r' hs
              have hl := seqP_len hs
              obtain ⟨e, g⟩ := seqP_back (fun ws p r => pt_back n ws p r) m _ _ _ hs
              split at h
              · cases h
              · rename_i p' hp
                cases h
                rcases arity_cases w with a | a | a
                · rw [a] at hm
                  cases hm
                  match ps, hl, hp, e, g with
                  | [x, y], _, hp, e, g =>
                    cases hp
                    have gx := g x (by simp)
                    have gy := g y (by simp)
                    refine ⟨?_, ⟨gx.1, gy.1⟩, ?_⟩
                    · show _ = (w3of w).l :: (x.wl ++ y.wl) ++ r
                      rw [arity_two a, e]
                      simp [wls]
                    · show max x.hgt y.hgt + 1 ≤ n + 1
                      omega
                · rw [a] at hm
                  cases hm
                  match ps, hl, hp, e, g with
                  | [x, y, z, t], _, hp, e, g =>
                    cases hp
                    have gx := g x (by simp)
                    have gy := g y (by simp)
                    have gz := g z (by simp)
                    have gt := g t (by simp)
                    refine ⟨?_, ⟨gx.1, gy.1, gz.1, gt.1⟩, ?_⟩
                    · show _ = pickL :: (x.wl ++ (y.wl ++ (z.wl ++ t.wl))) ++ r
                      rw [arity_four a, e]
                      simp [wls]
                    · show max (max x.hgt y.hgt) (max z.hgt t.hgt) + 1 ≤ n + 1
                      omega
                · rw [a] at hm
                  cases hm
theorem join_spl : ∀ (l acc : List Nat), TL.joinL [32] (TL.spl [32] 0 acc l) = acc ++ l
  | [], acc => by
    rw [TL.spl_nil]
    simp [TL.joinL]
  | c :: r, acc => by
    by_cases e : c = 32
    · rw [TL.spl_hit (by rw [pre1, e]; rfl)]
      have ih := join_spl r []
      cases q : TL.spl [32] 0 [] r with
      | nil => exact absurd q (spl_ne r [])
      | cons x xs =>
        rw [q] at ih
        show acc ++ ([32] ++ TL.joinL [32] (x :: xs)) = _
        rw [ih, e]
        rfl
    · rw [TL.spl_miss (by rw [pre1]; exact decide_eq_false e), join_spl r (acc ++ [c])]
      simp
theorem rd_back {l : List Nat} {o : Option Part} (h : rd l = some o) : ctx o = l ∧ goodC o 5 := by
  unfold rd at h
  split at h
  · rename_i e
    cases h
    exact ⟨e.symm, trivial⟩
  · split at h
    · rename_i hn
      cases h
      obtain ⟨e, g1, g2⟩ := isNumL_back hn
      exact ⟨e, ⟨g1, g2⟩, by show 1 ≤ 5; decide⟩
    · split at h
      · cases h
      · rename_i hh
        split at h
        · rename_i p hp
          split at h
          · cases h
          · rename_i hnum
            cases h
            obtain ⟨e, g1, g2⟩ := pt_back 5 _ _ _ hp
            rw [List.append_nil] at e
            have hnum : p.isNum = false := Bool.eq_false_iff.mpr hnum
            refine ⟨?_, g1, g2⟩
            rw [ctx_not hnum]
            have hw : wsL l = [61] :: p.wl := by
              have hh : (wsL l).head? = some [61] := by
                cases q : decide ((wsL l).head? = some [61]) with
                | true => exact of_decide_eq_true q
                | false => exact absurd (of_decide_eq_false q) hh
              cases q : wsL l with
              | nil => rw [q] at hh; cases hh
              | cons x xs =>
                rw [q] at hh e
                simp at hh
                rw [hh]
                simp at e
                rw [e]
            have j := join_spl l []
            have j : TL.joinL [32] (wsL l) = l := j
            rw [hw] at j
            rw [← j]
            have := joinL_app (s := [32]) (xs := [[61]]) (ys := p.wl) (by simp) p.wl_ne
            show [61, 32] ++ TL.joinL [32] p.wl = TL.joinL [32] ([[61]] ++ p.wl)
            rw [this]
            rfl
        · cases h
end U

namespace U
open PySem L2 PyProof.Rows
section
variable {X : Cx} {k : Nat} {x : Str} {ps : List Str} {sp : Sp} {p pos : Pos} {e : Expr} {es : List Expr} {t : TA} {E : L2.St → XK}
/-- a def that may raise, called within a try -/
theorem pc_s (c : CalX X.prog X.w X.K X.mg X.base k x ps sp) (hr : Room k X.A) (hg : Gl X x) (hx : ∀ σ, PassesAt (L2.CX X.prog X.w) X σ (E σ)) (ha : L2.PA X (e :: es) t)
    (hdb : (x == ("__debug__" : Str)) = false := by decide) (he : starEach (e :: es) X.env = (false, eval e X.env) :: starEach es X.env := by rfl) (hpl : (backTo pos (starEach es X.env)).any (·.1) = false := by rfl) :
    PE X (.Call (.Name x p) (e :: es) [] pos) (tCallS sp E t) := by
  obtain ⟨f, fd, F, hm, kp, b⟩ := c.ex
  exact pe_callS F hr hg hm kp b hx ha hdb he hpl
end
/-- isinstance of what the suite holds, told without its class -/
def rIsX (K : PySem.W.Frag) (D a : Addr) (cls : Value) (d : Option Addr) : List V → Hp → VK → Prop := fun xs H Q => cls = .ref D ∧ d = none ∧ rIsE K D a xs H Q
theorem call_isX {X : Cx} {a D : Addr} {cls : Value} {d : Option Addr} {oe : Obj} {pn : List (Addr × Obj)} (C : ExcC X.K D) (hz : Zc cls d oe) (hf : ∃ vs, oe.data = .fields vs) : CallR (X.suite a ((a, oe) :: pn)) (.builtin "isinstance") (rIsX X.K D a cls d) := by
  intro pins s σ H xs us Q I r h
  obtain ⟨rfl, rfl, h⟩ := h
  exact call_isE C hz hf pins s σ H xs us Q I r h
/-- what the written part says of an own exception class besides -/
structure ExcM (K : PySem.W.Frag) (C : Addr) : Prop where
  d : PySem.W.hasDictIn K C = true
  s : PySem.W.isClsIn K C = true
  r : PySem.W.subIn K (.ref C) (.ref C) = some true
theorem kit_sub {K : PySem.W.Frag} {mg : Str → Option Value} {x : Str} {C D : Addr} {b : Bool} (eC : ExcF K mg x C) (mC : ExcM K C) (mD : ExcM K D) (h : PySem.W.subIn K (.ref D) (.ref C) = some b) : PySem.W.kitOne K (.ref D) (.ref C) = some b := by
  have ec : ((PySem.W.clsIn K C).isSome && PySem.W.typeIn K (.ref C) == some (.type "type")) = true := by
    have q : (PySem.W.clsIn K C).isSome = true := mC.s
    rw [q, eC.t] <;> rfl
  unfold PySem.W.kitOne
  by_cases e : (Value.ref D == Value.ref C) = true
  · rw [if_pos e]
    have e2 : D = C := Value.ref.inj (beq_iff_eq.mp e)
    rw [← e2, mD.r] at h
    exact h
  · rw [if_neg e]
    show (if ((PySem.W.clsIn K C).isSome && PySem.W.typeIn K (.ref C) == some (.type "type")) = true then PySem.W.subIn K (.ref D) (.ref C) else none) = some b
    rw [if_pos ec]
    exact h
theorem kit_val {K : PySem.W.Frag} {D : Addr} {b : Bool} (h : PySem.W.subIn K (.ref D) (.type "ValueError") = some b) : PySem.W.kitOne K (.ref D) (.type "ValueError") = some b := by
  unfold PySem.W.kitOne
  rw [if_neg (by intro e; cases (beq_iff_eq.mp e))]
  show (if PySem.W.kitMeta "ValueError" = true then PySem.W.subIn K (.ref D) (.type "ValueError") else none) = some b
  rw [if_pos (by decide +kernel)]
  exact h
theorem exm_sub {K : PySem.W.Frag} {mg : Str → Option Value} {x : Str} {C D : Addr} {b : Bool} (eC : ExcF K mg x C) (mC : ExcM K C) (h : PySem.W.subIn K (.ref D) (.ref C) = some b) : PySem.W.exmOne K (.ref D) (.ref C) = some b :=
  PySem.W.exm_ref eC.b mC.d eC.t h
theorem isX_ref {K : PySem.W.Frag} {C D a : Addr} {b : Bool} {H : Hp} {Q : VK} (h : PySem.W.kitOne K (.ref D) (.ref C) = some b) (q : Q (.bl b) H) : rIsX K D a (.ref D) none [.ref a, .ref C] H Q :=
  ⟨rfl, rfl, _, .ref C, b, rfl, fun u r => r, h, q⟩
theorem isX_val {K : PySem.W.Frag} {D a : Addr} {b : Bool} {H : Hp} {Q : VK} (h : PySem.W.kitOne K (.ref D) (.type "ValueError") = some b) (q : Q (.bl b) H) : rIsX K D a (.ref D) none [.ref a, .ty "ValueError"] H Q :=
  ⟨rfl, rfl, _, .type "ValueError", b, rfl, fun u r => r, h, q⟩
theorem cut_le (z : Str) (lo hi : Option Int) : (cutS z lo hi).length ≤ z.length := by
  unfold cutS
  show (List.toArray _).size ≤ z.cps.size
  rw [List.size_toArray, List.length_take, List.length_drop, Array.length_toList]
  omega
theorem S_of (z : Str) : z = SX.S z.cps.toList := rfl
theorem len_of (z : Str) : z.cps.toList.length = z.length := rfl
theorem boot_ValueError : bootBuiltins "ValueError" = some (.type "ValueError") := by decide +kernel
theorem ix_listK {X : Cx} {K : PySem.W.Frag} (h : X.K = K) : IxR X (rIxL K) := h ▸ ix_list
theorem ix_tupK {X : Cx} {K : PySem.W.Frag} (h : X.K = K) : IxR X (rIxT K) := h ▸ ix_tup
end U

namespace U
open PySem L2 PyProof.Rows
def top (i : Nat) : Stmt := PySem.Challenge.pw_undotable_k03_whole_contents_read.main.body.getD i (.Pass ⟨0, 0, 0, 0⟩)
abbrev s_is_cell : Stmt := top 7
theorem sc_is_cell : FnScope ["text"] ["text"] (defScope s_is_cell) := ⟨rfl, rfl, rfl, by decide +kernel, rfl, by decide +kernel, by decide +kernel⟩
abbrev s_is_number : Stmt := top 12
theorem sc_is_number : FnScope ["text", "figures"] ["text"] (defScope s_is_number) := ⟨rfl, rfl, rfl, by decide +kernel, rfl, by decide +kernel, by decide +kernel⟩
abbrev s_read : Stmt := top 13
theorem sc_read : FnScope ["text", "words", "part", "behind"] ["text"] (defScope s_read) := ⟨rfl, rfl, rfl, by decide +kernel, rfl, by decide +kernel, by decide +kernel⟩
abbrev s_part_at : Stmt := top 14
theorem sc_part_at : FnScope ["words", "at", "depth", "word"] ["words", "at", "depth"] (defScope s_part_at) := ⟨rfl, rfl, rfl, by decide +kernel, rfl, by decide +kernel, by decide +kernel⟩
abbrev s_sum_at : Stmt := top 15
theorem sc_sum_at : FnScope ["words", "at", "ends"] ["words", "at"] (defScope s_sum_at) := ⟨rfl, rfl, rfl, by decide +kernel, rfl, by decide +kernel, by decide +kernel⟩
abbrev s_parts_at : Stmt := top 16
theorem sc_parts_at : FnScope ["words", "at", "depth", "word", "parts", "behind", "_", "part"] ["words", "at", "depth"] (defScope s_parts_at) := ⟨rfl, rfl, rfl, by decide +kernel, rfl, by decide +kernel, by decide +kernel⟩
abbrev s_l_begun : Stmt := top 18
theorem sc_l_begun : FnScope ["_law_script", "_law_stirred", "_law_cell_here"] ["_law_script"] (defScope s_l_begun) := ⟨rfl, rfl, rfl, by decide +kernel, rfl, by decide +kernel, by decide +kernel⟩
abbrev s_l_take : Stmt := top 19
theorem sc_l_take : FnScope ["_law_box", "_law_many", "_law_number"] ["_law_box", "_law_many"] (defScope s_l_take) := ⟨rfl, rfl, rfl, by decide +kernel, rfl, by decide +kernel, by decide +kernel⟩
abbrev s_l_alike : Stmt := top 20
theorem sc_l_alike : FnScope ["_law_found", "_law_due", "_law_k"] ["_law_found", "_law_due"] (defScope s_l_alike) := ⟨rfl, rfl, rfl, by decide +kernel, rfl, by decide +kernel, by decide +kernel⟩
abbrev s_l_cell : Stmt := top 21
theorem sc_l_cell : FnScope ["_law_box"] ["_law_box"] (defScope s_l_cell) := ⟨rfl, rfl, rfl, by decide +kernel, rfl, by decide +kernel, by decide +kernel⟩
abbrev s_l_stretch : Stmt := top 22
theorem sc_l_stretch : FnScope ["_law_one", "_law_other", "_law_columns", "_law_rows", "_law_found", "_law_row", "_law_k"] ["_law_one", "_law_other"] (defScope s_l_stretch) := ⟨rfl, rfl, rfl, by decide +kernel, rfl, by decide +kernel, by decide +kernel⟩
abbrev s_l_down : Stmt := top 23
theorem sc_l_down : FnScope ["_law_cell_here", "_law_rows", "_law_row"] ["_law_cell_here", "_law_rows"] (defScope s_l_down) := ⟨rfl, rfl, rfl, by decide +kernel, rfl, by decide +kernel, by decide +kernel⟩
abbrev s_l_part : Stmt := top 24
theorem sc_l_part : FnScope ["_law_box", "_law_deep_here", "_law_kind", "_law_one", "_law_other", "_law_third"] ["_law_box", "_law_deep_here"] (defScope s_l_part) := ⟨rfl, rfl, rfl, by decide +kernel, rfl, by decide +kernel, by decide +kernel⟩
abbrev s_l_content : Stmt := top 25
theorem sc_l_content : FnScope ["_law_box", "_law_deep_here", "_law_kind", "_law_part_here"] ["_law_box", "_law_deep_here"] (defScope s_l_content) := ⟨rfl, rfl, rfl, by decide +kernel, rfl, by decide +kernel, by decide +kernel⟩
abbrev s_l_part_text : Stmt := top 26
theorem sc_l_part_text : FnScope ["_law_part_here", "_law_one"] ["_law_part_here"] (defScope s_l_part_text) := ⟨rfl, rfl, rfl, by decide +kernel, rfl, by decide +kernel, by decide +kernel⟩
abbrev s_l_text : Stmt := top 27
theorem sc_l_text : FnScope ["_law_content_here"] ["_law_content_here"] (defScope s_l_text) := ⟨rfl, rfl, rfl, by decide +kernel, rfl, by decide +kernel, by decide +kernel⟩
abbrev s_l_reads : Stmt := top 28
theorem sc_l_reads : FnScope ["_law_content_here", "_law_found", "_law_part_here", "_law_cell_here"] ["_law_content_here"] (defScope s_l_reads) := ⟨rfl, rfl, rfl, by decide +kernel, rfl, by decide +kernel, by decide +kernel⟩
abbrev s_l_deep : Stmt := top 29
theorem sc_l_deep : FnScope ["_law_box", "_law_deep_here", "_law_one", "_law_other"] ["_law_box", "_law_deep_here"] (defScope s_l_deep) := ⟨rfl, rfl, rfl, by decide +kernel, rfl, by decide +kernel, by decide +kernel⟩
abbrev s_l_text_of : Stmt := top 30
theorem sc_l_text_of : FnScope ["_law_box", "_law_words", "_law_text_here", "_law_j", "_law_at", "_law_sign", "_law_cut", "_law_k"] ["_law_box"] (defScope s_l_text_of) := ⟨rfl, rfl, rfl, by decide +kernel, rfl, by decide +kernel, by decide +kernel⟩
abbrev s_l_good_cell : Stmt := top 31
theorem sc_l_good_cell : FnScope ["_law_cell_here"] ["_law_cell_here"] (defScope s_l_good_cell) := ⟨rfl, rfl, rfl, by decide +kernel, rfl, by decide +kernel, by decide +kernel⟩
abbrev s_l_good : Stmt := top 32
theorem sc_l_good : FnScope ["_law_part_here", "_law_deep_here", "_law_good_here", "_law_many", "_law_c", "_law_one"] ["_law_part_here", "_law_deep_here"] (defScope s_l_good) := ⟨rfl, rfl, rfl, by decide +kernel, rfl, by decide +kernel, by decide +kernel⟩
abbrev s_law : Stmt := top 33
theorem sc_law : FnScope ["_law_script", "_law_box", "_law_text_here", "_law_told", "e"] ["_law_script"] (defScope s_law) := ⟨rfl, rfl, rfl, by decide +kernel, rfl, by decide +kernel, by decide +kernel⟩
end U
namespace U
open PySem L2 PyProof.Rows

section
variable {P : Program} {w : World} {K : PySem.W.Frag} {mg : Str → Option Value} {base : Heap}
theorem ok_lbegun {f : Addr} {fd : FuncData} (F : Fun K "_law_begun" "_law_begun" s_l_begun f fd) (B : Bt mg) : FnOk P w K mg base CX0 1 f fd ["_law_script"] (spBegun K) := by
  refine F.ok sc_l_begun (fun vs H Q E h => ?_) (fun cdv A outer s H vs Q E hr h => ?_)
  · obtain ⟨a, ns, rfl, _⟩ := h
    rfl
  obtain ⟨a, ns, rfl, hS, hl, k⟩ := h
  refine ⟨_, (pss_cons (ps_set (i := 1) sc_l_begun.nd rfl (Or.inl rfl) pe_int)
      (pss_cons (ps_for PassesOwn.never rfl (pi_list (pv 0)) (pg_name (i := 2) sc_l_begun.nd rfl (Or.inl rfl)) (pss_one (ps_set (i := 1) sc_l_begun.nd rfl (Or.inl rfl) (pe_op op_mod (pe_op op_add (pe_op op_add (pe_op op_mul (pv 1) pe_int) (pe_op op_mul (pv 2) pe_int)) pe_int) pe_int))))
      (pss_one (ps_ret (pe_lst (pa_cons (pe_callTy call_list_of (by rfl) B.list boot_list (pa_cons (pv 0) pa_nil)) (pa_cons (pe_op op_mul (pv 1) (pe_callTy call_int1 (by rfl) B.int boot_int (pa_cons (pe_cmpR op_gt (pe_callB call_len_seq (by rfl) B.len boot_len (pa_cons (pv 0) pa_nil)) pe_int (nomark _)) pa_nil))) pa_nil))))))), ?_⟩
  refine ⟨_, rfl, a, rfl, ⟨_, hS⟩, for_list (K := K) (a := a) (xs := ns.map V.int) (fun i σ H2 => ∃ (z : Int) (v : Option V), σ = [some (.ref a), some (.int z), v] ∧ H2 = H ∧ 0 ≤ z ∧ z < 2147483647)
    ⟨0, none, rfl, rfl, by decide, by decide⟩ (fun i σ H2 _ ⟨_, _, _, e, _⟩ => e ▸ hS) ?_ ?_⟩
  · rintro i y σ H2 hi ⟨z, v, rfl, rfl, z0, z1⟩
    obtain ⟨n, rfl⟩ : ∃ n, y = V.int n := by
      rw [List.getElem?_map] at hi
      cases e : ns[i]? with
      | none => rw [e] at hi; cases hi
      | some n => rw [e] at hi; exact ⟨n, (Option.some.inj hi).symm⟩
    refine ⟨_, rfl, _, _, rfl, rfl, cmulR (by decide) (by decide), _, rfl, _, _, rfl, rfl, cmulR (by decide) (by decide), _, _, rfl, rfl, _, _, rfl, rfl, _, _, rfl, rfl, (by decide : (0 : Int) < 2147483647), ?_⟩
    exact ⟨_, _, rfl, rfl, Int.emod_nonneg _ (by decide), Int.emod_lt_of_pos _ (by decide)⟩
  · rintro σ H2 ⟨z, v, rfl, rfl, z0, z1⟩
    have e1 : (ns.map V.int).length = ns.length := List.length_map _
    refine ⟨_, rfl, a, _, rfl, .inl hS, fun l hl0 => ?_⟩
    have s1 : Same H2 (upd H2 l (.lst (ns.map V.int))) := same_new hl0 _
    refine ⟨_, rfl, _, rfl, a, _, rfl, .inl (s1.seq hS), _, _, rfl, rfl, .inr ⟨_, rfl, ?_⟩⟩
    refine ⟨_, _, rfl, rfl, cmulL (by omega) (by omega), (by show 2 ≤ sizeLine; decide), fun b hb0 => ?_⟩
    have nbl : l ≠ b := ne_of_none upd_same hb0
    refine k b l _ (s1.trans (same_new hb0 _)) (s1.free hb0) hl0 ⟨_, ns, upd_same, by rw [upd_ne nbl, upd_same], ?_, ?_, hl⟩
    · split <;> omega
    · split <;> omega
theorem ok_ltake {f : Addr} {fd : FuncData} (F : Fun K "_law_take" "_law_take" s_l_take f fd) (B : Bt mg) : FnOk P w K mg base CX0 1 f fd ["_law_box", "_law_many"] spTake := by
  refine F.ok sc_l_take (fun vs H Q E h => ?_) (fun cdv A outer s H vs Q E hr h => ?_)
  · obtain ⟨b, l, m, rfl, _⟩ := h
    rfl
  obtain ⟨b, l, m, rfl, BX, h0, h1, k⟩ := h
  refine ⟨_, (pss_cons (ps_if (pt_cmpR (op_eqD hr.units) (pe_ix ix_list (pv 0) pe_int (fun _ _ => rfl)) (pe_lst pa_nil) (nomark _)) (pss_cons (ps_asg (pe_op op_mod (pe_op op_mul (pe_ix ix_list (pv 0) pe_int (fun _ _ => rfl)) pe_int) pe_int) (pg_sub (pv 0) pe_int set_list))
      (pss_one (ps_ret (pe_op op_mod (pe_op op_fdiv (pe_ix ix_list (pv 0) pe_int (fun _ _ => rfl)) pe_int) (pv 1))))) pss_nil)
      (pss_cons (ps_set (i := 2) sc_l_take.nd rfl (Or.inl rfl) (pe_ix ix_list (pe_ix ix_list (pv 0) pe_int (fun _ _ => rfl)) pe_int (fun _ _ => rfl)))
      (pss_cons (ps_asg (pe_op op_fdiv (pv 2) (pv 1)) (pg_sub (pe_ix ix_list (pv 0) pe_int (fun _ _ => rfl)) pe_int set_list))
      (pss_cons (ps_if (PW.pt (pw_or (pt_cmpR op_eq (pe_ix ix_list (pe_ix ix_list (pv 0) pe_int (fun _ _ => rfl)) pe_int (fun _ _ => rfl)) pe_int (nomark _)) (pw_or1 (pt_cmpR op_eq (pe_ix ix_list (pe_ix ix_list (pv 0) pe_int (fun _ _ => rfl)) pe_int (fun _ _ => rfl)) (pe_un un_neg pe_int) (nomark _))))) (pss_one (ps_expr (pe_bm PySem.F.plainAttrs_list PySem.F.slot_list_pop PySem.F.type_list_pop mt_popAt (pe_ix ix_list (pv 0) pe_int (fun _ _ => rfl)) (pa_cons pe_int pa_nil)))) pss_nil)
      (pss_one (ps_ret (pe_op op_mod (pv 2) (pv 1)))))))), ?_⟩
  obtain ⟨z, ns, hb, hl, z0, z1, hn⟩ := BX.ex
  have nbl := BX.ne
  refine ⟨_, rfl, b, _, _, _, rfl, rfl, SqL.of hb, rfl, (by decide), fun p hp => ?_⟩
  have s1 : Same H (upd H p (.lst [])) := same_new hp _
  refine ⟨_, _, .lst (SqL.of (s1 _ _ hl)) (dp_ints _ _ ns), .lst (SqL.of upd_same) .nil, shaped_ints ns, shaped_nil, _, rfl, ?_⟩
  rw [eqv_nil]
  have pb : b ≠ p := ne_of_none hb hp
  have pl : l ≠ p := ne_of_none hl hp
  have m1 : Keep b l H (upd H p (.lst [])) := .of s1
  cases ns with
  | nil =>
    refine iteT ?_
    refine ⟨_, rfl, b, _, _, _, rfl, rfl, SqL.of (s1 _ _ hb), rfl, _, _, rfl, rfl, cmulL (by omega) (by omega), _, _, rfl, rfl, (by decide : (0 : Int) < 2147483647), _, rfl, b, _, _, _, rfl, rfl, s1 _ _ hb, rfl, ?_⟩
    have hz := Int.emod_nonneg (z * 48271) (show (2147483647 : Int) ≠ 0 by decide)
    have hy := Int.emod_lt_of_pos (z * 48271) (show (0 : Int) < 2147483647 by decide)
    refine ⟨_, rfl, b, _, _, _, rfl, rfl, SqL.of upd_same, rfl, _, _, rfl, rfl, ⟨by decide, by decide⟩, _, rfl, _, _, rfl, rfl, h0, ?_⟩
    refine k _ _ (Int.emod_nonneg _ (by omega)) (Int.emod_lt_of_pos _ h0) ⟨_, [], upd_same, by rw [upd_ne nbl.symm]; exact s1 _ _ hl, hz, hy, hn⟩ (m1.trans fun c o e n m => by rw [upd_ne n]; exact e)
  | cons n r =>
    refine iteF ?_
    refine ⟨_, rfl, b, _, _, _, rfl, rfl, SqL.of (s1 _ _ hb), rfl, _, _, _, _, rfl, rfl, SqL.of (s1 _ _ hl), at0, ?_⟩
    refine ⟨_, rfl, _, rfl, _, _, rfl, rfl, ⟨h0, h1⟩, _, rfl, b, _, _, _, rfl, rfl, SqL.of (s1 _ _ hb), rfl, _, _, _, _, rfl, rfl, s1 _ _ hl, ix0, ?_⟩
    have hb2 : upd (upd H p (.lst [])) l (.lst (((n :: r).map V.int).set 0 (V.int (n / m)))) b = some (.lst [.ref l, .int z]) := by rw [upd_ne nbl]; exact s1 _ _ hb
    have m2 : Keep b l H (upd (upd H p (.lst [])) l (.lst (((n :: r).map V.int).set 0 (V.int (n / m))))) := m1.trans fun c o e n m => by rw [upd_ne m]; exact e
    generalize hG : upd (upd H p (.lst [])) l (.lst (((n :: r).map V.int).set 0 (V.int (n / m)))) = G at hb2 m2
    have hl2 : G l = some (.lst (((n / m) :: r).map V.int)) := by rw [← hG]; exact upd_same
    have out : ∀ G', G' = G ∨ G' = upd G l (.lst (r.map V.int)) → Q (.int (n % m)) G' := by
      rintro G' (rfl | rfl)
      · exact k _ _ (Int.emod_nonneg _ (by omega)) (Int.emod_lt_of_pos _ h0) ⟨z, (n / m) :: r, hb2, hl2, z0, z1, hn⟩ m2
      · exact k _ _ (Int.emod_nonneg _ (by omega)) (Int.emod_lt_of_pos _ h0) ⟨z, r, by rw [upd_ne nbl]; exact hb2, upd_same, z0, z1, by simp only [List.length_cons] at hn; omega⟩ (m2.trans fun c o e n m => by rw [upd_ne m]; exact e)
    have pop : ∀ D : Ends, (D.nx [some (.ref b), some (.int m), some (.int n)] (upd G l (.lst (r.map V.int)))) → tDrop (tBM K "list" rPopAt (tOp (rIxL K) (tVar 0) (tC (.int 0))) (tCons (tC (.int 0)) tNil)) D [some (.ref b), some (.int m), some (.int n)] G := by
      intro D q
      refine ⟨_, rfl, b, _, _, _, rfl, rfl, SqL.of hb2, rfl, .inl ⟨rfl, _, SqL.of hl2⟩, _, _, _, 0, _, rfl, rfl, hl2, by decide, by decide, sq0, rfl, ?_⟩
      exact q
    have lastq : ∀ G', G' = G ∨ G' = upd G l (.lst (r.map V.int)) → tRet (tOp (rI (fun _ j => 0 < j) fun i j => V.int (i % j)) (tVar 2) (tVar 1)) { nx := fun _ H' => Q .non H', rt := Q } [some (.ref b), some (.int m), some (.int n)] G' := by
      intro G' e
      exact ⟨_, rfl, _, rfl, _, _, rfl, rfl, h0, out G' e⟩
    refine ⟨_, rfl, b, _, _, _, rfl, rfl, SqL.of hb2, rfl, _, _, _, _, rfl, rfl, SqL.of hl2, at0, rfl, _, rfl, ?_⟩
    refine ite2 (fun c => ?_) (fun c => ?_)
    · refine iteT ?_
      exact pop _ (lastq _ (.inr rfl))
    · refine ⟨_, rfl, b, _, _, _, rfl, rfl, SqL.of hb2, rfl, _, _, _, _, rfl, rfl, SqL.of hl2, at0, _, rfl, rfl, _, rfl, ?_⟩
      refine ite2 (fun c => ?_) (fun c => ?_)
      · exact pop _ (lastq _ (.inr rfl))
      · exact lastq _ (.inl rfl)
end
end U

namespace U
open PySem L2 PyProof.Rows
section
variable {P : Program} {w : World} {K : PySem.W.Frag} {mg : Str → Option Value} {base : Heap}
theorem ok_lcell {f : Addr} {fd : FuncData} (F : Fun K "_law_cell" "_law_cell" s_l_cell f fd) (C_l_take : Cal P w K mg base 1 "_law_take" ["_law_box", "_law_many"] spTake) : FnOk P w K mg base CX0 2 f fd ["_law_box"] spCell := by
  refine F.ok sc_l_cell (fun vs H Q E h => ?_) (fun cdv A outer s H vs Q E hr h => ?_)
  · obtain ⟨b, l, rfl, _⟩ := h
    rfl
  obtain ⟨b, l, rfl, BX, k⟩ := h
  refine ⟨_, (pss_cons (ps_if (pt_cmpR op_eq (pc_c C_l_take (hr.mono (by first | exact Nat.le_refl _ | decide | omega)) (by rfl) (pa_cons (pv 0) (pa_cons pe_int pa_nil))) pe_int (nomark _)) (pss_one (ps_ret (pe_op op_add_str (pe_ix ix_str pe_str (pc_c C_l_take (hr.mono (by first | exact Nat.le_refl _ | decide | omega)) (by rfl) (pa_cons (pv 0) (pa_cons pe_int pa_nil))) (fun _ _ => rfl)) (pe_ix ix_str pe_str (pc_c C_l_take (hr.mono (by first | exact Nat.le_refl _ | decide | omega)) (by rfl) (pa_cons (pv 0) (pa_cons pe_int pa_nil))) (fun _ _ => rfl))))) pss_nil)
      (pss_one (ps_ret (pe_op op_add_str (pe_ix ix_str pe_str (pc_c C_l_take (hr.mono (by first | exact Nat.le_refl _ | decide | omega)) (by rfl) (pa_cons (pv 0) (pa_cons pe_int pa_nil))) (fun _ _ => rfl)) (pe_ix ix_str pe_str (pc_c C_l_take (hr.mono (by first | exact Nat.le_refl _ | decide | omega)) (by rfl) (pa_cons (pv 0) (pa_cons pe_int pa_nil))) (fun _ _ => rfl)))))), ?_⟩
  refine ⟨_, rfl, b, l, 4, rfl, BX, by decide, by decide, fun r0 H1 _ _ B1 K1 => ⟨rfl, _, rfl, ?_⟩⟩
  have fin : ∀ (c r : Int) (H3 : Hp), 0 ≤ c → c < 6 → 0 ≤ r → r < 9 → Box H3 b l → Keep b l H H3 → Q (.str (SX.S [97 + c.toNat] ++ SX.S [49 + r.toNat])) H3 := fun c r H3 c0 c1 r0 r1 B3 K3 =>
    k ⟨c.toNat, r.toNat, by omega, by omega⟩ H3 B3 K3
  refine ite2 (fun _ => ?_) (fun _ => ?_)
  · refine ⟨_, rfl, b, l, 6, rfl, B1, by decide, by decide, fun r1 H2 c0 c1 B2 K2 => ⟨_, _, _, rfl, rfl, small (by decide), at_abc c0 c1, ?_⟩⟩
    refine ⟨_, rfl, b, l, 9, rfl, B2, by decide, by decide, fun r2 H3 d0 d1 B3 K3 => ⟨_, _, _, rfl, rfl, small (by decide), at_123 d0 d1, _, _, rfl, rfl, small (by decide : 2 ≤ 1000), ?_⟩⟩
    exact fin r1 r2 H3 c0 c1 d0 d1 B3 ((K1.trans K2).trans K3)
  · refine ⟨_, rfl, b, l, 3, rfl, B1, by decide, by decide, fun r1 H2 c0 c1 B2 K2 => ⟨_, _, _, rfl, rfl, small (by decide), at_abc3 c0 c1, ?_⟩⟩
    refine ⟨_, rfl, b, l, 3, rfl, B2, by decide, by decide, fun r2 H3 d0 d1 B3 K3 => ⟨_, _, _, rfl, rfl, small (by decide), at_1233 d0 d1, _, _, rfl, rfl, small (by decide : 2 ≤ 1000), ?_⟩⟩
    exact fin r1 r2 H3 c0 (by omega) d0 (by omega) B3 ((K1.trans K2).trans K3)
theorem ok_lstretch {f : Addr} {fd : FuncData} (F : Fun K "_law_stretch" "_law_stretch" s_l_stretch f fd) (B : Bt mg) : FnOk P w K mg base CX0 1 f fd ["_law_one", "_law_other"] spStretchL := by
  refine F.ok sc_l_stretch (fun vs H Q E h => ?_) (fun cdv A outer s H vs Q E hr h => ?_)
  · obtain ⟨x, y, rfl, _⟩ := h
    rfl
  obtain ⟨x, y, rfl, k⟩ := h
  refine ⟨_, (pss_cons (ps_set (i := 2) sc_l_stretch.nd rfl (Or.inl rfl) (pe_callB cr_sorted (by rfl) B.sorted boot_sorted (pa_cons (pe_lst (pa_cons (pe_bm PySem.F.plainAttrs_str PySem.F.slot_str_find PySem.F.type_str_find mt_find pe_str (pa_cons (pe_ix ix_str (pv 0) pe_int (fun _ _ => rfl)) pa_nil)) (pa_cons (pe_bm PySem.F.plainAttrs_str PySem.F.slot_str_find PySem.F.type_str_find mt_find pe_str (pa_cons (pe_ix ix_str (pv 1) pe_int (fun _ _ => rfl)) pa_nil)) pa_nil))) pa_nil)))
      (pss_cons (ps_set (i := 3) sc_l_stretch.nd rfl (Or.inl rfl) (pe_callB cr_sorted (by rfl) B.sorted boot_sorted (pa_cons (pe_lst (pa_cons (pe_callTy call_int_str (by rfl) B.int boot_int (pa_cons (pe_ix ix_str (pv 0) pe_int (fun _ _ => rfl)) pa_nil)) (pa_cons (pe_callTy call_int_str (by rfl) B.int boot_int (pa_cons (pe_ix ix_str (pv 1) pe_int (fun _ _ => rfl)) pa_nil)) pa_nil))) pa_nil)))
      (pss_cons (ps_set (i := 4) sc_l_stretch.nd rfl (Or.inl rfl) (pe_lst pa_nil))
      (pss_cons (ps_for PassesOwn.never rfl (pi_range2 (by rfl) B.range (pa_cons (pe_ix ix_list (pv 3) pe_int (fun _ _ => rfl)) (pa_cons (pe_op op_add (pe_ix ix_list (pv 3) pe_int (fun _ _ => rfl)) pe_int) pa_nil))) (pg_name (i := 5) sc_l_stretch.nd rfl (Or.inr rfl)) (pss_one (ps_set (i := 4) sc_l_stretch.nd rfl (Or.inl rfl) (pe_op op_cat (pv 4) (pe_lc (own := [("_law_k", 6)])  rfl sc_l_stretch.nd (pi_range2 (by rfl) B.range (pa_cons (pe_ix ix_list (pv 2) pe_int (fun _ _ => rfl)) (pa_cons (pe_op op_add (pe_ix ix_list (pv 2) pe_int (fun _ _ => rfl)) pe_int) pa_nil))) (blkOk_by (N := ["_law_one", "_law_other", "_law_columns", "_law_rows", "_law_found", "_law_row", "_law_k"]) (sc := defScope s_l_stretch) (by decide +kernel)) (fun _ _ _ _ _ => pg_name (i := 6) sc_l_stretch.nd rfl (Or.inl rfl)) (fun _ _ _ _ _ => pts_nil) (fun _ _ _ _ _ => (pe_op op_add_str (pe_ix ix_str pe_str (pv 6) (fun _ _ => rfl)) (pe_callTy call_str_int (by rfl) B.str boot_str (pa_cons (pv 5) pa_nil)))))))))
      (pss_one (ps_ret (pv 4))))))), ?_⟩
  refine ⟨rfl, _, rfl, _, _, _, rfl, rfl, small (by show 2 ≤ 1000; decide), x.at0, _, _, rfl, rfl, rfl, _, rfl, _, _, _, rfl, rfl, small (by show 2 ≤ 1000; decide), y.at0, _, _, rfl, rfl, ?_⟩
  have ex : Txt.find "abcdef" ⟨#[97 + x.c]⟩ = (x.c : Int) := find_abc x.hc
  have ey : Txt.find "abcdef" ⟨#[97 + y.c]⟩ = (y.c : Int) := find_abc y.hc
  rw [ex, ey]
  refine ⟨(by show 2 ≤ sizeLine; decide), fun p1 n1 => ⟨p1, [x.c, y.c], rfl, SqL.of upd_same, (by show 2 < 64; decide), fun ns1 q1 pe1 so1 m1 => ?_⟩⟩
  have hc := sort2 pe1 so1
  subst hc
  refine ⟨_, rfl, _, _, _, rfl, rfl, small (by show 2 ≤ 1000; decide), x.at1, _, _, rfl, int_one x.hr, (by show 1 ≤ 640; decide), _, rfl, _, _, _, rfl, rfl, small (by show 2 ≤ 1000; decide), y.at1, _, _, rfl, int_one y.hr, (by show 1 ≤ 640; decide), ?_⟩
  refine ⟨(by show 2 ≤ sizeLine; decide), fun p2 n2 => ⟨p2, [(x.r : Int) + 1, (y.r : Int) + 1], rfl, SqL.of upd_same, (by show 2 < 64; decide), fun ns2 q2 pe2 so2 m2 => ?_⟩⟩
  have hr' := sort2 pe2 so2
  subst hr'
  -- the heap behind both sorted lists
  have s1 : Same H (upd (upd H p1 (.lst [V.int x.c, V.int y.c])) q1 (.lst ([min (x.c : Int) y.c, max (x.c : Int) y.c].map V.int))) := (same_new n1 _).trans (same_new m1 _)
  have g1 : upd (upd H p1 (.lst [V.int x.c, V.int y.c])) q1 (.lst ([min (x.c : Int) y.c, max (x.c : Int) y.c].map V.int)) q1 = some (.lst [V.int (min (x.c : Int) y.c), V.int (max (x.c : Int) y.c)]) := upd_same
  generalize upd (upd H p1 (.lst [V.int x.c, V.int y.c])) q1 (.lst ([min (x.c : Int) y.c, max (x.c : Int) y.c].map V.int)) = G1 at s1 g1 n2 m2 ⊢
  have s2 : Same G1 (upd (upd G1 p2 (.lst [V.int ((x.r : Int) + 1), V.int ((y.r : Int) + 1)])) q2 (.lst ([min ((x.r : Int) + 1) (y.r + 1), max ((x.r : Int) + 1) (y.r + 1)].map V.int))) := (same_new n2 _).trans (same_new m2 _)
  have g2 : upd (upd G1 p2 (.lst [V.int ((x.r : Int) + 1), V.int ((y.r : Int) + 1)])) q2 (.lst ([min ((x.r : Int) + 1) (y.r + 1), max ((x.r : Int) + 1) (y.r + 1)].map V.int)) q2 = some (.lst [V.int (min ((x.r : Int) + 1) (y.r + 1)), V.int (max ((x.r : Int) + 1) (y.r + 1))]) := upd_same
  generalize upd (upd G1 p2 (.lst [V.int ((x.r : Int) + 1), V.int ((y.r : Int) + 1)])) q2 (.lst ([min ((x.r : Int) + 1) (y.r + 1), max ((x.r : Int) + 1) (y.r + 1)].map V.int)) = G2 at s2 g2 ⊢
  have hxc := x.hc
  have hyc := y.hc
  have hxr := x.hr
  have hyr := y.hr
  obtain ⟨a, ha⟩ : ∃ a : Nat, a = min x.c y.c := ⟨_, rfl⟩
  obtain ⟨n, hn⟩ : ∃ n : Nat, n = max x.c y.c + 1 - min x.c y.c := ⟨_, rfl⟩
  obtain ⟨b, hb⟩ : ∃ b : Nat, b = min x.r y.r := ⟨_, rfl⟩
  obtain ⟨m, hm⟩ : ∃ m : Nat, m = max x.r y.r + 1 - min x.r y.r := ⟨_, rfl⟩
  have e1 : min (x.c : Int) y.c = (a : Int) := by omega
  have e2 : max (x.c : Int) y.c = ((a + n : Nat) : Int) - 1 := by omega
  have e3 : min ((x.r : Int) + 1) (y.r + 1) = (b : Int) + 1 := by omega
  have e4 : max ((x.r : Int) + 1) (y.r + 1) = ((b + m : Nat) : Int) := by omega
  rw [e1, e2] at g1
  rw [e3, e4] at g2
  have hs : strL x y = rowsL a n b m := by unfold strL; rw [← hn, ← hm, ← ha, ← hb]
  rw [hs] at k
  refine ⟨(by show 0 ≤ sizeLine; decide), fun p3 n3 => ?_⟩
  have s3 : Same G2 (upd G2 p3 (.lst [])) := same_new n3 _
  refine ⟨_, rfl, q2, _, _, _, rfl, rfl, SqL.of (s3 _ _ g2), rfl, _, rfl, q2, _, _, _, rfl, rfl, SqL.of (s3 _ _ g2), rfl, _, _, rfl, rfl, _, _, rfl, (by omega), ?_⟩
  refine for_range (lo := (b : Int) + 1) (fun i σ H2 => ∃ (p : Addr) (v : Option V), σ = [some (.str x.s), some (.str y.s), some (.ref q1), some (.ref q2), some (.ref p), v, none] ∧ H p = none ∧ Same G2 H2 ∧ H2 p = some (.lst ((rowsL a n b i).map V.str)))
    ⟨p3, none, rfl, (s1.trans s2).free n3, s3, upd_same⟩ ?_ ?_
  · rintro i σ H2 hi ⟨p, v, rfl, hp, sm, hp2⟩
    have him : i < m := by omega
    have gc := sm _ _ (s2 _ _ g1)
    refine ⟨_, rfl, _, rfl, q1, _, _, _, rfl, rfl, SqL.of gc, rfl, _, rfl, q1, _, _, _, rfl, rfl, SqL.of gc, rfl, _, _, rfl, rfl, _, _, rfl, (by omega), fun D hD => ?_⟩
    refine lc_range (lo := (a : Int)) (fun j H4 => Same H2 H4 ∧ H4 D = some (.lst ((rowL a j (b + i)).map V.str))) ⟨same_new hD _, upd_same⟩ ?_ ?_
    · rintro j H4 hj ⟨sj, hj4⟩
      have hjn : j < n := by omega
      refine ⟨wipe_in (by decide), yes_ ?_⟩
      have ea : (a : Int) + (j : Int) = ((a + j : Nat) : Int) := by omega
      have eb : (b : Int) + 1 + (i : Int) = ((b + i : Nat) : Int) + 1 := by omega
      refine ⟨_, rfl, _, _, _, rfl, rfl, small (by decide), at_abc (by omega) (by omega), _, rfl, _, rfl, log_small (by omega) (by omega), ?_⟩
      have es : (toString ((b : Int) + 1 + (i : Int)) : Str) = SX.S [49 + (b + i)] := by rw [eb]; exact str_one (by omega)
      rw [es]
      refine ⟨_, _, rfl, rfl, small (by show 2 ≤ 1000; decide), ((rowL a j (b + i)).map V.str), hj4, (by rw [List.length_map, rowL_len]; exact small1000 (by omega)), ?_⟩
      refine ⟨fun c o e => by rw [upd_ne (ne_of_none e hD)]; exact sj c o e, ?_⟩
      rw [upd_same, rowL_succ, List.map_append, ea]
      rfl
    · rintro H4 ⟨sj, hj4⟩
      have en : ((a + n : Nat) : Int) - 1 + 1 - (a : Int) = (n : Int) := by omega
      rw [en, Int.toNat_natCast] at hj4
      refine ⟨p, D, _, _, rfl, rfl, sj _ _ hp2, hj4, ?_, fun t ht => ?_⟩
      · rw [List.length_map, List.length_map, rowsL_len, rowL_len]
        have : n * i ≤ 6 * 9 := Nat.mul_le_mul (by omega) (by omega)
        exact small (by omega)
      · refine ⟨t, _, rfl, (s1.trans s2).free (sm.free (sj.free ht)), sm.trans (sj.trans (same_new ht _)), ?_⟩
        rw [upd_same, rowsL_succ, List.map_append]
  · rintro σ H2 ⟨p, v, rfl, hp, sm, hp2⟩
    have en : (((b + m : Nat) : Int) + 1 - ((b : Int) + 1)).toNat = m := by omega
    rw [en] at hp2
    exact ⟨_, rfl, k p H2 hp ((s1.trans s2).trans sm) hp2⟩
end
end U

namespace U
open PySem L2 PyProof.Rows
section
variable {P : Program} {w : World} {K : PySem.W.Frag} {mg : Str → Option Value} {base : Heap}
theorem ok_lpart {n : Nat} {f : Addr} {fd : FuncData} (F : Fun K "_law_part" "_law_part" s_l_part f fd) (C_l_take : Cal P w K mg base 1 "_law_take" ["_law_box", "_law_many"] spTake) (C_l_cell : Cal P w K mg base 2 "_law_cell" ["_law_box"] spCell)
    (C_l_part : Cal P w K mg base (n + 2) "_law_part" ["_law_box", "_law_deep_here"] (spPart K n)) : FnOk P w K mg base CX0 (n + 1 + 2) f fd ["_law_box", "_law_deep_here"] (spPart K (n + 1)) := by
  refine F.ok sc_l_part (fun vs H Q E h => ?_) (fun cdv A outer s H vs Q E hr h => ?_)
  · obtain ⟨b, l, d, rfl, _⟩ := h
    rfl
  obtain ⟨b, l, d, rfl, BX, d0, d1, k⟩ := h
  refine ⟨_, (pss_cons (ps_set (i := 2) sc_l_part.nd rfl (Or.inl rfl) (pc_c C_l_take (hr.mono (by first | exact Nat.le_refl _ | decide | omega)) (by rfl) (pa_cons (pv 0) (pa_cons pe_int pa_nil))))
      (pss_cons (ps_if (PW.pt (pw_or (pt_cmpR op_eq (pv 1) pe_int (nomark _)) (pw_or1 (pt_cmpR op_lt (pv 2) pe_int (nomark _))))) (pss_cons (ps_if (pt_cmpR op_eq (pv 2) pe_int (nomark _)) (pss_one (ps_ret (pe_tup (pa_cons pe_str (pa_cons (pe_ix ix_list (pe_lst (pa_cons (pe_op op_sub (pc_c C_l_take (hr.mono (by first | exact Nat.le_refl _ | decide | omega)) (by rfl) (pa_cons (pv 0) (pa_cons pe_int pa_nil))) pe_int) (pa_cons (pe_op op_sub (pc_c C_l_take (hr.mono (by first | exact Nat.le_refl _ | decide | omega)) (by rfl) (pa_cons (pv 0) (pa_cons pe_int pa_nil))) pe_int) pa_nil))) (pc_c C_l_take (hr.mono (by first | exact Nat.le_refl _ | decide | omega)) (by rfl) (pa_cons (pv 0) (pa_cons pe_int pa_nil))) (fun _ _ => rfl)) pa_nil))))) pss_nil)
      (pss_one (ps_ret (pe_tup (pa_cons pe_str (pa_cons (pc_c C_l_cell (hr.mono (by first | exact Nat.le_refl _ | decide | omega)) (by rfl) (pa_cons (pv 0) pa_nil)) pa_nil)))))) pss_nil)
      (pss_cons (ps_if (pt_cmpR op_eq (pv 2) pe_int (nomark _)) (pss_cons (ps_set (i := 3) sc_l_part.nd rfl (Or.inl rfl) (pc_c C_l_cell (hr.mono (by first | exact Nat.le_refl _ | decide | omega)) (by rfl) (pa_cons (pv 0) pa_nil)))
      (pss_one (ps_ret (pe_tup (pa_cons pe_str (pa_cons (pv 3) (pa_cons (pc_c C_l_cell (hr.mono (by first | exact Nat.le_refl _ | decide | omega)) (by rfl) (pa_cons (pv 0) pa_nil)) pa_nil))))))) pss_nil)
      (pss_cons (ps_set (i := 3) sc_l_part.nd rfl (Or.inl rfl) (pc_c C_l_part (hr.mono (by first | exact Nat.le_refl _ | decide | omega)) (by rfl) (pa_cons (pv 0) (pa_cons (pe_op op_sub (pv 1) pe_int) pa_nil))))
      (pss_cons (ps_set (i := 4) sc_l_part.nd rfl (Or.inl rfl) (pc_c C_l_part (hr.mono (by first | exact Nat.le_refl _ | decide | omega)) (by rfl) (pa_cons (pv 0) (pa_cons (pe_op op_sub (pv 1) pe_int) pa_nil))))
      (pss_cons (ps_if (pt_cmpR op_eq (pv 2) pe_int (nomark _)) (pss_cons (ps_set (i := 5) sc_l_part.nd rfl (Or.inl rfl) (pc_c C_l_part (hr.mono (by first | exact Nat.le_refl _ | decide | omega)) (by rfl) (pa_cons (pv 0) (pa_cons (pe_op op_sub (pv 1) pe_int) pa_nil))))
      (pss_one (ps_ret (pe_tup (pa_cons pe_str (pa_cons (pv 3) (pa_cons (pv 4) (pa_cons (pv 5) (pa_cons (pc_c C_l_part (hr.mono (by first | exact Nat.le_refl _ | decide | omega)) (by rfl) (pa_cons (pv 0) (pa_cons (pe_op op_sub (pv 1) pe_int) pa_nil))) pa_nil))))))))) pss_nil)
      (pss_one (ps_ret (pe_tup (pa_cons (pe_ix ix_list (pe_lst (pa_cons pe_str (pa_cons pe_str (pa_cons pe_str (pa_cons pe_str pa_nil))))) (pe_op op_sub (pv 2) pe_int) (fun _ _ => rfl)) (pa_cons (pv 3) (pa_cons (pv 4) pa_nil)))))))))))), ?_⟩
  refine ⟨_, rfl, b, l, 9, rfl, BX, by decide, by decide, fun kd H1 k0 k1 B1 K1 => ?_⟩
  refine ⟨_, rfl, rfl, _, rfl, or_join (fun r => ⟨_, rfl, _, _, rfl, rfl, _, rfl, r⟩) (fun c => ?_) (fun c => ?_)⟩
  · refine ⟨_, rfl, rfl, _, rfl, ite2 (fun c1 => ?_) (fun c1 => ?_)⟩
    · refine ⟨_, rfl, b, l, 9, rfl, B1, by decide, by decide, fun r1 H2 a0 a1 B2 K2 => ⟨_, _, rfl, rfl, _, rfl, b, l, 1999999, rfl, B2, by decide, by decide, fun r2 H3 b0 b1 B3 K3 => ⟨_, _, rfl, rfl, small (by show 2 ≤ 1000; decide), fun p hp => ?_⟩⟩⟩
      have np := B3.new hp
      have B4 := B3.keep (same_new hp (.lst [V.int (r1 - 3), V.int (r2 - 999999)]))
      refine ⟨_, rfl, b, l, 2, rfl, B4, by decide, by decide, fun r3 H5 c0 c1 B5 K5 => ?_⟩
      have hp5 := K5 _ _ upd_same np.1 np.2
      have fin : ∀ (z : Int), -1000000 < z → z < 1000000 → ∀ t, H5 t = none → Q (.ref t) (upd H5 t (.tup [.str "num", .int z])) := fun z z0 z1 t ht =>
        k (.num z) _ _ ⟨z0, z1⟩ (by show 1 ≤ _; omega) ⟨t, rfl, SqT.of upd_same⟩ (B5.keep (same_new ht _)) ((K1.trans (K2.trans (K3.trans ((Keep.of (same_new hp _)).trans K5)))).trans (Keep.of (same_new ht _)))
      have hr3 : r3 = 0 ∨ r3 = 1 := by omega
      rcases hr3 with rfl | rfl
      · exact ⟨p, _, _, _, rfl, rfl, SqL.of hp5, rfl, small (by show 2 ≤ 1000; decide), fin _ (by omega) (by omega)⟩
      · exact ⟨p, _, _, _, rfl, rfl, SqL.of hp5, rfl, small (by show 2 ≤ 1000; decide), fin _ (by omega) (by omega)⟩
    · refine ⟨_, rfl, b, l, rfl, B1, fun ce H2 B2 K2 => ⟨small (by show 2 ≤ 1000; decide), fun t ht => ?_⟩⟩
      exact k (.cel ce) _ _ trivial (by show 1 ≤ _; omega) ⟨t, rfl, SqT.of upd_same⟩ (B2.keep (same_new ht _)) ((K1.trans K2).trans (Keep.of (same_new ht _)))
  · rw [dec_i] at c
    simp only [Bool.or_eq_false_iff, decide_eq_false_iff_not] at c
    obtain ⟨cd, ck⟩ := c
    refine ⟨_, rfl, rfl, _, rfl, ite2 (fun c1 => ?_) (fun c1 => ?_)⟩
    · refine ⟨_, rfl, b, l, rfl, B1, fun ce H2 B2 K2 => ⟨_, rfl, _, rfl, b, l, rfl, B2, fun de H3 B3 K3 => ⟨small (by show 3 ≤ 1000; decide), fun t ht => ?_⟩⟩⟩
      exact k (.sum ce de) _ _ trivial (by show 1 ≤ _; omega) ⟨t, rfl, SqT.of upd_same⟩ (B3.keep (same_new ht _)) ((K1.trans (K2.trans K3)).trans (Keep.of (same_new ht _)))
    · rw [dec_i, decide_eq_true_eq] at c1
      refine ⟨_, rfl, _, rfl, _, _, rfl, rfl, b, l, d - 1, rfl, B1, by omega, by omega, fun p x H2 gp hp ap B2 K2 => ?_⟩
      refine ⟨_, rfl, _, rfl, _, _, rfl, rfl, b, l, d - 1, rfl, B2, by omega, by omega, fun q y H3 gq hq aq B3 K3 => ?_⟩
      have ap3 := ap.tk (.keep B2 K3)
      refine ⟨_, rfl, rfl, _, rfl, ite2 (fun c2 => ?_) (fun c2 => ?_)⟩
      · refine ⟨_, rfl, _, rfl, _, _, rfl, rfl, b, l, d - 1, rfl, B3, by omega, by omega, fun r z H4 gr hr4 ar B4 K4 => ?_⟩
        refine ⟨_, rfl, _, rfl, _, rfl, _, rfl, _, rfl, _, _, rfl, rfl, b, l, d - 1, rfl, B4, by omega, by omega, fun s u H5 gs hs as B5 K5 => ⟨small (by show 5 ≤ 1000; decide), fun t ht => ?_⟩⟩
        have k6 : Tk K H5 (upd H5 t (.tup [.str "pick", x, y, z, u])) := .same (same_new ht _)
        refine k (.pick p q r s) _ _ ⟨gp, gq, gr, gs⟩ (by show max (max p.hgt q.hgt) (max r.hgt s.hgt) + 1 ≤ _; omega)
          ⟨t, x, y, z, u, rfl, SqT.of upd_same, ((ap3.tk (.keep B3 K4)).tk (.keep B4 K5)).tk k6, ((aq.tk (.keep B3 K4)).tk (.keep B4 K5)).tk k6, (ar.tk (.keep B4 K5)).tk k6, as.tk k6⟩
          (B5.keep (same_new ht _)) ((K1.trans (K2.trans (K3.trans (K4.trans K5)))).trans (Keep.of (same_new ht _)))
      · rw [dec_i, decide_eq_true_eq] at c2
        refine ⟨small (by show 4 ≤ 1000; decide), fun p4 hp4 => ?_⟩
        have fin : ∀ (w3 : W3) t, upd H3 p4 (.lst [.str "add", .str "sub", .str "mul", .str "add"]) t = none → Q (.ref t) (upd (upd H3 p4 (.lst [.str "add", .str "sub", .str "mul", .str "add"])) t (.tup [.str w3.s, x, y])) := fun w3 t ht => by
          have k6 : Tk K H3 (upd (upd H3 p4 (.lst [.str "add", .str "sub", .str "mul", .str "add"])) t (.tup [.str w3.s, x, y])) := (Tk.same (same_new hp4 _)).trans (.same (same_new ht _))
          exact k (.op w3 p q) _ _ ⟨gp, gq⟩ (by show max p.hgt q.hgt + 1 ≤ _; omega) ⟨t, x, y, rfl, SqT.of upd_same, ap3.tk k6, aq.tk k6⟩ ((B3.keep (same_new hp4 _)).keep (same_new ht _))
            ((K1.trans (K2.trans K3)).trans ((Keep.of (same_new hp4 _)).trans (Keep.of (same_new ht _))))
        have hk : kd = 5 ∨ kd = 6 ∨ kd = 7 ∨ kd = 8 := by omega
        rcases hk with rfl | rfl | rfl | rfl
        · exact ⟨_, rfl, _, _, rfl, rfl, p4, _, _, _, rfl, rfl, SqL.of upd_same, rfl, _, rfl, _, rfl, small (by show 3 ≤ 1000; decide), fin .add⟩
        · exact ⟨_, rfl, _, _, rfl, rfl, p4, _, _, _, rfl, rfl, SqL.of upd_same, rfl, _, rfl, _, rfl, small (by show 3 ≤ 1000; decide), fin .sub⟩
        · exact ⟨_, rfl, _, _, rfl, rfl, p4, _, _, _, rfl, rfl, SqL.of upd_same, rfl, _, rfl, _, rfl, small (by show 3 ≤ 1000; decide), fin .mul⟩
        · exact ⟨_, rfl, _, _, rfl, rfl, p4, _, _, _, rfl, rfl, SqL.of upd_same, rfl, _, rfl, _, rfl, small (by show 3 ≤ 1000; decide), fin .add⟩
theorem cal_lpart {f : Addr} {fd : FuncData} (F : Fun K "_law_part" "_law_part" s_l_part f fd) (Ct : Cal P w K mg base 1 "_law_take" ["_law_box", "_law_many"] spTake) (Cc : Cal P w K mg base 2 "_law_cell" ["_law_box"] spCell)
    (m : mg "_law_part" = some (.ref f)) (b : Binds K fd ["_law_box", "_law_deep_here"] []) : ∀ n : Nat, Cal P w K mg base (n + 2) "_law_part" ["_law_box", "_law_deep_here"] (spPart K n)
  | 0 => by
    have no : ∀ vs H Q E, ¬ spPart K 0 vs H Q E := fun vs H Q E ⟨_, _, _, _, _, _, h, _⟩ => Nat.not_lt_zero _ h
    exact ⟨f, fd, ⟨fun vs H Q E h => absurd h (no vs H Q E), fun A outer s H args us vs Q E _ _ _ _ h => absurd h (no vs H Q E)⟩, m, F.kp, b⟩
  | n + 1 => ⟨f, fd, ok_lpart F Ct Cc (cal_lpart F Ct Cc m b n), m, F.kp, b⟩
end
end U

namespace U
open PySem L2 PyProof.Rows
section
variable {P : Program} {w : World} {K : PySem.W.Frag} {mg : Str → Option Value} {base : Heap}
theorem ok_lpart_text {n : Nat} {f : Addr} {fd : FuncData} (F : Fun K "_law_part_text" "_law_part_text" s_l_part_text f fd) (B : Bt mg) (C_l_part_text : Cal P w K mg base n "_law_part_text" ["_law_part_here"] (spPT K n)) : FnOk P w K mg base CX0 (n + 1) f fd ["_law_part_here"] (spPT K (n + 1)) := by
  refine F.ok sc_l_part_text (fun vs H Q E h => ?_) (fun cdv A outer s H vs Q E hr h => ?_)
  · obtain ⟨p, v, rfl, _⟩ := h
    rfl
  obtain ⟨p, v, rfl, ap, gp, hp, hp8, k⟩ := h
  refine ⟨_, (pss_cons (ps_if (pt_cmpR op_in_seq (pe_ix ix_tup (pv 0) pe_int (fun _ _ => rfl)) (pe_tup (pa_cons pe_str (pa_cons pe_str pa_nil))) (nomarkIn _)) (pss_one (ps_ret (pe_callTy call_str_any (by rfl) B.str boot_str (pa_cons (pe_ix ix_tup (pv 0) pe_int (fun _ _ => rfl)) pa_nil)))) pss_nil)
      (pss_cons (ps_if (pt_cmpR op_eq (pe_ix ix_tup (pv 0) pe_int (fun _ _ => rfl)) pe_str (nomark _)) (pss_one (ps_ret (pe_op op_add_str (pe_op op_add_str (pe_op op_add_str pe_str (pe_ix ix_tup (pv 0) pe_int (fun _ _ => rfl))) pe_str) (pe_ix ix_tup (pv 0) pe_int (fun _ _ => rfl))))) pss_nil)
      (pss_one (ps_ret (pe_op op_add_str (pe_op op_add_str (pe_ix ix_tup (pv 0) pe_int (fun _ _ => rfl)) pe_str) (pe_bm PySem.F.plainAttrs_str PySem.F.slot_str_join PySem.F.type_str_join mt_join pe_str (pa_cons (pe_lc (own := [("_law_one", 1)])  rfl sc_l_part_text.nd (pi_tup (pe_slice sl_tup (pv 0) (po_some pe_int) po_none)) (blkOk_by (N := ["_law_part_here", "_law_one"]) (sc := defScope s_l_part_text) (by decide +kernel)) (fun _ _ _ _ _ => pg_name (i := 1) sc_l_part_text.nd rfl (Or.inl rfl)) (fun _ _ _ _ _ => pts_nil) (fun _ _ _ _ _ => (pc_c C_l_part_text (hr.mono (by first | exact Nat.le_refl _ | decide | omega)) (by rfl) (pa_cons (pv 1) pa_nil)))) pa_nil))))))), ?_⟩
  obtain ⟨a0, xs0, rfl, hT⟩ := ap.head
  refine ⟨_, rfl, a0, _, _, _, rfl, rfl, hT, at0, small (by show 2 ≤ 1000; decide), fun t ht => ?_⟩
  have s1 : Same H (upd H t (.tup [.str "num", .str "cell"])) := same_new ht _
  have t1 : Tk K H (upd H t (.tup [.str "num", .str "cell"])) := .same s1
  refine ⟨t, _, rfl, .inr (SqT.of upd_same), rfl, rfl, ?_⟩
  generalize upd H t (.tup [.str "num", .str "cell"]) = H1 at s1 t1 ⊢
  rw [show (if false = true then !inV (.str p.word) [.str "num", .str "cell"] else inV (.str p.word) [.str "num", .str "cell"]) = (p.isNum || p.isCel) from inW p]
  refine ⟨_, rfl, ?_⟩
  rcases p.kinds with ⟨n, rfl⟩ | ⟨c, rfl⟩ | ⟨c, d, rfl⟩ | o
  · refine iteT ?_
    obtain ⟨a, e, h1⟩ := ap
    cases e
    refine ⟨_, rfl, a0, _, _, _, rfl, rfl, t1 _ _ h1, rfl, .inl ⟨n, rfl, log_ok gp.1 gp.2, ?_⟩⟩
    have e : (toString n : Str) = SX.S (Part.num n).tx := numS_nl n
    rw [e]
    exact k _ s1
  · refine iteT ?_
    obtain ⟨a, e, h1⟩ := ap
    cases e
    exact ⟨_, rfl, a0, _, _, _, rfl, rfl, t1 _ _ h1, rfl, .inr ⟨_, rfl, k _ s1⟩⟩
  · refine iteF ?_
    obtain ⟨a, e, h1⟩ := ap
    cases e
    refine ⟨_, rfl, a0, _, _, _, rfl, rfl, t1 _ _ h1, rfl, rfl, _, rfl, ?_⟩
    refine iteT ?_
    refine ⟨_, rfl, a0, _, _, _, rfl, rfl, t1 _ _ h1, rfl, _, _, rfl, rfl, small (by show 6 ≤ 1000; decide), _, _, rfl, rfl, small (by show 7 ≤ 1000; decide), _, rfl, a0, _, _, _, rfl, rfl, t1 _ _ h1, rfl, _, _, rfl, rfl, small (by show 9 ≤ 1000; decide), ?_⟩
    rw [sumS_, blank_eq]
    show Q (.str (SX.S (sumL ++ [32]) ++ SX.S c.l ++ SX.S [32] ++ SX.S d.l)) H1
    rw [S_app, S_app, S_app]
    exact k _ s1
  · obtain ⟨n1, n2, n3⟩ := Part.op_not o
    rw [n1, n2]
    refine iteF ?_
    obtain ⟨a, xs, e, h1, h2⟩ := ap.node o
    cases e
    refine ⟨_, rfl, a0, _, _, _, rfl, rfl, t1 _ _ h1, at0, rfl, _, rfl, ?_⟩
    rw [dec_s, p.w_sum, n3]
    refine iteF ?_
    have wl4 := p.wd_len
    rw [Part.wd_eq o] at h1
    refine ⟨_, rfl, a0, _, _, _, rfl, rfl, t1 _ _ h1, at0, _, _, rfl, rfl, ?_, rfl, _, rfl, 1, rfl, a0, _, rfl, t1 _ _ h1, ?_, fun q hq => ⟨q, rfl, ⟨_, SqT.of upd_same⟩, fun D hD => ?_⟩⟩
    · rw [blank_eq, S_length]
      exact small (by show p.wd.length + 1 ≤ 1000; omega)
    · exact sl1_ne _ _
    · rw [cut1] at hD ⊢
      have gk : ∀ z ∈ p.kids, z.good ∧ z.hgt ≤ 8 := fun z hz => ⟨Part.kid_good gp hz, by have := Part.kid_hgt hz; omega⟩
      have s2 : Same H1 (upd H1 q (.tup xs)) := same_new hq _
      have q2 : SqT K (upd H1 q (.tup xs)) q xs := SqT.of upd_same
      generalize upd H1 q (.tup xs) = H2 at s2 q2 hD ⊢
      refine lc_tup (K := K) (a := q) (xs := xs) (fun i H4 => Same H2 H4 ∧ H4 D = some (.lst ((p.kids.take i).map fun z => V.str (SX.S z.tx)))) ⟨same_new hD _, upd_same⟩ (fun i H4 _ h => Tk.same h.1 _ _ q2) ?_ ?_
      · rintro i x H4 hx ⟨s4, d4⟩
        obtain ⟨z, hz, az⟩ := h2.get hx
        have mz : z ∈ p.kids := List.mem_of_getElem? hz
        have gz := gk z mz
        have hz' := Part.kid_hgt mz
        refine ⟨wipe_in (by decide), yes_ ?_⟩
        refine ⟨_, rfl, z, x, rfl, az.tk ((t1.trans (.same s2)).trans (.same s4)), gz.1, by omega, gz.2, fun H5 s5 => ⟨_, s5 _ _ d4, ?_, ?_⟩⟩
        · rw [List.length_map, List.length_take]
          have := p.kids_len
          exact small1000 (by omega)
        · refine ⟨fun c o e => by rw [upd_ne (ne_of_none e hD)]; exact s5 _ _ (s4 c o e), ?_⟩
          rw [upd_same, take_next hz, List.map_append]
          rfl
      · rintro H4 ⟨s4, d4⟩
        rw [h2.len, List.take_length] at d4
        refine ⟨_, D, p.kids.map (fun z => SX.S z.tx), rfl, rfl, .inl (SqL.of (by rw [d4, List.map_map]; rfl)), kids_size p.kids_len gk, _, _, rfl, rfl, ?_, ?_⟩
        · rw [join_kids, blank_eq, S_app, S_length, S_length]
          have e := Part.tx_kids o
          have l := Part.tx_le gp hp8
          rw [e] at l
          simp only [List.length_append] at l ⊢
          rw [sizeLine_eq]
          omega
        · rw [join_kids, blank_eq, S_app, S_app, List.append_assoc, ← Part.tx_kids o]
          exact k _ ((s1.trans s2).trans s4)
theorem cal_lpart_text {f : Addr} {fd : FuncData} (F : Fun K "_law_part_text" "_law_part_text" s_l_part_text f fd) (B : Bt mg) (m : mg "_law_part_text" = some (.ref f)) (b : Binds K fd ["_law_part_here"] []) : ∀ n : Nat, Cal P w K mg base n "_law_part_text" ["_law_part_here"] (spPT K n)
  | 0 => by
    have no : ∀ vs H Q E, ¬ spPT K 0 vs H Q E := fun vs H Q E ⟨p, _, _, _, _, h, _⟩ => by
      have := p.hgt_pos
      omega
    exact ⟨f, fd, ⟨fun vs H Q E h => absurd h (no vs H Q E), fun A outer s H args us vs Q E _ _ _ _ h => absurd h (no vs H Q E)⟩, m, F.kp, b⟩
  | n + 1 => ⟨f, fd, ok_lpart_text F B (cal_lpart_text F B m b n), m, F.kp, b⟩
end
end U

namespace U
open PySem L2 PyProof.Rows
section
variable {P : Program} {w : World} {K : PySem.W.Frag} {mg : Str → Option Value} {base : Heap}
theorem ok_lcontent {n : Nat} {f : Addr} {fd : FuncData} (F : Fun K "_law_content" "_law_content" s_l_content f fd) (C_l_take : Cal P w K mg base 1 "_law_take" ["_law_box", "_law_many"] spTake)
    (C_l_part : Cal P w K mg base (n + 2) "_law_part" ["_law_box", "_law_deep_here"] (spPart K n)) : FnOk P w K mg base CX0 (n + 3) f fd ["_law_box", "_law_deep_here"] (spContent K n) := by
  refine F.ok sc_l_content (fun vs H Q E h => ?_) (fun cdv A outer s H vs Q E hr h => ?_)
  · obtain ⟨b, l, d, rfl, _⟩ := h
    rfl
  obtain ⟨b, l, d, rfl, BX, d0, d1, k⟩ := h
  refine ⟨_, (pss_cons (ps_set (i := 2) sc_l_content.nd rfl (Or.inl rfl) (pc_c C_l_take (hr.mono (by first | exact Nat.le_refl _ | decide | omega)) (by rfl) (pa_cons (pv 0) (pa_cons pe_int pa_nil))))
      (pss_cons (ps_if (pt_cmpR op_eq (pv 2) pe_int (nomark _)) (pss_one (ps_ret pe_non)) pss_nil)
      (pss_cons (ps_if (pt_cmpR op_eq (pv 2) pe_int (nomark _)) (pss_one (ps_ret (pe_tup (pa_cons pe_str (pa_cons (pe_ix ix_list (pe_lst (pa_cons (pe_op op_sub (pc_c C_l_take (hr.mono (by first | exact Nat.le_refl _ | decide | omega)) (by rfl) (pa_cons (pv 0) (pa_cons pe_int pa_nil))) pe_int) (pa_cons (pe_op op_sub (pc_c C_l_take (hr.mono (by first | exact Nat.le_refl _ | decide | omega)) (by rfl) (pa_cons (pv 0) (pa_cons pe_int pa_nil))) pe_int) pa_nil))) (pc_c C_l_take (hr.mono (by first | exact Nat.le_refl _ | decide | omega)) (by rfl) (pa_cons (pv 0) (pa_cons pe_int pa_nil))) (fun _ _ => rfl)) pa_nil))))) pss_nil)
      (pss_cons (ps_set (i := 3) sc_l_content.nd rfl (Or.inl rfl) (pc_c C_l_part (hr.mono (by first | exact Nat.le_refl _ | decide | omega)) (by rfl) (pa_cons (pv 0) (pa_cons (pv 1) pa_nil))))
      (pss_one (ps_ret (pe_ifExp (pt_cmpR op_eq (pe_ix ix_tup (pv 3) pe_int (fun _ _ => rfl)) pe_str (nomark _)) (pe_tup (pa_cons pe_str (pa_cons pe_str pa_nil))) (pv 3)))))))), ?_⟩
  refine ⟨_, rfl, b, l, 5, rfl, BX, by decide, by decide, fun kd H1 k0 k1 B1 K1 => ?_⟩
  refine ⟨_, rfl, rfl, _, rfl, ite2 (fun c0 => ?_) (fun c0 => ?_)⟩
  · exact k none _ _ trivial rfl B1 K1
  refine ⟨_, rfl, rfl, _, rfl, ite2 (fun c1 => ?_) (fun c1 => ?_)⟩
  · refine ⟨_, rfl, b, l, 9, rfl, B1, by decide, by decide, fun r1 H2 a0 a1 B2 K2 => ⟨_, _, rfl, rfl, _, rfl, b, l, 1999999, rfl, B2, by decide, by decide, fun r2 H3 b0 b1 B3 K3 => ⟨_, _, rfl, rfl, small (by show 2 ≤ 1000; decide), fun p hp => ?_⟩⟩⟩
    have np := B3.new hp
    have B4 := B3.keep (same_new hp (.lst [V.int (r1 - 3), V.int (r2 - 999999)]))
    refine ⟨_, rfl, b, l, 2, rfl, B4, by decide, by decide, fun r3 H5 c0 c1 B5 K5 => ?_⟩
    have hp5 := K5 _ _ upd_same np.1 np.2
    have fin : ∀ (z : Int), -1000000 < z → z < 1000000 → ∀ t, H5 t = none → Q (.ref t) (upd H5 t (.tup [.str "num", .int z])) := fun z z0 z1 t ht =>
      k (some (.num z)) _ _ ⟨⟨z0, z1⟩, by show 1 ≤ _; omega⟩ ⟨t, rfl, SqT.of upd_same⟩ (B5.keep (same_new ht _)) ((K1.trans (K2.trans (K3.trans ((Keep.of (same_new hp _)).trans K5)))).trans (Keep.of (same_new ht _)))
    have hr3 : r3 = 0 ∨ r3 = 1 := by omega
    rcases hr3 with rfl | rfl
    · exact ⟨p, _, _, _, rfl, rfl, SqL.of hp5, rfl, small (by show 2 ≤ 1000; decide), fin _ (by omega) (by omega)⟩
    · exact ⟨p, _, _, _, rfl, rfl, SqL.of hp5, rfl, small (by show 2 ≤ 1000; decide), fin _ (by omega) (by omega)⟩
  · refine ⟨_, rfl, _, rfl, b, l, d, rfl, B1, d0, d1, fun p v H2 gp hp ap B2 K2 => ?_⟩
    obtain ⟨a, xs, rfl, hT⟩ := ap.head
    refine ⟨_, rfl, a, _, _, _, rfl, rfl, hT, at0, rfl, _, rfl, ?_⟩
    refine ite2 (fun c2 => ?_) (fun c2 => ?_)
    · refine ⟨small (by show 2 ≤ 1000; decide), fun t ht => ?_⟩
      exact k (some (.cel ⟨0, 0, by decide, by decide⟩)) _ _ ⟨trivial, by show 1 ≤ _; omega⟩ ⟨t, rfl, SqT.of (by rw [upd_same, show (⟨0, 0, by decide, by decide⟩ : Cel).s = ("a1" : Str) by decide +kernel] <;> rfl)⟩ (B2.keep (same_new ht _)) ((K1.trans K2).trans (Keep.of (same_new ht _)))
    · exact ⟨_, rfl, k (some p) _ _ ⟨gp, hp⟩ ap B2 (K1.trans K2)⟩
theorem ok_ltext {f : Addr} {fd : FuncData} (F : Fun K "_law_text" "_law_text" s_l_text f fd) (B : Bt mg) (C_l_part_text : Cal P w K mg base 8 "_law_part_text" ["_law_part_here"] (spPT K 8)) : FnOk P w K mg base CX0 9 f fd ["_law_content_here"] (spText K) := by
  refine F.ok sc_l_text (fun vs H Q E h => ?_) (fun cdv A outer s H vs Q E hr h => ?_)
  · obtain ⟨p, v, rfl, _⟩ := h
    rfl
  obtain ⟨p, v, rfl, ap, gp, k⟩ := h
  refine ⟨_, (pss_cons (ps_if (pt_cmpR op_isN (pv 0) pe_non (nomark _)) (pss_one (ps_ret pe_str)) pss_nil)
      (pss_one (ps_ret (pe_ifExp (pt_cmpR op_eq (pe_ix ix_tup (pv 0) pe_int (fun _ _ => rfl)) pe_str (nomark _)) (pc_c C_l_part_text (hr.mono (by first | exact Nat.le_refl _ | decide | omega)) (by rfl) (pa_cons (pv 0) pa_nil)) (pe_op op_add_str pe_str (pc_c C_l_part_text (hr.mono (by first | exact Nat.le_refl _ | decide | omega)) (by rfl) (pa_cons (pv 0) pa_nil))))))), ?_⟩
  cases p with
  | none =>
    cases (show v = V.non from ap)
    exact ⟨_, rfl, rfl, _, rfl, iteT (k _ (.refl H))⟩
  | some p =>
    have ap : PA K H p v := ap
    obtain ⟨a, xs, rfl, hT⟩ := ap.head
    refine ⟨_, rfl, rfl, _, rfl, iteF ?_⟩
    refine ⟨_, rfl, a, _, _, _, rfl, rfl, hT, at0, rfl, _, rfl, ?_⟩
    rw [dec_s, p.w_num]
    by_cases o : p.isNum = true
    · rw [o]
      refine iteT ?_
      refine ⟨_, rfl, p, _, rfl, ap, gp.1, gp.2, gp.2, fun H' s' => ?_⟩
      have e : SX.S p.tx = SX.S (ctx (some p)) := by
        cases p with
        | num n => rfl
        | _ => exact absurd o Bool.false_ne_true
      rw [e]
      exact k _ s'
    · have o : p.isNum = false := Bool.eq_false_iff.mpr o
      rw [o]
      refine iteF ?_
      refine ⟨_, rfl, p, _, rfl, ap, gp.1, gp.2, gp.2, fun H' s' => ⟨_, _, rfl, rfl, ?_, ?_⟩⟩
      · rw [eqS, S_length, S_length]
        have := Part.tx_le gp.1 gp.2
        rw [sizeLine_eq]
        simp only [List.length_cons, List.length_nil]
        omega
      · rw [eqS, S_app, ← ctx_not o]
        exact k _ s'
theorem ok_lreads {n : Nat} {f : Addr} {fd : FuncData} (F : Fun K "_law_reads" "_law_reads" s_l_reads f fd) (C_l_stretch : Cal P w K mg base 1 "_law_stretch" ["_law_one", "_law_other"] spStretchL)
    (C_l_reads : Cal P w K mg base (n + 1) "_law_reads" ["_law_content_here"] (spReads K n)) : FnOk P w K mg base CX0 (n + 1 + 1) f fd ["_law_content_here"] (spReads K (n + 1)) := by
  refine F.ok sc_l_reads (fun vs H Q E h => ?_) (fun cdv A outer s H vs Q E hr h => ?_)
  · obtain ⟨p, v, rfl, _⟩ := h
    rfl
  obtain ⟨p, v, rfl, ap, hp, _, k⟩ := h
  refine ⟨_, (pss_cons (ps_if (PW.pt (pw_or (pt_cmpR op_isN (pv 0) pe_non (nomark _)) (pw_or1 (pt_cmpR op_eq (pe_ix ix_tup (pv 0) pe_int (fun _ _ => rfl)) pe_str (nomark _))))) (pss_one (ps_ret (pe_lst pa_nil))) pss_nil)
      (pss_cons (ps_if (pt_cmpR op_eq (pe_ix ix_tup (pv 0) pe_int (fun _ _ => rfl)) pe_str (nomark _)) (pss_one (ps_ret (pe_lst (pa_cons (pe_ix ix_tup (pv 0) pe_int (fun _ _ => rfl)) pa_nil)))) pss_nil)
      (pss_cons (ps_if (pt_cmpR op_eq (pe_ix ix_tup (pv 0) pe_int (fun _ _ => rfl)) pe_str (nomark _)) (pss_one (ps_ret (pc_c C_l_stretch (hr.mono (by first | exact Nat.le_refl _ | decide | omega)) (by rfl) (pa_cons (pe_ix ix_tup (pv 0) pe_int (fun _ _ => rfl)) (pa_cons (pe_ix ix_tup (pv 0) pe_int (fun _ _ => rfl)) pa_nil))))) pss_nil)
      (pss_cons (ps_set (i := 1) sc_l_reads.nd rfl (Or.inl rfl) (pe_lst pa_nil))
      (pss_cons (ps_for PassesOwn.never rfl (pi_tup (pe_slice sl_tup (pv 0) (po_some pe_int) po_none)) (pg_name (i := 2) sc_l_reads.nd rfl (Or.inl rfl)) (pss_one (ps_for PassesOwn.never rfl (pi_list (pc_c C_l_reads (hr.mono (by first | exact Nat.le_refl _ | decide | omega)) (by rfl) (pa_cons (pv 2) pa_nil))) (pg_name (i := 3) sc_l_reads.nd rfl (Or.inl rfl)) (pss_one (ps_if (pt_cmpR op_notIn_seq (pv 3) (pv 1) (nomarkIn _)) (pss_one (ps_expr (pe_bm PySem.F.plainAttrs_list PySem.F.slot_list_append PySem.F.type_list_append mt_append (pv 1) (pa_cons (pv 3) pa_nil)))) pss_nil)))))
      (pss_one (ps_ret (pv 1)))))))), ?_⟩
  cases p with
  | none =>
    cases (show v = V.non from ap)
    exact ⟨_, rfl, rfl, _, rfl, iteT (iteT ⟨small (by decide), fun r hr => k r _ hr (same_new hr _) upd_same⟩)⟩
  | some p =>
    have ap : PA K H p v := ap
    obtain ⟨hn, h8⟩ := hp p rfl
    obtain ⟨a, xs0, rfl, hT⟩ := ap.head
    refine ⟨_, rfl, rfl, _, rfl, iteF ⟨_, rfl, a, _, _, _, rfl, rfl, hT, at0, rfl, _, rfl, ?_⟩⟩
    rw [dec_s, p.w_num]
    rcases p.kinds with ⟨m, rfl⟩ | ⟨c, rfl⟩ | ⟨c, d, rfl⟩ | o
    · exact iteT ⟨small (by decide), fun r hr => k r _ hr (same_new hr _) upd_same⟩
    · refine iteF ?_
      obtain ⟨a', e, h1⟩ := ap
      cases e
      exact ⟨_, rfl, a, _, _, _, rfl, rfl, h1, at0, rfl, _, rfl, iteT ⟨_, rfl, a, _, _, _, rfl, rfl, h1, rfl, small (by show 1 ≤ 1000; decide), fun r hr => k r _ hr (same_new hr _) upd_same⟩⟩
    · refine iteF ?_
      obtain ⟨a', e, h1⟩ := ap
      cases e
      refine ⟨_, rfl, a, _, _, _, rfl, rfl, h1, at0, rfl, _, rfl, iteF ⟨_, rfl, a, _, _, _, rfl, rfl, h1, at0, rfl, _, rfl, iteT ⟨_, rfl, a, _, _, _, rfl, rfl, h1, rfl, _, rfl, a, _, _, _, rfl, rfl, h1, rfl, c, d, rfl, fun r H' hr s' hr' => k r _ hr s' ?_⟩⟩⟩
      have e : readsC (some (Part.sum c d)) = strL c d := dedupe_nodup (acc := []) (l := strL c d) (by rw [List.nil_append]; exact strL_nodup c d)
      rw [e]
      exact hr'
    · obtain ⟨n1, n2, n3⟩ := Part.op_not o
      rw [n1]
      refine iteF ?_
      refine ⟨_, rfl, a, _, _, _, rfl, rfl, hT, at0, rfl, _, rfl, ?_⟩
      rw [dec_s, p.w_cell, n2]
      refine iteF ?_
      refine ⟨_, rfl, a, _, _, _, rfl, rfl, hT, at0, rfl, _, rfl, ?_⟩
      rw [dec_s, p.w_sum, n3]
      refine iteF ?_
      obtain ⟨a', xs, e, h1, h2⟩ := ap.node o
      cases e
      refine ⟨small (by decide), fun r hr => ?_⟩
      have s1 : Same H (upd H r (.lst [])) := same_new hr _
      have r1 : upd H r (.lst []) r = some (.lst []) := upd_same
      generalize upd H r (.lst []) = H1 at s1 r1 ⊢
      refine ⟨_, rfl, 1, rfl, a, _, rfl, Tk.same s1 _ _ h1, sl1_ne _ _, fun q hq => ⟨q, rfl, ⟨_, SqT.of upd_same⟩, ?_⟩⟩
      rw [cut1]
      have s2 : Same H1 (upd H1 q (.tup xs)) := same_new hq _
      have q2 : SqT K (upd H1 q (.tup xs)) q xs := SqT.of upd_same
      have r2 := s2 _ _ r1
      generalize upd H1 q (.tup xs) = H2 at s2 q2 r2 ⊢
      have h3 : PAs K H2 p.kids xs := h2.tk (.same (s1.trans s2))
      -- Keep r r: all but the list of what is found
      have tk : ∀ {G G' : Hp} {ys : List V}, G r = some (.lst ys) → Keep r r G G' → Tk K G G' := fun {G G' ys} g kp a0 zs h => by
        rcases h with (h | ⟨o, h⟩) | h
        · have ne : a0 ≠ r := ne_of h g (by intro z; cases z)
          exact .inl (.inl (kp _ _ h ne ne))
        · have ne : a0 ≠ r := ne_of h g (by intro z; cases z)
          exact .inl (.inr ⟨o, kp _ _ h ne ne⟩)
        · exact .inr h
      refine for_tup (K := K) (a := q) (xs := xs) (fun i σ H4 => ∃ (v : Option V) (u : Option V), σ = [some (.ref a), some (.ref r), v, u] ∧ Keep r r H2 H4 ∧ H4 r = some (.lst ((((p.kids.take i).flatMap Part.cells).foldl addU []).map V.str)))
        ⟨none, none, rfl, .refl _ _ _, r2⟩ (fun i σ H4 _ ⟨_, _, _, k4, _⟩ => tk r2 k4 _ _ q2) ?_ ?_
      · rintro i x σ H4 hx ⟨v, u, rfl, k4, r4⟩
        obtain ⟨z, hz, az⟩ := h3.get hx
        have mz : z ∈ p.kids := List.mem_of_getElem? hz
        have hz' := Part.kid_hgt mz
        have tot : ∀ j : Nat, ((p.kids.take j).flatMap Part.cells).length ≤ 3600000 := fun j => by
          have h5 := Part.cells_le h8
          rw [Part.cells_kids o] at h5
          have h6 : (p.kids.take j).flatMap Part.cells ++ (p.kids.drop j).flatMap Part.cells = p.kids.flatMap Part.cells := by rw [← List.flatMap_append, List.take_append_drop]
          rw [← h6, List.length_append] at h5
          omega
        refine ⟨_, rfl, some z, x, rfl, az.tk (tk r2 k4), (fun y e => by cases e; exact ⟨by omega, by omega⟩), by omega, fun D H5 hD s5 hD5 => ?_⟩
        have r5 := s5 _ _ r4
        have nDr : D ≠ r := (ne_of_none r4 hD).symm
        refine ⟨D, rfl, ⟨_, SqL.of hD5⟩, for_list (K := K) (a := D) (xs := (readsC (some z)).map V.str) (fun j σ H6 => ∃ u : Option V, σ = [some (.ref a), some (.ref r), some x, u] ∧ Keep r r H5 H6 ∧ H6 r = some (.lst ((((readsC (some z)).take j).foldl addU (((p.kids.take i).flatMap Part.cells).foldl addU [])).map V.str)))
          ⟨u, rfl, .refl _ _ _, r5⟩ (fun j σ H6 _ ⟨_, _, k6, _⟩ => SqL.of (k6 _ _ hD5 nDr nDr)) ?_ ?_⟩
        · rintro j y σ H6 hy ⟨u, rfl, k6, r6⟩
          obtain ⟨t, ht, rfl⟩ : ∃ t, (readsC (some z))[j]? = some t ∧ y = V.str t := by
            rw [List.getElem?_map] at hy
            cases e : (readsC (some z))[j]? with
            | none => rw [e] at hy; cases hy
            | some t => rw [e] at hy; exact ⟨t, rfl, (Option.some.inj hy).symm⟩
          refine ⟨_, rfl, _, rfl, r, _, rfl, .inl (SqL.of r6), rfl, flat_strs _, _, rfl, ?_⟩
          generalize hacc : ((readsC (some z)).take j).foldl addU (((p.kids.take i).flatMap Part.cells).foldl addU []) = acc at r6 ⊢
          have nxt : ((readsC (some z)).take (j + 1)).foldl addU (((p.kids.take i).flatMap Part.cells).foldl addU []) = addU acc t := by
            rw [take_next ht, List.foldl_append, hacc]
            rfl
          rw [show (if true = true then !inV (.str t) (acc.map V.str) else inV (.str t) (acc.map V.str)) = !decide (t ∈ acc) from by rw [if_pos rfl, inS]]
          by_cases m : t ∈ acc
          · rw [decide_eq_true m]
            refine iteF ?_
            exact ⟨_, rfl, k6, by rw [nxt, addU, if_pos m]; exact r6⟩
          · rw [decide_eq_false m]
            refine iteT ?_
            refine ⟨_, rfl, .inl ⟨rfl, _, SqL.of r6⟩, _, rfl, r, _, _, rfl, rfl, r6, ?_, ?_⟩
            · rw [List.length_map, ← hacc]
              have h5 := foldU_len ((readsC (some z)).take j) (((p.kids.take i).flatMap Part.cells).foldl addU [])
              have h6 := foldU_len ((p.kids.take i).flatMap Part.cells) []
              have h7 := foldU_len z.cells []
              have h8' := Part.cells_le (p := z) (by omega)
              have h9 := tot i
              have h10 : ((readsC (some z)).take j).length ≤ z.cells.length := by
                rw [List.length_take]
                have : (readsC (some z)).length ≤ z.cells.length := by simpa [readsC, Part.reads, dedupe] using h7
                omega
              rw [sizeLine_eq]
              simp only [List.length_nil, Nat.zero_add] at h6
              omega
            · exact ⟨_, rfl, fun c o e n m => by rw [upd_ne n]; exact k6 c o e n m, by rw [upd_same, nxt, addU, if_neg m, List.map_append] <;> rfl⟩
        · rintro σ H6 ⟨u, rfl, k6, r6⟩
          refine ⟨_, _, rfl, fun c o e n m => k6 c o (s5 c o (k4 c o e n m)) n m, ?_⟩
          rw [r6, List.length_map, List.take_length, take_next hz, List.flatMap_append, List.foldl_append]
          show some (HO.lst (((dedupe z.cells).foldl addU _).map V.str)) = _
          rw [fold_dedupe]
          simp
      · rintro σ H4 ⟨v, u, rfl, k4, r4⟩
        refine ⟨_, rfl, k r H4 hr (fun c o e => ?_) ?_⟩
        · have ne : c ≠ r := ne_of_none e hr
          exact k4 c o (s2 c o (s1 c o e)) ne ne
        · rw [r4, h3.len, List.take_length, ← Part.cells_kids o]
          rfl
theorem cal_lreads {f : Addr} {fd : FuncData} (F : Fun K "_law_reads" "_law_reads" s_l_reads f fd) (Cs : Cal P w K mg base 1 "_law_stretch" ["_law_one", "_law_other"] spStretchL) (m : mg "_law_reads" = some (.ref f)) (b : Binds K fd ["_law_content_here"] []) : ∀ n : Nat, Cal P w K mg base (n + 1) "_law_reads" ["_law_content_here"] (spReads K n)
  | 0 => by
    have no : ∀ vs H Q E, ¬ spReads K 0 vs H Q E := fun vs H Q E ⟨p, _, _, _, _, h, _⟩ => Nat.lt_irrefl _ h
    exact ⟨f, fd, ⟨fun vs H Q E h => absurd h (no vs H Q E), fun A outer s H args us vs Q E _ _ _ _ h => absurd h (no vs H Q E)⟩, m, F.kp, b⟩
  | n + 1 => ⟨f, fd, ok_lreads F Cs (cal_lreads F Cs m b n), m, F.kp, b⟩
end
end U

namespace U
open PySem L2 PyProof.Rows
section
variable {P : Program} {w : World} {K : PySem.W.Frag} {mg : Str → Option Value} {base : Heap}
theorem ok_is_cell {f : Addr} {fd : FuncData} (F : Fun K "is_cell" "is_cell" s_is_cell f fd) (B : Bt mg) (g_COLUMNS : GStr mg "COLUMNS" "abcdef") (g_ROWS : GStr mg "ROWS" "123456789") : FnOk P w K mg base CX0 1 f fd ["text"] spIsCell := by
  refine F.ok sc_is_cell (fun vs H Q E h => ?_) (fun cdv A outer s H vs Q E hr h => ?_)
  · obtain ⟨l, rfl, _⟩ := h
    rfl
  obtain ⟨l, rfl, hl, k⟩ := h
  refine ⟨_, (pss_one (ps_ret (pe_and (pe_cmpR op_eq (pe_callB call_len_str (by rfl) B.len boot_len (pa_cons (pv 0) pa_nil)) pe_int (nomark _)) (pe_and (pe_cmpR op_in_sign (pe_ix ix_str (pv 0) pe_int (fun _ _ => rfl)) (pe_gs g_COLUMNS (by rfl)) (by rfl)) (pe_one (pe_cmpR op_in_sign (pe_ix ix_str (pv 0) pe_int (fun _ _ => rfl)) (pe_gs g_ROWS (by rfl)) (by rfl))))))), ?_⟩
  have hl' : (SX.S l).length ≤ sizeLine := by rw [S_length]; exact hl
  refine ⟨_, rfl, _, rfl, hl', rfl, _, rfl, ?_⟩
  match l, k, hl' with
  | [a, b], k, hl' =>
    refine iteT ?_
    refine ⟨_, rfl, _, _, _, rfl, rfl, hl', rfl, _, _, rfl, rfl, _, rfl, ?_⟩
    rw [col_in]
    have e : isCelL [a, b] = ((decide (97 ≤ a) && decide (a ≤ 102)) && (decide (49 ≤ b) && decide (b ≤ 57))) := rfl
    cases q : (decide (97 ≤ a) && decide (a ≤ 102)) with
    | false =>
      rw [e, q] at k
      exact iteF k
    | true =>
      rw [e, q] at k
      refine iteT ?_
      refine ⟨_, rfl, _, _, _, rfl, rfl, hl', rfl, _, _, rfl, rfl, ?_⟩
      rw [row_in]
      exact k
  | [], k, _ => exact iteF k
  | [_], k, _ => exact iteF k
  | a :: b :: c :: r, k, _ =>
    have e : decide (V.int ((SX.S (a :: b :: c :: r)).length : Int) = V.int 2) = false := by
      rw [dec_i, S_length]
      simp only [List.length_cons, decide_eq_false_iff_not]
      omega
    rw [e]
    exact iteF k
end
end U

namespace U
open PySem L2 PyProof.Rows
section
variable {P : Program} {w : World} {K : PySem.W.Frag} {mg : Str → Option Value} {base : Heap}
theorem ok_is_number {f : Addr} {fd : FuncData} (F : Fun K "is_number" "is_number" s_is_number f fd) (B : Bt mg) (g_FIGURES : GInt mg "FIGURES" 6) : FnOk P w K mg base CX0 1 f fd ["text"] spIsNum := by
  refine F.ok sc_is_number (fun vs H Q E h => ?_) (fun cdv A outer s H vs Q E hr h => ?_)
  · obtain ⟨l, rfl, _⟩ := h
    rfl
  obtain ⟨l, rfl, hl, k⟩ := h
  refine ⟨_, (pss_cons (ps_set (i := 1) sc_is_number.nd rfl (Or.inl rfl) (pe_bm PySem.F.plainAttrs_str PySem.F.slot_str_removeprefix PySem.F.type_str_removeprefix mt_removeprefix (pv 0) (pa_cons pe_str pa_nil)))
      (pss_cons (ps_if (PW.pt (pw_or (pt_not (pt_val (pe_bm0 PySem.F.plainAttrs_str PySem.F.slot_str_isascii PySem.F.type_str_isascii mt_isascii (pv 1)))) (pw_or (pt_not (pt_val (pe_bm0 PySem.F.plainAttrs_str PySem.F.slot_str_isdigit PySem.F.type_str_isdigit mt_isdigit (pv 1)))) (pw_or1 (pt_cmpR op_gt (pe_callB call_len_str (by rfl) B.len boot_len (pa_cons (pv 1) pa_nil)) (pe_gi g_FIGURES (by rfl)) (nomark _)))))) (pss_one (ps_ret pe_bl)) pss_nil)
      (pss_one (ps_ret (pe_or (pe_cmpR op_eq (pv 0) pe_str (nomark _)) (pe_one (pe_cmpR op_ne (pe_ix ix_str (pv 1) pe_int (fun _ _ => rfl)) pe_str (nomark _)))))))), ?_⟩
  refine ⟨_, rfl, rfl, _, _, rfl, rfl, by rw [S_length]; exact ten_m hl, ?_⟩
  rw [rp_minus]
  have nk := num_ok (figsL l)
  have ed : isNumL l = ((figsL l).all isDig && (!(figsL l).isEmpty && (decide ((figsL l).length ≤ 6) && (decide (l = [48]) || decide ((figsL l).head? ≠ some 48))))) := rfl
  refine ⟨_, rfl, rfl, _, rfl, rfl, trivial, _, rfl, ?_⟩
  cases h1 : Txt.isascii (SX.S (figsL l)) with
  | false =>
    refine iteT (iteT ?_)
    rw [h1, Bool.false_and] at nk
    have e : isNumL l = false := by rw [ed, ← Bool.and_assoc, ← nk, Bool.false_and]
    rw [e] at k
    exact k
  | true =>
    refine iteF ⟨_, rfl, rfl, _, rfl, rfl, trivial, _, rfl, ?_⟩
    cases h2 : Txt.isdigit (SX.S (figsL l)) with
    | false =>
      refine iteT (iteT ?_)
      rw [h1, h2, Bool.and_false] at nk
      have e : isNumL l = false := by rw [ed, ← Bool.and_assoc, ← nk, Bool.false_and]
      rw [e] at k
      exact k
    | true =>
      rw [h1, h2, Bool.and_true] at nk
      have fl : (figsL l).length ≤ l.length := by
        cases l with
        | nil => exact Nat.le_refl _
        | cons c r =>
          by_cases z : c = 45
          · subst z; rw [figsL_neg]; simp
          · rw [figsL_ne r z]; exact Nat.le_refl _
      refine iteF ⟨_, rfl, _, rfl, by rw [S_length]; exact ten_m (by omega), _, _, rfl, rfl, _, rfl, ?_⟩
      rw [S_length]
      have e3 : decide ((6 : Int) < ((figsL l).length : Int)) = !decide ((figsL l).length ≤ 6) := by
        rw [Bool.eq_iff_iff]
        simp
        omega
      rw [e3]
      rw [← Bool.and_assoc, ← nk, Bool.true_and] at ed
      cases h3 : decide ((figsL l).length ≤ 6) with
      | false =>
        refine iteT ?_
        rw [ed, h3, Bool.false_and] at k
        exact k
      | true =>
        rw [h3, Bool.true_and] at ed
        refine iteF ⟨_, rfl, rfl, _, rfl, ?_⟩
        rw [zeroS, dec_s]
        have e4 : decide (SX.S l = SX.S [48]) = decide (l = [48]) := by
          rw [Bool.eq_iff_iff]
          simp only [decide_eq_true_eq]
          exact ⟨SX.S_inj, fun z => by rw [z]⟩
        rw [e4]
        cases h4 : decide (l = [48]) with
        | true =>
          rw [ed, h4, Bool.true_or] at k
          exact iteT k
        | false =>
          rw [ed, h4, Bool.false_or] at k
          refine iteF ?_
          cases hf : figsL l with
          | nil =>
            rw [hf] at nk
            simp at nk
          | cons c r =>
            rw [hf] at k
            refine ⟨_, rfl, _, _, _, rfl, rfl, by rw [S_length]; have := ten_m hl; rw [hf] at fl; exact Nat.le_trans fl this, (show atI (c :: r) 0 = some c from at0), rfl, ?_⟩
            rw [dec_s]
            have e5 : decide ((⟨#[c]⟩ : Str) = SX.S [48]) = decide (c = 48) := by
              rw [Bool.eq_iff_iff]
              simp only [decide_eq_true_eq]
              exact ⟨fun z => by
                have q := SX.S_inj (a := [c]) (b := [48]) z
                simpa using q, fun z => by rw [z]⟩
            rw [e5]
            have e6 : decide ((c :: r).head? ≠ some 48) = !decide (c = 48) := by
              simp
            rw [e6] at k
            exact k
theorem ok_sum_at {f CB : Addr} {fd : FuncData} (F : Fun K "sum_at" "sum_at" s_sum_at f fd) (B : Bt mg) (e_BadFormula : ExcF K mg "BadFormula" CB) (C_is_cell : Cal P w K mg base 1 "is_cell" ["text"] spIsCell) : FnOk P w K mg base (L2.CX P w) 2 f fd ["words", "at"] (spSumAt K CB) := by
  refine F.okX sc_sum_at (fun vs H Q E h => ?_) (fun cdv A outer s H vs Q E hr h => ?_)
  · obtain ⟨a, W, k, rfl, _⟩ := h
    rfl
  obtain ⟨a, W, k, rfl, hS, ok, hk, q1, q2⟩ := h
  refine ⟨_, (pss_cons (ps_set (i := 2) sc_sum_at.nd rfl (Or.inl rfl) (pe_slice sl_list (pv 0) (po_some (pe_op op_add (pv 1) pe_int)) (po_some (pe_op op_add (pv 1) pe_int))))
      (pss_cons (ps_if (PW.pt (pw_or (pt_cmpR op_lt (pe_callB call_len_seq (by rfl) B.len boot_len (pa_cons (pv 2) pa_nil)) pe_int (nomark _)) (pw_or (pt_not (pt_val (pc_c C_is_cell (hr.mono (by first | exact Nat.le_refl _ | decide | omega)) (by rfl) (pa_cons (pe_ix ix_list (pv 2) pe_int (fun _ _ => rfl)) pa_nil)))) (pw_or1 (pt_not (pt_val (pc_c C_is_cell (hr.mono (by first | exact Nat.le_refl _ | decide | omega)) (by rfl) (pa_cons (pe_ix ix_list (pv 2) pe_int (fun _ _ => rfl)) pa_nil)))))))) (pss_one (ps_raise rfl (takes_of rfl rfl rfl rfl) (pmk_x e_BadFormula (by rfl) pe_str))) pss_nil)
      (pss_one (ps_ret (pe_tup (pa_cons (pe_tup (pa_cons pe_str (pa_cons (pe_ix ix_list (pv 2) pe_int (fun _ _ => rfl)) (pa_cons (pe_ix ix_list (pv 2) pe_int (fun _ _ => rfl)) pa_nil)))) (pa_cons (pe_op op_add (pv 1) pe_int) pa_nil))))))), ?_⟩
  refine ⟨_, rfl, _, rfl, _, _, rfl, rfl, _, rfl, _, rfl, _, _, rfl, rfl, _, rfl, a, _, rfl, hS, fun e he => ?_⟩
  rw [cut_two, svs_drop]
  have okd := okW_drop ok (k + 1)
  have s1 : Same H (upd H e (.lst ((svs (W.drop (k + 1))).take 2))) := same_new he _
  have ge : upd H e (.lst ((svs (W.drop (k + 1))).take 2)) e = some (.lst ((svs (W.drop (k + 1))).take 2)) := upd_same
  generalize upd H e (.lst ((svs (W.drop (k + 1))).take 2)) = H1 at s1 ge ⊢
  match hd : W.drop (k + 1), ge, okd, q1, q2 with
  | [], ge, _, _, q2 => exact ⟨_, rfl, e, _, rfl, .inl (SqL.of ge), _, _, rfl, rfl, _, rfl, iteT (iteT (q2 rfl _ s1))⟩
  | [c], ge, _, _, q2 => exact ⟨_, rfl, e, _, rfl, .inl (SqL.of ge), _, _, rfl, rfl, _, rfl, iteT (iteT (q2 rfl _ s1))⟩
  | c :: d :: r, ge, okd, q1, q2 =>
    have ge : H1 e = some (.lst [.str (SX.S c), .str (SX.S d)]) := ge
    have lc : c.length ≤ 10000000 := okd c (by simp)
    have ld : d.length ≤ 10000000 := okd d (by simp)
    refine ⟨_, rfl, e, _, rfl, .inl (SqL.of ge), _, _, rfl, rfl, _, rfl, iteF ?_⟩
    refine ⟨_, rfl, e, _, _, _, rfl, rfl, SqL.of ge, rfl, c, rfl, ten_m lc, _, rfl, ?_⟩
    have es : sumP (c :: d :: r) = if isCelL c = true ∧ isCelL d = true then some (.sum (celOf c) (celOf d), r) else none := rfl
    cases hc : isCelL c with
    | false =>
      rw [if_neg (fun z => by rw [hc] at z; cases z.1)] at es
      exact iteT (iteT (q2 es _ s1))
    | true =>
      refine iteF ⟨_, rfl, e, _, _, _, rfl, rfl, SqL.of ge, rfl, d, rfl, ten_m ld, _, rfl, ?_⟩
      cases hd' : isCelL d with
      | false =>
        rw [if_neg (fun z => by rw [hd'] at z; cases z.2)] at es
        exact iteT (q2 es _ s1)
      | true =>
        rw [if_pos ⟨hc, hd'⟩] at es
        refine iteF ⟨_, rfl, e, _, _, _, rfl, rfl, SqL.of ge, rfl, _, rfl, e, _, _, _, rfl, rfl, SqL.of ge, rfl, small (by show 3 ≤ 1000; decide), fun t1 h1 => ⟨_, rfl, _, _, rfl, rfl, small (by show 2 ≤ 1000; decide), fun t2 h2 => ?_⟩⟩
        have s2 : Same H1 (upd H1 t1 (.tup [.str "sum", .str (SX.S c), .str (SX.S d)])) := same_new h1 _
        have s3 := same_new h2 (.tup [.ref t1, .int ((k : Int) + 3)])
        have lr : W.length = k + 3 + r.length := by
          have := congrArg List.length hd
          rw [List.length_drop] at this
          simp only [List.length_cons] at this
          omega
        have dr : W.drop (k + 3) = r := by
          have e3 : W.drop (k + 1 + 2) = (W.drop (k + 1)).drop 2 := by rw [List.drop_drop]
          rw [hd] at e3
          exact e3
        refine q1 _ _ es t2 (.ref t1) _ ((s1.trans s2).trans s3) ⟨t1, rfl, ?_⟩ (by omega) ?_ (drop_back (j := 0) dr (by omega))
        · refine SqT.of (s3 _ _ ?_)
          rw [upd_same, celOf_of hc, celOf_of hd']
        · rw [upd_same, show (W.length - r.length : Nat) = k + 3 by omega]
          rfl
theorem ok_parts_at {n : Nat} {f CB aP : Addr} {fd : FuncData} (F : Fun K "parts_at" "parts_at" s_parts_at f fd) (B : Bt mg) (g_PARTS : mg "PARTS" = some (.ref aP)) (PF : PartsF K w aP) (C_part_at : CalX P w K mg base (2 * n + 3) "part_at" ["words", "at", "depth"] (spPartAt K CB n)) :
    FnOk P w K mg base (L2.CX P w) (2 * n + 3 + 1) f fd ["words", "at", "depth"] (spPartsAt K CB n) := by
  refine F.okX sc_parts_at (fun vs H Q E h => ?_) (fun cdv A outer s H vs Q E hr h => ?_)
  · obtain ⟨a, W, k, d, wd, m, rfl, _⟩ := h
    rfl
  obtain ⟨a, W, k, d, wd, m, rfl, hS, ok, hk, hw, ha, hd, q1, q2⟩ := h
  refine ⟨_, (pss_cons (ps_set (i := 3) sc_parts_at.nd rfl (Or.inl rfl) (pe_ix ix_list (pv 0) (pv 1) (fun _ _ => rfl)))
      (pss_cons (ps_set (i := 4) sc_parts_at.nd rfl (Or.inl rfl) (pe_lst pa_nil))
      (pss_cons (ps_set (i := 5) sc_parts_at.nd rfl (Or.inl rfl) (pe_op op_add (pv 1) pe_int))
      (pss_cons (ps_for (passes_of rfl) rfl (pi_range1 (by rfl) B.range (pa_cons (pe_ix ix_kdict (pe_gr g_PARTS (by rfl)) (pv 3) (fun _ _ => rfl)) pa_nil)) (pg_name (i := 6) sc_parts_at.nd rfl (Or.inl rfl)) (pss_cons (ps_asg (pc_x C_part_at (hr.mono (by first | exact Nat.le_refl _ | decide | omega)) (by rfl) (passes_call (takes_of rfl rfl rfl rfl) (fun _ _ _ _ h => h)) (pa_cons (pv 0) (pa_cons (pv 5) (pa_cons (pe_op op_add (pv 2) pe_int) pa_nil)))) (pg_tup (by rfl) (pgs_cons (pg_name (i := 7) sc_parts_at.nd rfl (Or.inl rfl)) (pgs_cons (pg_name (i := 5) sc_parts_at.nd rfl (Or.inl rfl)) pgs_nil))))
      (pss_one (ps_expr (pe_bm PySem.F.plainAttrs_list PySem.F.slot_list_append PySem.F.type_list_append mt_append (pv 4) (pa_cons (pv 7) pa_nil))))))
      (pss_one (ps_ret (pe_tup (pa_cons (pe_tup (pa_cons (pv 3) (StX.pa_star (pv 4) pa_nil))) (pa_cons (pv 5) pa_nil))))))))), ?_⟩
  have hm : m ≤ 4 := by
    rcases arity_cases wd with e | e | e
    · rw [e] at ha; cases ha; decide
    · rw [e] at ha; cases ha; decide
    · rw [e] at ha; cases ha
  have kd : KDct K w aP (SX.S wd) (.int m) := by
    obtain ⟨es, en, D⟩ := PF.dict
    rcases arity_cases wd with e | e | e
    · obtain ⟨t, z⟩ := PF.two _ e
      rw [e] at ha
      cases ha
      exact ⟨es, en, _, D.at_, D.lit, z, ⟨t, rfl⟩⟩
    · obtain ⟨t, z⟩ := PF.four _ e
      rw [e] at ha
      cases ha
      exact ⟨es, en, _, D.at_, D.lit, z, ⟨t, rfl⟩⟩
    · rw [e] at ha
      cases ha
  refine ⟨_, rfl, _, rfl, a, _, _, _, rfl, rfl, hS, svs_at hw, small (by decide), fun r hr0 => ?_⟩
  have s1 : Same H (upd H r (.lst [])) := same_new hr0 _
  have r1 : upd H r (.lst []) r = some (.lst []) := upd_same
  generalize upd H r (.lst []) = H1 at s1 r1 ⊢
  refine ⟨_, rfl, _, _, rfl, rfl, _, rfl, aP, SX.S wd, _, rfl, rfl, kd, _, rfl, by omega, by omega, ?_⟩
  -- Keep r r: all but the list of parts
  have sK : ∀ {G G' : Hp}, Keep r r G G' → ∀ c o, H c = some o → G c = some o → G' c = some o := fun {G G'} kp c o e g => kp c o g (ne_of_none e hr0) (ne_of_none e hr0)
  refine for_range (lo := 0) (fun i σ H4 => ∃ (ps : List Part) (xs : List V) (j : Nat) (u v : Option V), σ = [some (.ref a), some (.int k), some (.int d), some (.str (SX.S wd)), some (.ref r), some (.int j), u, v] ∧ Same H H4 ∧ H4 r = some (.lst xs) ∧ PAs K H4 ps xs ∧ ps.length = i ∧ j ≤ W.length ∧
      seqP (pt n) m (W.drop (k + 1)) = (match seqP (pt n) (m - i) (W.drop j) with | none => none | some (qs, z) => some (ps ++ qs, z)))
    ⟨[], [], k + 1, none, none, rfl, s1, r1, trivial, rfl, hk, ?_⟩ ?_ ?_
  · rw [Nat.sub_zero]
    cases seqP (pt n) m (W.drop (k + 1)) with
    | none => rfl
    | some z => rfl
  · rintro i σ H4 hi ⟨ps, xs, j, u, v, rfl, s4, r4, ap, hl, hj, es⟩
    have hi' : i < m := by omega
    obtain ⟨m', hm'⟩ : ∃ m', m - i = m' + 1 := ⟨m - i - 1, by omega⟩
    rw [hm'] at es
    have hS4 : SqL K H4 a (svs W) := s4.seq hS
    refine ⟨_, rfl, _, rfl, _, rfl, _, _, rfl, rfl, a, W, j, d + 1, rfl, hS4, ok, hj, by omega, fun p z ep t x H5 s5 px hz ht ez => ?_, fun en G sG => q2 ?_ _ (s4.trans sG)⟩
    · refine ⟨t, _, rfl, SqT.of ht, rfl, _, _, rfl, _, _, rfl, rfl, ?_⟩
      refine ⟨_, rfl, .inl ⟨rfl, _, SqL.of (s5 _ _ r4)⟩, _, rfl, r, _, _, rfl, rfl, s5 _ _ r4, ?_, ?_⟩
      · rw [ap.len, hl]
        exact small1000 (by omega)
      · have tk : Tk K H5 (upd H5 r (.lst (xs ++ [x]))) := keepTk (s5 _ _ r4) fun c o e n m => by rw [upd_ne n]; exact e
        refine ⟨ps ++ [p], xs ++ [x], W.length - z.length, _, _, rfl, fun c o e => ?_, upd_same, PAs.snoc ((ap.tk (.same s5)).tk tk) (px.tk tk), by simp [hl], by omega, ?_⟩
        · rw [upd_ne (ne_of_none e hr0)]
          exact s5 _ _ (s4 c o e)
        · rw [es, show m - (i + 1) = m' by omega, ← ez]
          rw [seqP_some ep]
          cases seqP (pt n) m' z with
          | none => rfl
          | some y => simp
    · rw [es, seqP_no en]
  · rintro σ H4 ⟨ps, xs, j, u, v, rfl, s4, r4, ap, hl, hj, es⟩
    have e0 : m - ((m : Int) - 0).toNat = 0 := by omega
    have e1 : (m : Int).toNat = m := by omega
    rw [show m - (m : Int).toNat = 0 by omega] at es
    have es : seqP (pt n) m (W.drop (k + 1)) = some (ps, W.drop j) := by rw [es]; simp [seqP]
    obtain ⟨p, hp⟩ := mkP_some ha (by rw [hl]; omega : ps.length = m)
    have hxs : xs.length ≤ 1000 := by rw [ap.len, hl]; omega
    refine ⟨_, rfl, _, rfl, r, xs, rfl, .inr (SqL.of r4), ?_, fun t1 h1 => ⟨_, rfl, small (by show 2 ≤ 1000; decide), fun t2 h2 => ?_⟩⟩
    · show (V.str (SX.S wd) :: (xs ++ [])).length ≤ sizeLine
      rw [List.append_nil, List.length_cons]
      rw [sizeLine_eq]
      omega
    · rw [List.append_nil] at h2 ⊢
      have s5 := same_new h1 (.tup (.str (SX.S wd) :: xs))
      have s6 := same_new h2 (.tup [.ref t1, .int j])
      have lz : (W.drop j).length ≤ W.length := by rw [List.length_drop]; omega
      have ej : W.length - (W.drop j).length = j := by rw [List.length_drop]; omega
      refine q1 _ _ _ es hp t2 (.ref t1) _ ((s4.trans s5).trans s6) (mkP_pa ha (by rw [hl]; omega) hp (SqT.of (s6 _ _ upd_same)) ((ap.tk (.same s5)).tk (.same s6))) lz ?_ ?_
      · rw [upd_same, ej]
      · rw [ej]
theorem ok_part_at {n : Nat} {f CB aP : Addr} {fd : FuncData} (F : Fun K "part_at" "part_at" s_part_at f fd) (B : Bt mg) (e_BadFormula : ExcF K mg "BadFormula" CB) (g_DEEPEST : GInt mg "DEEPEST" 5) (g_PARTS : mg "PARTS" = some (.ref aP)) (PF : PartsF K w aP)
    (C_is_number : Cal P w K mg base 1 "is_number" ["text"] spIsNum) (C_is_cell : Cal P w K mg base 1 "is_cell" ["text"] spIsCell) (C_sum_at : CalX P w K mg base 2 "sum_at" ["words", "at"] (spSumAt K CB))
    (C_parts_at : CalX P w K mg base (2 * n + 2) "parts_at" ["words", "at", "depth"] (spPartsX K CB n)) : FnOk P w K mg base (L2.CX P w) (2 * n + 2 + 1) f fd ["words", "at", "depth"] (spPartAt K CB n) := by
  refine F.okX sc_part_at (fun vs H Q E h => ?_) (fun cdv A outer s H vs Q E hr h => ?_)
  · obtain ⟨a, W, k, d, rfl, _⟩ := h
    rfl
  obtain ⟨a, W, k, d, rfl, hS, ok, hk, hd, q1, q2⟩ := h
  obtain ⟨es, en, D_PARTS⟩ := PF.dict
  refine ⟨_, (pss_cons (ps_if (pt_cmpR op_eq (pv 1) (pe_callB call_len_seq (by rfl) B.len boot_len (pa_cons (pv 0) pa_nil)) (nomark _)) (pss_one (ps_raise rfl (takes_of rfl rfl rfl rfl) (pmk_x e_BadFormula (by rfl) pe_str))) pss_nil)
      (pss_cons (ps_if (pt_cmpR op_gt (pv 2) (pe_gi g_DEEPEST (by rfl)) (nomark _)) (pss_one (ps_raise rfl (takes_of rfl rfl rfl rfl) (pmk_x e_BadFormula (by rfl) pe_str))) pss_nil)
      (pss_cons (ps_set (i := 3) sc_part_at.nd rfl (Or.inl rfl) (pe_ix ix_list (pv 0) (pv 1) (fun _ _ => rfl)))
      (pss_cons (ps_if (pt_val (pc_c C_is_number (hr.mono (by first | exact Nat.le_refl _ | decide | omega)) (by rfl) (pa_cons (pv 3) pa_nil))) (pss_one (ps_ret (pe_tup (pa_cons (pe_tup (pa_cons pe_str (pa_cons (pe_callTy call_int_str (by rfl) B.int boot_int (pa_cons (pv 3) pa_nil)) pa_nil))) (pa_cons (pe_op op_add (pv 1) pe_int) pa_nil))))) pss_nil)
      (pss_cons (ps_if (pt_val (pc_c C_is_cell (hr.mono (by first | exact Nat.le_refl _ | decide | omega)) (by rfl) (pa_cons (pv 3) pa_nil))) (pss_one (ps_ret (pe_tup (pa_cons (pe_tup (pa_cons pe_str (pa_cons (pv 3) pa_nil))) (pa_cons (pe_op op_add (pv 1) pe_int) pa_nil))))) pss_nil)
      (pss_cons (ps_if (pt_cmpR op_eq (pv 3) pe_str (nomark _)) (pss_one (ps_ret (pc_x C_sum_at (hr.mono (by first | exact Nat.le_refl _ | decide | omega)) (by rfl) (passes_call (takes_of rfl rfl rfl rfl) (fun _ _ _ _ h => h)) (pa_cons (pv 0) (pa_cons (pv 1) pa_nil))))) pss_nil)
      (pss_cons (ps_if (pt_cmpR (op_in_kd D_PARTS) (pv 3) (pe_gr g_PARTS (by rfl)) (by rfl)) (pss_one (ps_ret (pc_x C_parts_at (hr.mono (by first | exact Nat.le_refl _ | decide | omega)) (by rfl) (passes_call (takes_of rfl rfl rfl rfl) (fun _ _ _ _ h => h)) (pa_cons (pv 0) (pa_cons (pv 1) (pa_cons (pv 2) pa_nil)))))) pss_nil)
      (pss_one (ps_raise rfl (takes_of rfl rfl rfl rfl) (pmk_x e_BadFormula (by rfl) (pe_joined (.cons pe_str (.cons (pe_fmt (pv 3)) .nil))))))))))))), ?_⟩
  refine ⟨_, rfl, _, rfl, a, _, rfl, .inl hS, rfl, _, rfl, ?_⟩
  rw [dec_i, svs_len]
  by_cases e0 : k = W.length
  · rw [decide_eq_true (by rw [e0])]
    refine iteT (q2 ?_ _ (.refl H))
    rw [e0, List.drop_length]
    cases n <;> rfl
  have hk' : k < W.length := by omega
  rw [decide_eq_false (by omega)]
  refine iteF ⟨_, rfl, _, _, rfl, rfl, _, rfl, ?_⟩
  cases n with
  | zero =>
    rw [decide_eq_true (by omega)]
    exact iteT (q2 rfl _ (.refl H))
  | succ n =>
    rw [decide_eq_false (by omega)]
    refine iteF ?_
    obtain ⟨wd, hw, hdr⟩ := drop_at hk'
    have lw : wd.length ≤ 10000000 := ok wd (List.mem_of_getElem? hw)
    refine ⟨_, rfl, _, rfl, a, _, _, _, rfl, rfl, hS, svs_at hw, ?_⟩
    have ept : pt (n + 1) (W.drop k) = if isNumL wd = true then some (.num (valL wd), W.drop (k + 1)) else if isCelL wd = true then some (.cel (celOf wd), W.drop (k + 1)) else if wd = sumL then sumP (W.drop (k + 1)) else match arity wd with | none => none | some m => match seqP (pt n) m (W.drop (k + 1)) with | none => none | some (ps, r') => match mkP wd ps with | none => none | some p => some (p, r') := by rw [hdr]; rfl
    have lz : (W.drop (k + 1)).length ≤ W.length := by rw [List.length_drop]; omega
    have ej : W.length - (W.drop (k + 1)).length = k + 1 := by rw [List.length_drop]; omega
    refine ⟨_, rfl, wd, rfl, lw, _, rfl, ?_⟩
    cases hn : isNumL wd with
    | true =>
      rw [if_pos hn] at ept
      refine iteT ⟨_, rfl, _, _, rfl, isNumL_val hn, by rw [S_length]; have := isNumL_len hn; omega, small (by show 2 ≤ 1000; decide), fun t1 h1 => ⟨_, rfl, _, _, rfl, rfl, small (by show 2 ≤ 1000; decide), fun t2 h2 => ?_⟩⟩
      have s6 := same_new h2 (.tup [.ref t1, .int ((k : Int) + 1)])
      exact q1 _ _ ept t2 (.ref t1) _ ((same_new h1 _).trans s6) ⟨t1, rfl, SqT.of (s6 _ _ upd_same)⟩ lz (by rw [upd_same, ej]; rfl) (by rw [ej])
    | false =>
      rw [if_neg (by rw [hn]; exact Bool.false_ne_true)] at ept
      refine iteF ⟨_, rfl, wd, rfl, ten_m lw, _, rfl, ?_⟩
      cases hc : isCelL wd with
      | true =>
        rw [if_pos hc] at ept
        refine iteT ⟨_, rfl, small (by show 2 ≤ 1000; decide), fun t1 h1 => ⟨_, rfl, _, _, rfl, rfl, small (by show 2 ≤ 1000; decide), fun t2 h2 => ?_⟩⟩
        have s6 := same_new h2 (.tup [.ref t1, .int ((k : Int) + 1)])
        exact q1 _ _ ept t2 (.ref t1) _ ((same_new h1 _).trans s6) ⟨t1, rfl, SqT.of (s6 _ _ (by rw [upd_same, celOf_of hc]))⟩ lz (by rw [upd_same, ej]; rfl) (by rw [ej])
      | false =>
        rw [if_neg (by rw [hc]; exact Bool.false_ne_true)] at ept
        refine iteF ⟨_, rfl, rfl, _, rfl, ?_⟩
        rw [sumS, dec_s]
        by_cases hs : wd = sumL
        · rw [if_pos hs] at ept
          rw [decide_eq_true (by rw [hs])]
          refine iteT ⟨_, rfl, _, rfl, a, W, k, rfl, hS, ok, hk', fun p r e => q1 p r (ept.trans e), fun e => q2 (ept.trans e)⟩
        · rw [if_neg hs] at ept
          rw [decide_eq_false (fun z => hs (SX.S_inj z))]
          refine iteF ⟨_, rfl, ?_⟩
          cases ha : arity wd with
          | none =>
            rw [ha] at ept
            refine ⟨_, _, rfl, rfl, PF.no _ ha, _, rfl, ?_⟩
            refine iteF ?_
            have em : (Str.empty ++ ("no part begins with: " : Str)).length = 21 := by decide +kernel
            refine ⟨_, rfl, small (by decide +kernel), _, rfl, .inl ⟨_, rfl, by rw [S_length]; exact ten_m lw, _, rfl, ?_, q2 ept _ (.refl H)⟩⟩
            have ea : ∀ a b : Str, (a ++ b).length = a.length + b.length := fun a b => by
              show (a.cps ++ b.cps).size = _
              rw [Array.size_append]
              rfl
            rw [ea, em, S_length, sizeLine_eq]
            omega
          | some m =>
            rw [ha] at ept
            have ya : ∃ t i, PySem.W.nsIn K aP (SX.S wd) = some (some (.int i t)) := by
              rcases arity_cases wd with e | e | e
              · obtain ⟨t, z⟩ := PF.two _ e; exact ⟨t, _, z⟩
              · obtain ⟨t, z⟩ := PF.four _ e; exact ⟨t, _, z⟩
              · rw [e] at ha; cases ha
            obtain ⟨ti, ii, yn⟩ := ya
            refine ⟨_, _, rfl, rfl, yn, _, rfl, ?_⟩
            refine iteT ⟨_, rfl, _, rfl, _, rfl, ?_⟩
            refine ⟨a, W, k, d, wd, m, rfl, hS, ok, hk', hw, ha, by omega, fun ps r p e1 e2 => q1 p r ?_, fun e => q2 ?_⟩
            · rw [ept]
              simp only [e1, e2]
            · rw [ept]
              simp only [e]
end
end U

namespace U
open PySem L2 PyProof.Rows
section
variable {P : Program} {w : World} {K : PySem.W.Frag} {mg : Str → Option Value} {base : Heap}
theorem cal_part_at {f fs CB aP : Addr} {fd fds : FuncData} (F : Fun K "part_at" "part_at" s_part_at f fd) (FS : Fun K "parts_at" "parts_at" s_parts_at fs fds) (B : Bt mg) (e_BadFormula : ExcF K mg "BadFormula" CB) (g_DEEPEST : GInt mg "DEEPEST" 5) (g_PARTS : mg "PARTS" = some (.ref aP)) (PF : PartsF K w aP)
    (C_is_number : Cal P w K mg base 1 "is_number" ["text"] spIsNum) (C_is_cell : Cal P w K mg base 1 "is_cell" ["text"] spIsCell) (C_sum_at : CalX P w K mg base 2 "sum_at" ["words", "at"] (spSumAt K CB))
    (m : mg "part_at" = some (.ref f)) (b : Binds K fd ["words", "at", "depth"] []) (ms : mg "parts_at" = some (.ref fs)) (bs : Binds K fds ["words", "at", "depth"] []) : ∀ n : Nat, CalX P w K mg base (2 * n + 3) "part_at" ["words", "at", "depth"] (spPartAt K CB n)
  | 0 => ⟨f, fd, ok_part_at (n := 0) F B e_BadFormula g_DEEPEST g_PARTS PF C_is_number C_is_cell C_sum_at ⟨fs, fds, ⟨fun vs H Q E h => h.elim, fun A outer s H args us vs Q E _ _ _ _ h => h.elim⟩, ms, FS.kp, bs⟩, m, F.kp, b⟩
  | n + 1 => ⟨f, fd, ok_part_at (n := n + 1) F B e_BadFormula g_DEEPEST g_PARTS PF C_is_number C_is_cell C_sum_at
      ⟨fs, fds, ok_parts_at FS B g_PARTS PF (cal_part_at F FS B e_BadFormula g_DEEPEST g_PARTS PF C_is_number C_is_cell C_sum_at m b ms bs n), ms, FS.kp, bs⟩, m, F.kp, b⟩
theorem ok_read {f CB : Addr} {fd : FuncData} (F : Fun K "read" "read" s_read f fd) (B : Bt mg) (e_BadFormula : ExcF K mg "BadFormula" CB) (C_is_number : Cal P w K mg base 1 "is_number" ["text"] spIsNum) (C_part_at : CalX P w K mg base 13 "part_at" ["words", "at", "depth"] (spPartAt K CB 5)) :
    FnOk P w K mg base (L2.CX P w) 14 f fd ["text"] (spRead K CB) := by
  refine F.okX sc_read (fun vs H Q E h => ?_) (fun cdv A outer s H vs Q E hr h => ?_)
  · obtain ⟨l, rfl, _⟩ := h
    rfl
  obtain ⟨l, rfl, hl, q1, q2⟩ := h
  refine ⟨_, (pss_cons (ps_if (pt_cmpR op_eq (pv 0) pe_str (nomark _)) (pss_one (ps_ret pe_non)) pss_nil)
      (pss_cons (ps_if (pt_val (pc_c C_is_number (hr.mono (by first | exact Nat.le_refl _ | decide | omega)) (by rfl) (pa_cons (pv 0) pa_nil))) (pss_one (ps_ret (pe_tup (pa_cons pe_str (pa_cons (pe_callTy call_int_str (by rfl) B.int boot_int (pa_cons (pv 0) pa_nil)) pa_nil))))) pss_nil)
      (pss_cons (ps_set (i := 1) sc_read.nd rfl (Or.inl rfl) (pe_bm PySem.F.plainAttrs_str PySem.F.slot_str_split PySem.F.type_str_split mt_split (pv 0) (pa_cons pe_str pa_nil)))
      (pss_cons (ps_if (pt_cmpR op_ne (pe_ix ix_list (pv 1) pe_int (fun _ _ => rfl)) pe_str (nomark _)) (pss_one (ps_raise rfl (takes_of rfl rfl rfl rfl) (pmk_x e_BadFormula (by rfl) pe_str))) pss_nil)
      (pss_cons (ps_asg (pc_x C_part_at (hr.mono (by first | exact Nat.le_refl _ | decide | omega)) (by rfl) (passes_call (takes_of rfl rfl rfl rfl) (fun _ _ _ _ h => h)) (pa_cons (pv 1) (pa_cons pe_int (pa_cons pe_int pa_nil)))) (pg_tup (by rfl) (pgs_cons (pg_name (i := 2) sc_read.nd rfl (Or.inl rfl)) (pgs_cons (pg_name (i := 3) sc_read.nd rfl (Or.inl rfl)) pgs_nil))))
      (pss_cons (ps_if (pt_cmpR op_lt (pv 3) (pe_callB call_len_seq (by rfl) B.len boot_len (pa_cons (pv 1) pa_nil)) (nomark _)) (pss_one (ps_raise rfl (takes_of rfl rfl rfl rfl) (pmk_x e_BadFormula (by rfl) (pe_joined (.cons pe_str (.cons (pe_fmt (pe_ix ix_list (pv 1) (pv 3) (fun _ _ => rfl))) .nil)))))) pss_nil)
      (pss_cons (ps_if (pt_cmpR op_eq (pe_ix ix_tup (pv 2) pe_int (fun _ _ => rfl)) pe_str (nomark _)) (pss_one (ps_raise rfl (takes_of rfl rfl rfl rfl) (pmk_x e_BadFormula (by rfl) pe_str))) pss_nil)
      (pss_one (ps_ret (pv 2)))))))))), ?_⟩
  refine ⟨_, rfl, rfl, _, rfl, ?_⟩
  have e0 : ("" : Str) = SX.S [] := by decide +kernel
  rw [e0, dec_s]
  by_cases h0 : l = []
  · rw [decide_eq_true (by rw [h0])]
    refine iteT (q1 none ?_ _ _ (.refl H) rfl)
    rw [h0]
    rfl
  rw [decide_eq_false (fun z => h0 (SX.S_inj z))]
  refine iteF ⟨_, rfl, l, rfl, hl, _, rfl, ?_⟩
  have er : rd l = if isNumL l = true then some (some (.num (valL l))) else if (wsL l).head? ≠ some [61] then none else match pt 5 ((wsL l).drop 1) with | some (p, []) => if p.isNum = true then none else some (some p) | _ => none := by
    unfold rd
    rw [if_neg h0]
    try rfl
  cases hn : isNumL l with
  | true =>
    rw [if_pos hn] at er
    refine iteT ⟨_, rfl, _, _, rfl, isNumL_val hn, by rw [S_length]; have := isNumL_len hn; omega, small (by show 2 ≤ 1000; decide), fun t h1 => ?_⟩
    exact q1 _ er _ _ (same_new h1 _) ⟨t, rfl, SqT.of upd_same⟩
  | false =>
    rw [if_neg (by rw [hn]; exact Bool.false_ne_true)] at er
    refine iteF ⟨_, rfl, rfl, _, _, rfl, rfl, by decide +kernel, by rw [S_length, sizeLine_eq]; omega, fun a ha => ?_⟩
    rw [split_ws, ← svs_map]
    have s1 : Same H (upd H a (.lst (svs (wsL l)))) := same_new ha _
    have ga : upd H a (.lst (svs (wsL l))) a = some (.lst (svs (wsL l))) := upd_same
    generalize upd H a (.lst (svs (wsL l))) = H1 at s1 ga ⊢
    have ok := okW_ws hl
    cases hW : wsL l with
    | nil => exact absurd hW (spl_ne l [])
    | cons w0 W =>
      rw [hW] at er ok ga
      have eqS1 : ("=" : Str) = SX.S [61] := by decide +kernel
      refine ⟨_, rfl, a, _, _, _, rfl, rfl, SqL.of ga, (show atI (V.str (SX.S w0) :: svs W) 0 = _ from at0), rfl, _, rfl, ?_⟩
      rw [eqS1, dec_s]
      by_cases h1 : w0 = [61]
      · rw [if_neg (by rw [h1]; simp)] at er
        have er : rd l = match pt 5 W with | some (p, []) => if p.isNum = true then none else some (some p) | _ => none := er
        rw [decide_eq_true (by rw [h1])]
        refine iteF ⟨_, rfl, a, w0 :: W, 1, 1, rfl, SqL.of ga, ok, by simp, by decide, fun p r ep t x H2 s2 px hz ht ez => ?_, fun en G sG => q2 ?_ _ (s1.trans sG)⟩
        · have ep : pt 5 W = some (p, r) := ep
          refine ⟨t, _, rfl, SqT.of ht, rfl, _, _, rfl, _, _, rfl, rfl, ?_⟩
          have ga2 := s2 _ _ ga
          refine ⟨_, rfl, _, rfl, a, _, rfl, .inl (SqL.of ga2), _, _, rfl, rfl, _, rfl, ?_⟩
          rw [svs_len]
          cases r with
          | nil =>
            rw [ep] at er
            have er : rd l = if p.isNum = true then none else some (some p) := er
            rw [decide_eq_false (by simp only [List.length_nil]; omega)]
            obtain ⟨ax, xs, rfl, hT⟩ := px.head
            refine iteF ⟨_, rfl, ax, _, _, _, rfl, rfl, hT, at0, rfl, _, rfl, ?_⟩
            rw [dec_s, p.w_num]
            cases hp : p.isNum with
            | true =>
              rw [if_pos hp] at er
              exact iteT (q2 er _ (s1.trans s2))
            | false =>
              rw [if_neg (by rw [hp]; exact Bool.false_ne_true)] at er
              exact iteF ⟨_, rfl, q1 _ er _ _ (s1.trans s2) px⟩
          | cons z r =>
            rw [ep] at er
            have er : rd l = none := er
            have lz : (z :: r).length ≤ (w0 :: W).length := hz
            rw [decide_eq_true (by simp only [List.length_cons] at lz ⊢; omega)]
            refine iteT ?_
            have hat : (w0 :: W)[(w0 :: W).length - (z :: r).length]? = some z := by
              have e : ((w0 :: W).drop ((w0 :: W).length - (z :: r).length))[0]? = some z := by rw [← ez]; rfl
              rw [List.getElem?_drop] at e
              exact e
            have lz' : z.length ≤ 10000000 := ok z (List.mem_of_getElem? hat)
            refine ⟨_, rfl, small (by decide +kernel), _, rfl, _, rfl, a, _, _, _, rfl, rfl, SqL.of ga2, svs_at hat, .inl ⟨_, rfl, by rw [S_length]; exact ten_m lz', _, rfl, ?_, q2 er _ (s1.trans s2)⟩⟩
            have em : (Str.empty ++ ("needless behind the part: " : Str)).length = 26 := by decide +kernel
            rw [str_cat_len, em, S_length, sizeLine_eq]
            omega
        · have en : pt 5 W = none := en
          rw [er, en]
      · rw [if_pos (by simp; exact h1)] at er
        rw [decide_eq_false (fun z => h1 (SX.S_inj z))]
        exact iteT (q2 er _ s1)
end
end U

namespace U
open PySem L2 PyProof.Rows
section
variable {P : Program} {w : World} {K : PySem.W.Frag} {mg : Str → Option Value} {base : Heap}
theorem ok_ldeep {n : Nat} {f : Addr} {fd : FuncData} (F : Fun K "_law_deep" "_law_deep" s_l_deep f fd) (C_l_take : Cal P w K mg base 1 "_law_take" ["_law_box", "_law_many"] spTake)
    (C_l_deep : Cal P w K mg base (n + 1) "_law_deep" ["_law_box", "_law_deep_here"] (spPart K n)) : FnOk P w K mg base CX0 (n + 1 + 1) f fd ["_law_box", "_law_deep_here"] (spPart K (n + 1)) := by
  refine F.ok sc_l_deep (fun vs H Q E h => ?_) (fun cdv A outer s H vs Q E hr h => ?_)
  · obtain ⟨b, l, d, rfl, _⟩ := h
    rfl
  obtain ⟨b, l, d, rfl, BX, d0, d1, k⟩ := h
  refine ⟨_, (pss_cons (ps_if (pt_cmpR op_eq (pv 1) pe_int (nomark _)) (pss_one (ps_ret (pe_tup (pa_cons pe_str (pa_cons pe_str pa_nil))))) pss_nil)
      (pss_cons (ps_set (i := 2) sc_l_deep.nd rfl (Or.inl rfl) (pc_c C_l_deep (hr.mono (by first | exact Nat.le_refl _ | decide | omega)) (by rfl) (pa_cons (pv 0) (pa_cons (pe_op op_sub (pv 1) pe_int) pa_nil))))
      (pss_cons (ps_set (i := 3) sc_l_deep.nd rfl (Or.inl rfl) (pe_tup (pa_cons pe_str (pa_cons (pc_c C_l_take (hr.mono (by first | exact Nat.le_refl _ | decide | omega)) (by rfl) (pa_cons (pv 0) (pa_cons pe_int pa_nil))) pa_nil))))
      (pss_one (ps_ret (pe_ix ix_list (pe_lst (pa_cons (pe_tup (pa_cons pe_str (pa_cons (pv 2) (pa_cons (pv 3) pa_nil)))) (pa_cons (pe_tup (pa_cons pe_str (pa_cons (pv 3) (pa_cons (pv 2) pa_nil)))) (pa_cons (pe_tup (pa_cons pe_str (pa_cons (pv 3) (pa_cons (pv 2) (pa_cons (pv 3) (pa_cons (pv 3) pa_nil)))))) pa_nil)))) (pc_c C_l_take (hr.mono (by first | exact Nat.le_refl _ | decide | omega)) (by rfl) (pa_cons (pv 0) (pa_cons pe_int pa_nil))) (fun _ _ => rfl))))))), ?_⟩
  refine ⟨_, rfl, rfl, _, rfl, ite2 (fun c0 => ?_) (fun c0 => ?_)⟩
  · refine ⟨small (by show 2 ≤ 1000; decide), fun t ht => ?_⟩
    exact k (.cel ⟨0, 0, by decide, by decide⟩) _ _ trivial (by show 1 ≤ _; omega) ⟨t, rfl, SqT.of (by rw [upd_same, show (⟨0, 0, by decide, by decide⟩ : Cel).s = ("a1" : Str) by decide +kernel] <;> rfl)⟩ (BX.keep (same_new ht _)) (Keep.of (same_new ht _))
  · rw [dec_i, decide_eq_true_eq] at c0
    refine ⟨_, rfl, _, rfl, _, _, rfl, rfl, b, l, d - 1, rfl, BX, by omega, by omega, fun p x H2 gp hp ap B2 K2 => ?_⟩
    refine ⟨_, rfl, b, l, 9, rfl, B2, by decide, by decide, fun r1 H3 a0 a1 B3 K3 => ⟨small (by show 2 ≤ 1000; decide), fun tn htn => ?_⟩⟩
    have sn : Same H3 (upd H3 tn (.tup [.str "num", .int r1])) := same_new htn _
    have an : PA K (upd H3 tn (.tup [.str "num", .int r1])) (.num r1) (.ref tn) := ⟨tn, rfl, SqT.of upd_same⟩
    have B4 := B3.keep sn
    have ap4 := (ap.tk (.keep B2 K3)).tk (.same sn)
    have K4 : Keep b l H (upd H3 tn (.tup [.str "num", .int r1])) := (K2.trans K3).trans (Keep.of sn)
    generalize upd H3 tn (.tup [.str "num", .int r1]) = H4 at an B4 ap4 K4 ⊢
    have gn : (Part.num r1).good := ⟨by omega, by omega⟩
    refine ⟨_, rfl, _, rfl, small (by show 3 ≤ 1000; decide), fun t1 h1 => ?_⟩
    have s1 : Same H4 (upd H4 t1 (.tup [.str "add", x, .ref tn])) := same_new h1 _
    have e1 : SqT K (upd H4 t1 (.tup [.str "add", x, .ref tn])) t1 [.str "add", x, .ref tn] := SqT.of upd_same
    generalize upd H4 t1 (.tup [.str "add", x, .ref tn]) = H5 at s1 e1 ⊢
    refine ⟨_, rfl, _, rfl, small (by show 3 ≤ 1000; decide), fun t2 h2 => ?_⟩
    have s2 : Same H5 (upd H5 t2 (.tup [.str "mul", .ref tn, x])) := same_new h2 _
    have e2 : SqT K (upd H5 t2 (.tup [.str "mul", .ref tn, x])) t2 [.str "mul", .ref tn, x] := SqT.of upd_same
    generalize upd H5 t2 (.tup [.str "mul", .ref tn, x]) = H6 at s2 e2 ⊢
    refine ⟨_, rfl, _, rfl, _, rfl, _, rfl, small (by show 5 ≤ 1000; decide), fun t3 h3 => ?_⟩
    have s3 : Same H6 (upd H6 t3 (.tup [.str "pick", .ref tn, x, .ref tn, .ref tn])) := same_new h3 _
    have e3 : SqT K (upd H6 t3 (.tup [.str "pick", .ref tn, x, .ref tn, .ref tn])) t3 [.str "pick", .ref tn, x, .ref tn, .ref tn] := SqT.of upd_same
    generalize upd H6 t3 (.tup [.str "pick", .ref tn, x, .ref tn, .ref tn]) = H7 at s3 e3 ⊢
    refine ⟨small (by show 3 ≤ 1000; decide), fun q hq => ?_⟩
    have s4 : Same H7 (upd H7 q (.lst [.ref t1, .ref t2, .ref t3])) := same_new hq _
    have s47 : Same H4 H7 := fun c o e => s3 _ _ (s2 _ _ (s1 _ _ e))
    have nq := (B4.keep s47).new hq
    have B8 := (B4.keep s47).keep s4
    refine ⟨_, rfl, b, l, 3, rfl, B8, by decide, by decide, fun r2 H9 b0 b1 B9 K9 => ?_⟩
    have eq9 := K9 _ _ (upd_same : upd H7 q (.lst [.ref t1, .ref t2, .ref t3]) q = _) nq.1 nq.2
    have t49 : Tk K H4 H9 := (Tk.same s47).trans ((Tk.same s4).trans (.keep B8 K9))
    have t79 : Tk K H7 H9 := (Tk.same s4).trans (.keep B8 K9)
    have ap9 := ap4.tk t49
    have an9 := an.tk t49
    have KK : Keep b l H H9 := K4.trans ((Keep.of s47).trans ((Keep.of s4).trans K9))
    have hr2 : r2 = 0 ∨ r2 = 1 ∨ r2 = 2 := by omega
    have h1' : (Part.num r1).hgt = 1 := rfl
    rcases hr2 with rfl | rfl | rfl
    · refine ⟨q, _, _, _, rfl, rfl, SqL.of eq9, rfl, ?_⟩
      exact k (.op .add p (.num r1)) _ _ ⟨gp, gn⟩ (by show max p.hgt 1 + 1 ≤ _; omega) ⟨t1, x, .ref tn, rfl, t79 _ _ ((Tk.trans (.same s2) (.same s3)) _ _ e1), ap9, an9⟩ B9 KK
    · refine ⟨q, _, _, _, rfl, rfl, SqL.of eq9, rfl, ?_⟩
      exact k (.op .mul (.num r1) p) _ _ ⟨gn, gp⟩ (by show max 1 p.hgt + 1 ≤ _; omega) ⟨t2, .ref tn, x, rfl, t79 _ _ (Tk.same s3 _ _ e2), an9, ap9⟩ B9 KK
    · refine ⟨q, _, _, _, rfl, rfl, SqL.of eq9, rfl, ?_⟩
      exact k (.pick (.num r1) p (.num r1) (.num r1)) _ _ ⟨gn, gp, gn, gn⟩ (by show max (max 1 p.hgt) (max 1 1) + 1 ≤ _; omega) ⟨t3, .ref tn, x, .ref tn, .ref tn, rfl, t79 _ _ e3, an9, ap9, an9, an9⟩ B9 KK
theorem cal_ldeep {f : Addr} {fd : FuncData} (F : Fun K "_law_deep" "_law_deep" s_l_deep f fd) (Ct : Cal P w K mg base 1 "_law_take" ["_law_box", "_law_many"] spTake)
    (m : mg "_law_deep" = some (.ref f)) (b : Binds K fd ["_law_box", "_law_deep_here"] []) : ∀ n : Nat, Cal P w K mg base (n + 1) "_law_deep" ["_law_box", "_law_deep_here"] (spPart K n)
  | 0 => by
    have no : ∀ vs H Q E, ¬ spPart K 0 vs H Q E := fun vs H Q E ⟨_, _, _, _, _, _, h, _⟩ => Nat.not_lt_zero _ h
    exact ⟨f, fd, ⟨fun vs H Q E h => absurd h (no vs H Q E), fun A outer s H args us vs Q E _ _ _ _ h => absurd h (no vs H Q E)⟩, m, F.kp, b⟩
  | n + 1 => ⟨f, fd, ok_ldeep F Ct (cal_ldeep F Ct m b n), m, F.kp, b⟩
end
end U

namespace U
open PySem L2 PyProof.Rows
section
variable {P : Program} {w : World} {K : PySem.W.Frag} {mg : Str → Option Value} {base : Heap}
def spTextOf : Sp := fun vs H Q _ => ∃ (b l : Addr), vs = [.ref b] ∧ Box H b l ∧ ∀ (x : List Nat) (H' : Hp), x.length ≤ 10000000 → Q (.str (SX.S x)) H'
def lwords : List Str := ["add", "sub", "mul", "sum", "pick", "a1", "f9", "3", "-2", "=", "0", "007", "g1", ""]
theorem at_sign {i : Int} (h0 : 0 ≤ i) (h1 : i < 16) : ∃ c, atI ("= 0129-abgdm+sup" : Str).cps.toList i = some c := by
  have e : ("= 0129-abgdm+sup" : Str).cps.toList = [61, 32, 48, 49, 50, 57, 45, 97, 98, 103, 100, 109, 43, 115, 117, 112] := by decide +kernel
  rw [e]
  have : i = 0 ∨ i = 1 ∨ i = 2 ∨ i = 3 ∨ i = 4 ∨ i = 5 ∨ i = 6 ∨ i = 7 ∨ i = 8 ∨ i = 9 ∨ i = 10 ∨ i = 11 ∨ i = 12 ∨ i = 13 ∨ i = 14 ∨ i = 15 := by omega
  rcases this with h | h | h | h | h | h | h | h | h | h | h | h | h | h | h | h <;> subst h <;> exact ⟨_, rfl⟩
theorem lwords_len : ∀ z ∈ lwords, z.length ≤ 4 := by decide +kernel
theorem lwords_at {i : Int} (h0 : 0 ≤ i) (h1 : i < 14) : ∃ z, z ∈ lwords ∧ atI (lwords.map V.str) i = some (.str z) := by
  have : i = 0 ∨ i = 1 ∨ i = 2 ∨ i = 3 ∨ i = 4 ∨ i = 5 ∨ i = 6 ∨ i = 7 ∨ i = 8 ∨ i = 9 ∨ i = 10 ∨ i = 11 ∨ i = 12 ∨ i = 13 := by omega
  rcases this with h | h | h | h | h | h | h | h | h | h | h | h | h | h <;> subst h <;> exact ⟨_, by unfold lwords; simp [List.mem_cons], rfl⟩
theorem join_len (xs : List (List Nat)) (m : Nat) (h : ∀ x ∈ xs, x.length ≤ m) : (TL.joinL [32] xs).length ≤ xs.length * (m + 1) := by
  induction xs with
  | nil => simp [TL.joinL]
  | cons x r ih =>
    have h1 := h x (by simp)
    have h2 := ih fun y hy => h y (by simp [hy])
    rw [List.length_cons, Nat.succ_mul]
    cases r with
    | nil => show x.length ≤ _; omega
    | cons y r =>
      show (x ++ ([32] ++ TL.joinL [32] (y :: r))).length ≤ _
      simp only [List.length_append, List.length_singleton]
      omega
theorem Box.upd_ne {H : Hp} {b l D : Addr} {o : HO} (B : Box H b l) (h1 : D ≠ b) (h2 : D ≠ l) : Box (upd H D o) b l := by
  obtain ⟨z, ns, e1, e2, h3⟩ := B.ex
  exact ⟨z, ns, by rw [L2.upd_ne h1.symm]; exact e1, by rw [L2.upd_ne h2.symm]; exact e2, h3⟩
theorem ok_ltext_of {f : Addr} {fd : FuncData} (F : Fun K "_law_text_of" "_law_text_of" s_l_text_of f fd) (B : Bt mg) (C_l_take : Cal P w K mg base 1 "_law_take" ["_law_box", "_law_many"] spTake) (C_l_deep : Cal P w K mg base 8 "_law_deep" ["_law_box", "_law_deep_here"] (spPart K 7))
    (C_l_content : Cal P w K mg base 8 "_law_content" ["_law_box", "_law_deep_here"] (spContent K 5)) (C_l_text : Cal P w K mg base 9 "_law_text" ["_law_content_here"] (spText K)) : FnOk P w K mg base CX0 10 f fd ["_law_box"] spTextOf := by
  refine F.ok sc_l_text_of (fun vs H Q E h => ?_) (fun cdv A outer s H vs Q E hr h => ?_)
  · obtain ⟨b, l, rfl, _⟩ := h
    rfl
  obtain ⟨b, l, rfl, BX, k⟩ := h
  refine ⟨_, (pss_cons (ps_if (pt_cmpR op_eq (pc_c C_l_take (hr.mono (by first | exact Nat.le_refl _ | decide | omega)) (by rfl) (pa_cons (pv 0) (pa_cons pe_int pa_nil))) pe_int (nomark _)) (pss_one (ps_ret (pc_c C_l_text (hr.mono (by first | exact Nat.le_refl _ | decide | omega)) (by rfl) (pa_cons (pc_c C_l_deep (hr.mono (by first | exact Nat.le_refl _ | decide | omega)) (by rfl) (pa_cons (pv 0) (pa_cons (pe_op op_add pe_int (pc_c C_l_take (hr.mono (by first | exact Nat.le_refl _ | decide | omega)) (by rfl) (pa_cons (pv 0) (pa_cons pe_int pa_nil)))) pa_nil))) pa_nil)))) pss_nil)
      (pss_cons (ps_if (pt_cmpR op_eq (pc_c C_l_take (hr.mono (by first | exact Nat.le_refl _ | decide | omega)) (by rfl) (pa_cons (pv 0) (pa_cons pe_int pa_nil))) pe_int (nomark _)) (pss_cons (ps_set (i := 1) sc_l_text_of.nd rfl (Or.inr rfl) (pe_lst (pa_cons pe_str (pa_cons pe_str (pa_cons pe_str (pa_cons pe_str (pa_cons pe_str (pa_cons pe_str (pa_cons pe_str (pa_cons pe_str (pa_cons pe_str (pa_cons pe_str (pa_cons pe_str (pa_cons pe_str (pa_cons pe_str (pa_cons pe_str pa_nil))))))))))))))))
      (pss_one (ps_ret (pe_bm PySem.F.plainAttrs_str PySem.F.slot_str_join PySem.F.type_str_join mt_join pe_str (pa_cons (pe_op op_cat (pe_lst (pa_cons pe_str pa_nil)) (pe_lc (own := [("_law_k", 7)])  rfl sc_l_text_of.nd (pi_range1 (by rfl) B.range (pa_cons (pc_c C_l_take (hr.mono (by first | exact Nat.le_refl _ | decide | omega)) (by rfl) (pa_cons (pv 0) (pa_cons pe_int pa_nil))) pa_nil)) (blkOk_by (N := ["_law_box", "_law_words", "_law_text_here", "_law_j", "_law_at", "_law_sign", "_law_cut", "_law_k"]) (sc := defScope s_l_text_of) (by decide +kernel)) (fun _ _ _ _ _ => pg_name (i := 7) sc_l_text_of.nd rfl (Or.inl rfl)) (fun _ _ _ _ _ => pts_nil) (fun _ _ _ _ _ => (pe_ix (ix_listK (K := K) rfl) (pv 1) (pc_c C_l_take (hr.mono (by first | exact Nat.le_refl _ | decide | omega)) (by rfl) (pa_cons (pv 0) (pa_cons pe_int pa_nil))) (fun _ _ => rfl))))) pa_nil))))) pss_nil)
      (pss_cons (ps_set (i := 2) sc_l_text_of.nd rfl (Or.inl rfl) (pc_c C_l_text (hr.mono (by first | exact Nat.le_refl _ | decide | omega)) (by rfl) (pa_cons (pc_c C_l_content (hr.mono (by first | exact Nat.le_refl _ | decide | omega)) (by rfl) (pa_cons (pv 0) (pa_cons (pe_ix ix_list (pe_lst (pa_cons pe_int (pa_cons pe_int pa_nil))) (pc_c C_l_take (hr.mono (by first | exact Nat.le_refl _ | decide | omega)) (by rfl) (pa_cons (pv 0) (pa_cons pe_int pa_nil))) (fun _ _ => rfl)) pa_nil))) pa_nil)))
      (pss_cons (ps_if (pt_cmpR op_eq (pc_c C_l_take (hr.mono (by first | exact Nat.le_refl _ | decide | omega)) (by rfl) (pa_cons (pv 0) (pa_cons pe_int pa_nil))) pe_int (nomark _)) (pss_one (ps_ret (pv 2))) pss_nil)
      (pss_cons (ps_for PassesOwn.never rfl (pi_range1 (by rfl) B.range (pa_cons (pe_op op_add pe_int (pc_c C_l_take (hr.mono (by first | exact Nat.le_refl _ | decide | omega)) (by rfl) (pa_cons (pv 0) (pa_cons pe_int pa_nil)))) pa_nil)) (pg_name (i := 3) sc_l_text_of.nd rfl (Or.inl rfl)) (pss_cons (ps_set (i := 4) sc_l_text_of.nd rfl (Or.inl rfl) (pc_c C_l_take (hr.mono (by first | exact Nat.le_refl _ | decide | omega)) (by rfl) (pa_cons (pv 0) (pa_cons (pe_op op_add (pe_callB call_len_str (by rfl) B.len boot_len (pa_cons (pv 2) pa_nil)) pe_int) pa_nil))))
      (pss_cons (ps_set (i := 5) sc_l_text_of.nd rfl (Or.inl rfl) (pe_ix ix_str pe_str (pc_c C_l_take (hr.mono (by first | exact Nat.le_refl _ | decide | omega)) (by rfl) (pa_cons (pv 0) (pa_cons pe_int pa_nil))) (fun _ _ => rfl)))
      (pss_cons (ps_set (i := 6) sc_l_text_of.nd rfl (Or.inl rfl) (pc_c C_l_take (hr.mono (by first | exact Nat.le_refl _ | decide | omega)) (by rfl) (pa_cons (pv 0) (pa_cons pe_int pa_nil))))
      (pss_one (ps_set (i := 2) sc_l_text_of.nd rfl (Or.inl rfl) (pe_op op_add_str (pe_op op_add_str (pe_slice sl_str (pv 2) po_none (po_some (pv 4))) (pe_ix ix_list (pe_lst (pa_cons pe_str (pa_cons (pv 5) (pa_cons (pv 5) pa_nil)))) (pv 6) (fun _ _ => rfl))) (pe_slice sl_str (pv 2) (po_some (pe_op op_add (pv 4) (pe_ix ix_list (pe_lst (pa_cons pe_int (pa_cons pe_int (pa_cons pe_int pa_nil)))) (pv 6) (fun _ _ => rfl)))) po_none))))))))
      (pss_one (ps_ret (pv 2)))))))), ?_⟩
  refine ⟨_, rfl, b, l, 8, rfl, BX, by decide, by decide, fun r1 H1 _ _ B1 K1 => ⟨rfl, _, rfl, ite2 (fun _ => ?_) (fun _ => ?_)⟩⟩
  · refine ⟨_, rfl, _, rfl, b, l, 3, rfl, B1, by decide, by decide, fun r2 H2 c0 c1 B2 K2 => ⟨_, _, rfl, rfl, b, l, 4 + r2, rfl, B2, by omega, by omega, fun p v H3 gp hp ap B3 K3 => ?_⟩⟩
    refine ⟨some p, v, rfl, ap, ⟨gp, by omega⟩, fun H4 s4 => ?_⟩
    exact k _ _ (Nat.le_trans (ctx_le ⟨gp, by omega⟩) (by decide))
  refine ⟨_, rfl, b, l, 6, rfl, B1, by decide, by decide, fun r2 H2 _ _ B2 K2 => ⟨rfl, _, rfl, ite2 (fun _ => ?_) (fun _ => ?_)⟩⟩
  · refine ⟨small (by show 14 ≤ 1000; decide), fun pw hpw => ?_⟩
    have gw : upd H2 pw (.lst [.str "add", .str "sub", .str "mul", .str "sum", .str "pick", .str "a1", .str "f9", .str "3", .str "-2", .str "=", .str "0", .str "007", .str "g1", .str ""]) pw = some (.lst (lwords.map V.str)) := upd_same
    have nw := B2.new hpw
    have B3 := B2.keep (same_new hpw (.lst [.str "add", .str "sub", .str "mul", .str "sum", .str "pick", .str "a1", .str "f9", .str "3", .str "-2", .str "=", .str "0", .str "007", .str "g1", .str ""]))
    generalize upd H2 pw (.lst [.str "add", .str "sub", .str "mul", .str "sum", .str "pick", .str "a1", .str "f9", .str "3", .str "-2", .str "=", .str "0", .str "007", .str "g1", .str ""]) = H3 at gw B3 ⊢
    refine ⟨rfl, small (by show 1 ≤ 1000; decide), fun p1 h1 => ?_⟩
    have g1 : upd H3 p1 (.lst [.str "="]) p1 = some (.lst [.str "="]) := upd_same
    have n1 := B3.new h1
    have B4 := B3.keep (same_new h1 (.lst [.str "="]))
    have gw4 := same_new h1 (.lst [.str "="]) _ _ gw
    generalize upd H3 p1 (.lst [.str "="]) = H4 at g1 B4 gw4 ⊢
    refine ⟨_, rfl, b, l, 8, rfl, B4, by decide, by decide, fun r3 H5 c0 c1 B5 K5 => ⟨_, rfl, by omega, by omega, fun D hD => ?_⟩⟩
    have g5 := K5 _ _ g1 n1.1 n1.2
    have gw5 := K5 _ _ gw4 nw.1 nw.2
    have nD := B5.new hD
    have sD := same_new hD (.lst [])
    have d1 : D ≠ p1 := (ne_of_none g5 hD).symm
    have dw : D ≠ pw := (ne_of_none gw5 hD).symm
    refine lc_range (lo := 0) (fun i H6 => Box H6 b l ∧ H6 pw = some (.lst (lwords.map V.str)) ∧ H6 p1 = some (.lst [.str "="]) ∧ ∃ ys : List Str, H6 D = some (.lst (ys.map V.str)) ∧ ys.length = i ∧ ∀ y ∈ ys, y ∈ lwords)
      ⟨B5.keep sD, sD _ _ gw5, sD _ _ g5, [], upd_same, rfl, fun _ h => nomatch h⟩ ?_ ?_
    · rintro i H6 hi ⟨B6, gw6, g6, ys, gD, hl, hm⟩
      refine ⟨wipe_in (by decide), yes_ ?_⟩
      refine ⟨_, rfl, _, rfl, b, l, 14, rfl, B6, by decide, by decide, fun r4 H7 e0 e1 B7 K7 => ?_⟩
      obtain ⟨z, mz, az⟩ := lwords_at e0 e1
      have gD7 := K7 _ _ gD nD.1 nD.2
      refine ⟨pw, _, _, _, rfl, rfl, SqL.of (K7 _ _ gw6 nw.1 nw.2), az, _, gD7, ?_, B7.upd_ne nD.1 nD.2, ?_, ?_, ys ++ [z], ?_, by simp [hl], ?_⟩
      · rw [List.length_map, hl]
        exact small1000 (by omega)
      · rw [upd_ne dw.symm]
        exact K7 _ _ gw6 nw.1 nw.2
      · rw [upd_ne d1.symm]
        exact K7 _ _ g6 n1.1 n1.2
      · rw [upd_same, List.map_append]
        rfl
      · intro y hy
        rcases List.mem_append.mp hy with hy | hy
        · exact hm y hy
        · rw [List.mem_singleton.mp hy]
          exact mz
    · rintro H6 ⟨B6, gw6, g6, ys, gD, hl, hm⟩
      refine ⟨p1, D, _, _, rfl, rfl, g6, gD, ?_, fun p hp => ?_⟩
      · rw [List.length_map, hl]
        exact small (by show 1 + _ ≤ 1000; omega)
      · have len : ∀ x ∈ (("=" : Str) :: ys).map (fun z => z.cps.toList), x.length ≤ 4 := fun x hx => by
          obtain ⟨z, hz, rfl⟩ := List.mem_map.mp hx
          rcases List.mem_cons.mp hz with rfl | hz
          · decide
          · exact lwords_len z (hm z hz)
        have e : ((("=" : Str) :: ys).map (fun z => z.cps.toList)).map SX.S = ("=" : Str) :: ys := by
          rw [List.map_map]
          exact List.map_id _
        refine ⟨" ", p, ("=" : Str) :: ys, rfl, rfl, .inl (SqL.of upd_same), ?_, ?_⟩
        · have h1 : (" " : Str).length = 1 := by rw [blank_eq]; rfl
          have h2 : ∀ zs : List Str, (∀ z ∈ zs, z.length ≤ 4) → (zs.map (·.length)).sum ≤ zs.length * 4 := by
            intro zs
            induction zs with
            | nil => intro _; simp
            | cons z r ih =>
              intro h
              have := h z (by simp)
              have := ih fun y hy => h y (by simp [hy])
              simp only [List.map_cons, List.sum_cons, List.length_cons]
              omega
          have h3 := h2 (("=" : Str) :: ys) fun z hz => by
            rcases List.mem_cons.mp hz with rfl | hz
            · decide +kernel
            · exact lwords_len z (hm z hz)
          rw [h1]
          rw [List.length_cons, hl] at h3 ⊢
          omega
        · have j := join_len _ _ len
          rw [List.length_map, List.length_cons, hl] at j
          rw [← e, blank_eq, SX.join_S]
          exact k _ _ (by omega)
  · refine ⟨_, rfl, small (by show 2 ≤ 1000; decide), fun p2 h2 => ?_⟩
    have g2 : upd H2 p2 (.lst [.int 2, .int 4]) p2 = some (.lst [.int 2, .int 4]) := upd_same
    have n2 := B2.new h2
    have B3 := B2.keep (same_new h2 (.lst [.int 2, .int 4]))
    generalize upd H2 p2 (.lst [.int 2, .int 4]) = H3 at g2 B3 ⊢
    refine ⟨_, rfl, b, l, 2, rfl, B3, by decide, by decide, fun r3 H4 c0 c1 B4 K4 => ?_⟩
    have g4 := K4 _ _ g2 n2.1 n2.2
    obtain ⟨d, hd, d0, d4⟩ : ∃ d : Int, atI [V.int 2, V.int 4] r3 = some (.int d) ∧ 0 ≤ d ∧ d ≤ 4 := by
      have : r3 = 0 ∨ r3 = 1 := by omega
      rcases this with rfl | rfl
      · exact ⟨2, rfl, by decide, by decide⟩
      · exact ⟨4, rfl, by decide, by decide⟩
    refine ⟨p2, _, _, _, rfl, rfl, SqL.of g4, hd, b, l, d, rfl, B4, d0, by omega, fun o v H5 go co B5 K5 => ?_⟩
    have go8 := goodC_mono go (show d.toNat + 1 ≤ 8 by omega)
    refine ⟨o, v, rfl, co, go8, fun H6 s6 => ?_⟩
    have B6 := B5.keep s6
    have l6 := ctx_le go8
    generalize ctx o = x at l6 ⊢
    refine ⟨_, rfl, b, l, 6, rfl, B6, by decide, by decide, fun r4 H7 _ _ B7 K7 => ⟨rfl, _, rfl, ite2 (fun _ => ?_) (fun _ => ?_)⟩⟩
    · exact ⟨_, rfl, k _ _ (by omega)⟩
    refine ⟨_, rfl, b, l, 3, rfl, B7, by decide, by decide, fun r5 H8 e0 e1 B8 K8 => ⟨_, _, rfl, rfl, _, rfl, by omega, by omega, ?_⟩⟩
    refine for_range (lo := 0) (fun i σ H9 => ∃ (y : List Nat) (u1 u2 u3 u4 u5 u6 : Option V), σ = [some (.ref b), u1, some (.str (SX.S y)), u2, u3, u4, u5, u6] ∧ Box H9 b l ∧ y.length + 1 ≤ 800001 * 2 ^ i)
      ⟨x, _, _, _, _, _, _, rfl, B8, by omega⟩ ?_ ?_
    · rintro i σ H9 hi ⟨y, u1, u2, u3, u4, u5, u6, rfl, B9, hy⟩
      have hi3 : i ≤ 2 := by omega
      have hy9 : y.length + 1 ≤ 3200004 := by
        have : i = 0 ∨ i = 1 ∨ i = 2 := by omega
        rcases this with rfl | rfl | rfl <;> omega
      have hyS : (SX.S y).length ≤ sizeLine := by rw [S_length]; exact ten_m (by omega)
      have hyL : (SX.S y).length = y.length := S_length y
      refine ⟨_, rfl, _, rfl, _, rfl, hyS, _, _, rfl, rfl, b, l, ((SX.S y).length : Int) + 1, rfl, B9, by omega, by omega, fun ra HA _ _ BA KA => ?_⟩
      refine ⟨_, rfl, b, l, 16, rfl, BA, by decide, by decide, fun rs HB f0 f1 BB KB => ?_⟩
      obtain ⟨c, hc⟩ := at_sign f0 f1
      refine ⟨_, _, _, rfl, rfl, small (by decide), hc, ?_⟩
      refine ⟨_, rfl, b, l, 3, rfl, BB, by decide, by decide, fun rc HC h0 h1 BC KC => ?_⟩
      refine ⟨_, rfl, _, rfl, _, rfl, _, rfl, hyS, _, rfl, _, rfl, small (by show 3 ≤ 1000; decide), fun q1 hq1 => ?_⟩
      have BD := BC.keep (same_new hq1 (.lst [.str "", .str (SX.S [c]), .str (SX.S [c])]))
      obtain ⟨s1, hs1, ls1⟩ : ∃ s1 : Str, atI [V.str "", .str (SX.S [c]), .str (SX.S [c])] rc = some (.str s1) ∧ s1.length ≤ 1 := by
        have : rc = 0 ∨ rc = 1 ∨ rc = 2 := by omega
        rcases this with rfl | rfl | rfl
        · exact ⟨_, rfl, by decide +kernel⟩
        · exact ⟨_, rfl, Nat.le_refl _⟩
        · exact ⟨_, rfl, Nat.le_refl _⟩
      obtain ⟨k2, hk2⟩ : ∃ k2 : Int, atI [V.int 1, .int 0, .int 1] rc = some (.int k2) := by
        have : rc = 0 ∨ rc = 1 ∨ rc = 2 := by omega
        rcases this with rfl | rfl | rfl <;> exact ⟨_, rfl⟩
      have m1 := cut_le (SX.S y) none (some ra)
      refine ⟨_, rfl, q1, _, _, _, rfl, rfl, SqL.of upd_same, hs1, _, _, rfl, rfl, ten_m (by omega), _, rfl, _, rfl, small (by show 3 ≤ 1000; decide), fun q2 hq2 => ?_⟩
      have BE := BD.keep (same_new hq2 (.lst [.int 1, .int 0, .int 1]))
      have m2 := cut_le (SX.S y) (some (ra + k2)) none
      have m3 := str_cat_len (cutS (SX.S y) none (some ra)) s1
      have m4 := str_cat_len (cutS (SX.S y) none (some ra) ++ s1) (cutS (SX.S y) (some (ra + k2)) none)
      refine ⟨_, rfl, q2, _, _, _, rfl, rfl, SqL.of upd_same, hk2, _, _, rfl, rfl, _, rfl, _, rfl, hyS, _, _, rfl, rfl, ten_m (by omega), ?_⟩
      refine ⟨(cutS (SX.S y) none (some ra) ++ s1 ++ cutS (SX.S y) (some (ra + k2)) none).cps.toList, _, _, _, _, _, _, rfl, BE, ?_⟩
      rw [len_of, m4, m3, Nat.pow_succ]
      omega
    · rintro σ H9 ⟨y, u1, u2, u3, u4, u5, u6, rfl, B9, hy⟩
      refine ⟨_, rfl, k _ _ ?_⟩
      have : (1 + r5 - 0).toNat ≤ 3 := by omega
      have p8 : 2 ^ (1 + r5).toNat ≤ 2 ^ 3 := Nat.pow_le_pow_right (by decide) (by omega)
      have q : 800001 * 2 ^ (1 + r5).toNat ≤ 800001 * 2 ^ 3 := Nat.mul_le_mul_left _ p8
      omega
end
end U

namespace U
open PySem L2 PyProof.Rows
section
variable {P : Program} {w : World} {K : PySem.W.Frag} {mg : Str → Option Value} {base : Heap}
def spGoodCell : Sp := fun vs H Q _ => ∃ c : Cel, vs = [.str c.s] ∧ Q (.bl true) H
def spGood (K : PySem.W.Frag) (n : Nat) : Sp := fun vs H Q _ => ∃ (p : Part) (v : V) (d : Int), vs = [v, .int d] ∧ PA K H p v ∧ p.good ∧ 1 ≤ d ∧ (p.hgt : Int) + d ≤ 6 ∧ p.hgt < n ∧ ∀ H', Same H H' → Q (.bl true) H'
theorem ok_lgood_cell {f : Addr} {fd : FuncData} (F : Fun K "_law_good_cell" "_law_good_cell" s_l_good_cell f fd) (B : Bt mg) : FnOk P w K mg base CX0 1 f fd ["_law_cell_here"] spGoodCell := by
  refine F.ok sc_l_good_cell (fun vs H Q E h => ?_) (fun cdv A outer s H vs Q E hr h => ?_)
  · obtain ⟨c, rfl, _⟩ := h
    rfl
  obtain ⟨c, rfl, k⟩ := h
  refine ⟨_, (pss_one (ps_ret (pe_and (pe_callB call_isi (by rfl) B.isinstance boot_isinstance (pa_cons (pv 0) (pa_cons (pe_bltn (v := .ty "str") (by rfl) B.str boot_str rfl) pa_nil))) (pe_and (pe_cmpR op_eq (pe_callB call_len_str (by rfl) B.len boot_len (pa_cons (pv 0) pa_nil)) pe_int (nomark _)) (pe_and (pe_cmpR op_in_sign (pe_ix ix_str (pv 0) pe_int (fun _ _ => rfl)) pe_str (by rfl)) (pe_one (pe_cmpR op_in_sign (pe_ix ix_str (pv 0) pe_int (fun _ _ => rfl)) pe_str (by rfl)))))))), ?_⟩
  have h1 := c.hc
  have h2 := c.hr
  have e1 : decide (97 + c.c ∈ ("abcdef" : Str).cps.toList) = true := by
    rw [col_in]
    simp only [Bool.and_eq_true, decide_eq_true_eq]
    omega
  have e2 : decide (49 + c.r ∈ ("123456789" : Str).cps.toList) = true := by
    rw [row_in]
    simp only [Bool.and_eq_true, decide_eq_true_eq]
    omega
  refine ⟨_, rfl, ⟨_, _, _, _, _, rfl, .ty _, dp_ty (K := K) (.str _), kit_ty k_str_str, _, rfl, iteT ?_⟩⟩
  refine ⟨_, rfl, _, rfl, small (by show 2 ≤ 1000; decide), rfl, _, rfl, iteT ?_⟩
  refine ⟨_, rfl, _, _, _, rfl, rfl, small (by show 2 ≤ 1000; decide), c.at0, _, _, rfl, rfl, _, rfl, ?_⟩
  rw [e1]
  refine iteT ⟨_, rfl, _, _, _, rfl, rfl, small (by show 2 ≤ 1000; decide), c.at1, _, _, rfl, rfl, ?_⟩
  rw [e2]
  exact k
theorem inW2 (p : Part) : inV (.str p.word) [.str "cell", .str "sum"] = (p.isCel || p.isSum) := by
  have e : ∀ z : Str, inV (.str z) [.str "cell", .str "sum"] = (decide (("cell" : Str) = z) || decide (("sum" : Str) = z)) := fun z => by
    simp [inV, eqV, Bool.beq_eq_decide_eq]
  rw [e, ← Part.w_cell, ← Part.w_sum]
  simp only [eq_comm]
def mkvs : List (Key × V) := [(.inr "add", .int 3), (.inr "sub", .int 3), (.inr "mul", .int 3), (.inr "pick", .int 5)]
theorem many_of {p : Part} (o : p.isOp = true) : valV (mergeK [] mkvs) (.inr p.word) = some (.int ((p.kids.length : Int) + 1)) := by
  cases p with
  | op w p q =>
    show valV (mergeK [] mkvs) (.inr w.s) = some (.int 3)
    cases w <;> decide +kernel
  | pick p q r t =>
    show valV (mergeK [] mkvs) (.inr "pick") = some (.int 5)
    decide +kernel
  | _ => exact absurd o Bool.false_ne_true
theorem ok_lgood {n : Nat} {f : Addr} {fd : FuncData} (F : Fun K "_law_good" "_law_good" s_l_good f fd) (B : Bt mg) (C_l_good_cell : Cal P w K mg base 1 "_law_good_cell" ["_law_cell_here"] spGoodCell)
    (C_l_good : Cal P w K mg base (n + 1) "_law_good" ["_law_part_here", "_law_deep_here"] (spGood K n)) : FnOk P w K mg base CX0 (n + 1 + 1) f fd ["_law_part_here", "_law_deep_here"] (spGood K (n + 1)) := by
  refine F.ok sc_l_good (fun vs H Q E h => ?_) (fun cdv A outer s H vs Q E hr h => ?_)
  · obtain ⟨p, v, d, rfl, _⟩ := h
    rfl
  obtain ⟨p, v, d, rfl, ap, gp, d1, d6, hn, k⟩ := h
  refine ⟨_, (pss_cons (ps_if (PW.pt (pw_or (pt_not (pt_val (pe_callB call_isi (by rfl) B.isinstance boot_isinstance (pa_cons (pv 0) (pa_cons (pe_bltn (v := .ty "tuple") (by rfl) B.tuple boot_tuple rfl) pa_nil))))) (pw_or (pt_cmpR op_eq (pe_callB call_len_seq (by rfl) B.len boot_len (pa_cons (pv 0) pa_nil)) pe_int (nomark _)) (pw_or (pt_cmpR op_gt (pv 1) pe_int (nomark _)) (pw_or1 (pt_not (pt_val (pe_callB call_isi (by rfl) B.isinstance boot_isinstance (pa_cons (pe_ix ix_tup (pv 0) pe_int (fun _ _ => rfl)) (pa_cons (pe_bltn (v := .ty "str") (by rfl) B.str boot_str rfl) pa_nil)))))))))) (pss_one (ps_ret pe_bl)) pss_nil)
      (pss_cons (ps_if (pt_cmpR op_eq (pe_ix ix_tup (pv 0) pe_int (fun _ _ => rfl)) pe_str (nomark _)) (pss_cons (ps_set (i := 2) sc_l_good.nd rfl (Or.inl rfl) (pe_and (pe_cmpR op_eq (pe_callB call_len_seq (by rfl) B.len boot_len (pa_cons (pv 0) pa_nil)) pe_int (nomark _)) (pe_and (pe_callB call_isi (by rfl) B.isinstance boot_isinstance (pa_cons (pe_ix ix_tup (pv 0) pe_int (fun _ _ => rfl)) (pa_cons (pe_bltn (v := .ty "int") (by rfl) B.int boot_int rfl) pa_nil))) (pe_one (pe_not (pe_callB call_isi (by rfl) B.isinstance boot_isinstance (pa_cons (pe_ix ix_tup (pv 0) pe_int (fun _ _ => rfl)) (pa_cons (pe_bltn (v := .ty "bool") (by rfl) B.bool boot_bool rfl) pa_nil))))))))
      (pss_one (ps_ret (pe_and (pv 2) (pe_one (pe_cmpR op_lt (pe_callB call_abs (by rfl) B.abs boot_abs (pa_cons (pe_ix ix_tup (pv 0) pe_int (fun _ _ => rfl)) pa_nil)) pe_int (nomark _))))))) pss_nil)
      (pss_cons (ps_if (pt_cmpR op_in_seq (pe_ix ix_tup (pv 0) pe_int (fun _ _ => rfl)) (pe_tup (pa_cons pe_str (pa_cons pe_str pa_nil))) (nomarkIn _)) (pss_one (ps_ret (pe_and (pe_cmpR op_eq (pe_callB call_len_seq (by rfl) B.len boot_len (pa_cons (pv 0) pa_nil)) (pe_ix ix_list (pe_lst (pa_cons pe_int (pa_cons pe_int pa_nil))) (pe_callTy call_int1 (by rfl) B.int boot_int (pa_cons (pe_cmpR op_eq (pe_ix ix_tup (pv 0) pe_int (fun _ _ => rfl)) pe_str (nomark _)) pa_nil)) (fun _ _ => rfl)) (nomark _)) (pe_one (pe_cmpR (op_eqD hr.units) (pe_lc (own := [("_law_c", 4)])  rfl sc_l_good.nd (pi_tup (pe_slice sl_tup (pv 0) (po_some pe_int) po_none)) (blkOk_by (N := ["_law_part_here", "_law_deep_here", "_law_good_here", "_law_many", "_law_c", "_law_one"]) (sc := defScope s_l_good) (by decide +kernel)) (fun _ _ _ _ _ => pg_name (i := 4) sc_l_good.nd rfl (Or.inl rfl)) (fun _ _ _ _ _ => (pts_one (pt_not (pt_val (pc_c C_l_good_cell (hr.mono (by first | exact Nat.le_refl _ | decide | omega)) (by rfl) (pa_cons (pv 4) pa_nil)))))) (fun _ _ _ _ _ => (pv 4))) (pe_lst pa_nil) (nomark _)))))) pss_nil)
      (pss_cons (ps_set (i := 3) sc_l_good.nd rfl (Or.inl rfl) (pe_dget2 (hu_of hr) (pe_disp (pps_cons pe_str pe_int (pps_cons pe_str pe_int (pps_cons pe_str pe_int (pps_cons pe_str pe_int pps_nil)))) (by rfl) (by rfl) (by intro z; cases z) (by decide)) (pe_ix ix_tup (pv 0) pe_int (fun _ _ => rfl)) pe_int ⟨rfl, rfl, rfl, rfl⟩))
      (pss_one (ps_ret (pe_and (pe_cmpR op_eq (pe_callB call_len_seq (by rfl) B.len boot_len (pa_cons (pv 0) pa_nil)) (pv 3) (nomark _)) (pe_one (pe_cmpR (op_eqD hr.units) (pe_lc (own := [("_law_one", 5)])  rfl sc_l_good.nd (pi_tup (pe_slice sl_tup (pv 0) (po_some pe_int) po_none)) (blkOk_by (N := ["_law_part_here", "_law_deep_here", "_law_good_here", "_law_many", "_law_c", "_law_one"]) (sc := defScope s_l_good) (by decide +kernel)) (fun _ _ _ _ _ => pg_name (i := 5) sc_l_good.nd rfl (Or.inl rfl)) (fun _ _ _ _ _ => (pts_one (pt_not (pt_val (pc_c C_l_good (hr.mono (by first | exact Nat.le_refl _ | decide | omega)) (by rfl) (pa_cons (pv 5) (pa_cons (pe_op op_add (pv 1) pe_int) pa_nil))))))) (fun _ _ _ _ _ => (pv 5))) (pe_lst pa_nil) (nomark _)))))))))), ?_⟩
  obtain ⟨a0, xs0, rfl, hT⟩ := ap.head
  have hp := p.hgt_pos
  refine ⟨_, rfl, ⟨_, _, _, _, _, rfl, .ty _, sqT_ty hT, kit_ty k_tuple_tuple, _, rfl, iteF ?_⟩⟩
  have e0 : decide (V.int ((V.str p.word :: xs0).length : Int) = V.int 0) = false := by
    rw [dec_i, decide_eq_false_iff_not]
    simp only [List.length_cons]
    omega
  refine ⟨_, rfl, a0, _, rfl, .inr hT, rfl, _, rfl, ?_⟩
  rw [e0]
  refine iteF ⟨_, rfl, _, _, rfl, rfl, _, rfl, ?_⟩
  rw [show decide ((5 : Int) < d) = false from decide_eq_false (by omega)]
  refine iteF ⟨_, rfl, a0, _, _, _, rfl, rfl, hT, at0, ⟨_, _, _, _, _, rfl, .ty _, dp_ty (K := K) (.str _), kit_ty k_str_str, _, rfl, iteF ?_⟩⟩
  refine ⟨_, rfl, a0, _, _, _, rfl, rfl, hT, at0, rfl, _, rfl, ?_⟩
  rw [dec_s, p.w_num]
  by_cases nm : p.isNum = true
  · rw [nm]
    obtain ⟨m, rfl⟩ : ∃ m, p = .num m := by
      cases p with
      | num z => exact ⟨z, rfl⟩
      | _ => exact absurd nm Bool.false_ne_true
    obtain ⟨a, e, h1⟩ := ap
    cases e
    refine iteT ⟨_, rfl, a0, _, rfl, .inr h1, rfl, _, rfl, iteT ?_⟩
    refine ⟨_, rfl, a0, _, _, _, rfl, rfl, h1, rfl, ⟨_, _, _, _, _, rfl, .ty _, dp_ty (K := K) (.int _), kit_ty k_int_int, _, rfl, iteT ?_⟩⟩
    refine ⟨_, rfl, a0, _, _, _, rfl, rfl, h1, rfl, ⟨_, _, _, _, _, rfl, .ty _, dp_ty (K := K) (.int _), kit_ty k_int_bool, _, rfl, ?_⟩⟩
    refine ⟨_, rfl, _, rfl, iteT ⟨_, rfl, a0, _, _, _, rfl, rfl, h1, rfl, _, rfl, _, _, rfl, rfl, ?_⟩⟩
    have gm := gp.1
    have gm2 := gp.2
    show Q (.bl (decide ((if m < 0 then -m else m) < 1000000))) H
    rw [show decide ((if m < 0 then -m else m) < 1000000) = true from decide_eq_true (by split <;> omega)]
    exact k _ (.refl H)
  have m : p.isNum = false := Bool.eq_false_iff.mpr nm
  rw [m]
  refine iteF ?_
  refine ⟨_, rfl, a0, _, _, _, rfl, rfl, hT, at0, small (by show 2 ≤ 1000; decide), fun t ht => ?_⟩
  have s1 : Same H (upd H t (.tup [.str "cell", .str "sum"])) := same_new ht _
  have t1 : Tk K H (upd H t (.tup [.str "cell", .str "sum"])) := .same s1
  refine ⟨t, _, rfl, .inr (SqT.of upd_same), rfl, rfl, ?_⟩
  generalize upd H t (.tup [.str "cell", .str "sum"]) = H1 at s1 t1 ⊢
  rw [show (if false = true then !inV (.str p.word) [.str "cell", .str "sum"] else inV (.str p.word) [.str "cell", .str "sum"]) = (p.isCel || p.isSum) from inW2 p]
  by_cases o : p.isOp = true
  · obtain ⟨n1, n2, n3⟩ := Part.op_not o
    rw [n2, n3]
    obtain ⟨a, xs, e, h1, h2⟩ := ap.node o
    cases e
    refine ⟨_, rfl, iteF ?_⟩
    refine fun pd hd => ⟨upd_same, mkvs, rfl, by decide, pd, rfl, .inl ⟨_, .of upd_same⟩, ?_⟩
    have s2 : Same H1 (upd (upd H1 pd (.dK [])) pd (.dK (mergeK [] mkvs))) := fun c o e => by
      rw [upd_upd]
      exact same_new hd _ c o e
    have g2 : upd (upd H1 pd (.dK [])) pd (.dK (mergeK [] mkvs)) pd = some (.dK (mergeK [] mkvs)) := upd_same
    generalize upd (upd H1 pd (.dK [])) pd (.dK (mergeK [] mkvs)) = H2 at s2 g2 ⊢
    have t2 : Tk K H H2 := t1.trans (.same s2)
    refine ⟨_, rfl, a0, _, _, _, rfl, rfl, t2 _ _ h1, at0, _, DGet.k (k := .inr p.word) g2, ?_⟩
    rw [many_of o]
    have ek : decide (V.int ((V.str p.word :: xs).length : Int) = V.int ((p.kids.length : Int) + 1)) = true := by
      rw [dec_i, List.length_cons, h2.len]
      simp
    refine ⟨_, rfl, a0, _, rfl, .inr (t2 _ _ h1), _, rfl, rfl, _, rfl, ?_⟩
    rw [show decide (V.int ((V.str p.word :: xs).length : Int) = (some (V.int ((p.kids.length : Int) + 1))).getD (V.int 0)) = true from ek]
    refine iteT ?_
    refine ⟨_, rfl, 1, rfl, a0, _, rfl, t2 _ _ h1, sl1_ne _ _, fun q hq => ⟨q, rfl, ⟨_, SqT.of upd_same⟩, fun D hD => ?_⟩⟩
    rw [cut1] at hD ⊢
    have s3 : Same H2 (upd H2 q (.tup xs)) := same_new hq _
    have q3 : SqT K (upd H2 q (.tup xs)) q xs := SqT.of upd_same
    generalize upd H2 q (.tup xs) = H3 at s3 q3 hD ⊢
    have t3 := t2.trans (.same s3)
    refine lc_tup (K := K) (a := q) (xs := xs) (fun i H4 => Same H3 H4 ∧ H4 D = some (.lst [])) ⟨same_new hD _, upd_same⟩ (fun i H4 _ h => Tk.same h.1 _ _ q3) ?_ ?_
    · rintro i x H4 hx ⟨s4, d4⟩
      obtain ⟨z, hz, az⟩ := h2.get hx
      have mz : z ∈ p.kids := List.mem_of_getElem? hz
      have gz := Part.kid_good gp mz
      have hz' := Part.kid_hgt mz
      refine ⟨wipe_in (by decide), _, rfl, _, rfl, _, _, rfl, rfl, z, x, d + 1, rfl, az.tk (t3.trans (.same s4)), gz, by omega, by omega, by omega, fun H5 s5 => ⟨_, rfl, iteF ⟨fun c o e => s5 _ _ (s4 c o e), s5 _ _ d4⟩⟩⟩
    · rintro H4 ⟨s4, d4⟩
      refine ⟨(by decide), fun p5 h5 => ?_⟩
      refine ⟨_, _, .lst (SqL.of (same_new h5 _ _ _ d4)) .nil, .lst (SqL.of upd_same) .nil, shaped_nil, shaped_nil, ?_⟩
      rw [eqv_nil]
      refine k _ fun c o e => same_new h5 _ _ _ (s4 _ _ (s3 _ _ (s2 _ _ (s1 c o e))))
  · obtain ⟨cs, hcs, hc⟩ : ∃ cs : List Cel, SqT K H a0 (.str p.word :: cs.map fun c => V.str c.s) ∧ (p.isCel = true ∧ p.isSum = false ∧ cs.length = 1 ∨ p.isCel = false ∧ p.isSum = true ∧ cs.length = 2) := by
      cases p with
      | num z => exact absurd m.symm Bool.false_ne_true
      | cel c =>
        obtain ⟨a, e, h1⟩ := ap
        cases e
        exact ⟨[c], h1, .inl ⟨rfl, rfl, rfl⟩⟩
      | sum c d =>
        obtain ⟨a, e, h1⟩ := ap
        cases e
        exact ⟨[c, d], h1, .inr ⟨rfl, rfl, rfl⟩⟩
      | _ => exact absurd rfl o
    rw [show (p.isCel || p.isSum) = true by rcases hc with ⟨a, b, _⟩ | ⟨a, b, _⟩ <;> rw [a, b] <;> rfl]
    refine ⟨_, rfl, iteT ?_⟩
    refine ⟨_, rfl, a0, _, rfl, .inr (t1 _ _ hcs), small (by show 2 ≤ 1000; decide), fun q hq => ?_⟩
    have s2 : Same H1 (upd H1 q (.lst [.int 2, .int 3])) := same_new hq _
    have g2 : upd H1 q (.lst [.int 2, .int 3]) q = some (.lst [.int 2, .int 3]) := upd_same
    generalize upd H1 q (.lst [.int 2, .int 3]) = H2 at s2 g2 ⊢
    have t2 := t1.trans (.same s2)
    have ea : atI [V.int 2, V.int 3] (if p.isSum = true then 1 else 0) = some (.int ((cs.length : Int) + 1)) := by
      rcases hc with ⟨_, b, c⟩ | ⟨_, b, c⟩ <;> rw [b, c] <;> rfl
    have ek : decide (V.int ((V.str p.word :: cs.map fun c => V.str c.s).length : Int) = V.int ((cs.length : Int) + 1)) = true := by
      rw [dec_i, List.length_cons, List.length_map]
      simp
    refine ⟨_, rfl, a0, _, _, _, rfl, rfl, t2 _ _ hcs, at0, rfl, .inr ⟨_, rfl, ?_⟩⟩
    rw [dec_s, p.w_sum]
    refine ⟨q, _, _, _, rfl, rfl, SqL.of g2, ea, rfl, _, rfl, ?_⟩
    rw [ek]
    refine iteT ?_
    refine ⟨_, rfl, 1, rfl, a0, _, rfl, t2 _ _ hcs, sl1_ne _ _, fun q' hq' => ⟨q', rfl, ⟨_, SqT.of upd_same⟩, fun D hD => ?_⟩⟩
    rw [cut1] at hD ⊢
    have s3 : Same H2 (upd H2 q' (.tup (cs.map fun c => V.str c.s))) := same_new hq' _
    have q3 : SqT K (upd H2 q' (.tup (cs.map fun c => V.str c.s))) q' (cs.map fun c => V.str c.s) := SqT.of upd_same
    generalize upd H2 q' (.tup (cs.map fun c => V.str c.s)) = H3 at s3 q3 hD ⊢
    refine lc_tup (K := K) (a := q') (xs := cs.map fun c => V.str c.s) (fun i H4 => Same H3 H4 ∧ H4 D = some (.lst [])) ⟨same_new hD _, upd_same⟩ (fun i H4 _ h => Tk.same h.1 _ _ q3) ?_ ?_
    · rintro i x H4 hx ⟨s4, d4⟩
      rw [List.getElem?_map] at hx
      obtain ⟨c, _, rfl⟩ := Option.map_eq_some_iff.mp hx
      refine ⟨wipe_in (by decide), _, rfl, c, rfl, _, rfl, iteF ⟨s4, d4⟩⟩
    · rintro H4 ⟨s4, d4⟩
      refine ⟨(by decide), fun p5 h5 => ?_⟩
      refine ⟨_, _, .lst (SqL.of (same_new h5 _ _ _ d4)) .nil, .lst (SqL.of upd_same) .nil, shaped_nil, shaped_nil, ?_⟩
      rw [eqv_nil]
      refine k _ fun c o e => same_new h5 _ _ _ (s4 _ _ (s3 _ _ (s2 _ _ (s1 c o e))))
theorem cal_lgood {f : Addr} {fd : FuncData} (F : Fun K "_law_good" "_law_good" s_l_good f fd) (B : Bt mg) (Cg : Cal P w K mg base 1 "_law_good_cell" ["_law_cell_here"] spGoodCell)
    (m : mg "_law_good" = some (.ref f)) (b : Binds K fd ["_law_part_here", "_law_deep_here"] []) : ∀ n : Nat, Cal P w K mg base (n + 1) "_law_good" ["_law_part_here", "_law_deep_here"] (spGood K n)
  | 0 => by
    have no : ∀ vs H Q E, ¬ spGood K 0 vs H Q E := fun vs H Q E ⟨_, _, _, _, _, _, _, _, h, _⟩ => Nat.not_lt_zero _ h
    exact ⟨f, fd, ⟨fun vs H Q E h => absurd h (no vs H Q E), fun A outer s H args us vs Q E _ _ _ _ h => absurd h (no vs H Q E)⟩, m, F.kp, b⟩
  | n + 1 => ⟨f, fd, ok_lgood F B Cg (cal_lgood F B Cg m b n), m, F.kp, b⟩
end
end U

namespace U
open PySem L2 PyProof.Rows
section
variable {P : Program} {w : World} {K : PySem.W.Frag} {mg : Str → Option Value} {base : Heap}
theorem ok_law {f CB CT CN : Addr} {fd : FuncData} (F : Fun K "law" "law" s_law f fd) (B : Bt mg) (e_TableError : ExcF K mg "TableError" CT) (e_BadFormula : ExcF K mg "BadFormula" CB) (e_NoCell : ExcF K mg "NoCell" CN)
    (c_BadFormula : ExcC K CB) (x1 : PySem.W.exmOne K (.ref CB) (.ref CT) = some true) (k1 : PySem.W.kitOne K (.ref CB) (.ref CB) = some true) (k2 : PySem.W.kitOne K (.ref CB) (.type "ValueError") = some true) (k3 : PySem.W.kitOne K (.ref CB) (.ref CN) = some false)
    (C_l_begun : Cal P w K mg base 1 "_law_begun" ["_law_script"] (spBegun K)) (C_l_text_of : Cal P w K mg base 10 "_law_text_of" ["_law_box"] spTextOf) (C_l_text : Cal P w K mg base 9 "_law_text" ["_law_content_here"] (spText K))
    (C_l_good : Cal P w K mg base 7 "_law_good" ["_law_part_here", "_law_deep_here"] (spGood K 6)) (C_read : CalX P w K mg base 14 "read" ["text"] (spRead K CB)) :
    FnOk P w K mg base CX0 15 f fd ["_law_script"] (spLaw K) := by
  refine F.ok sc_law (fun vs H Q E h => ?_) (fun cdv A outer s H vs Q E hr h => ?_)
  · obtain ⟨a, ns, rfl, _⟩ := h
    rfl
  obtain ⟨a, ns, rfl, hS, hl, k⟩ := h
  refine ⟨_, (pss_cons (ps_set (i := 1) sc_law.nd rfl (Or.inl rfl) (pc_c C_l_begun (hr.mono (by first | exact Nat.le_refl _ | decide | omega)) (by rfl) (pa_cons (pv 0) pa_nil)))
      (pss_cons (ps_set (i := 2) sc_law.nd rfl (Or.inl rfl) (pc_c C_l_text_of (hr.mono (by first | exact Nat.le_refl _ | decide | omega)) (by rfl) (pa_cons (pv 1) pa_nil)))
      (pss_cons (ps_try_as (i := 4) (Wout := fun _ _ _ _ => False) rfl rfl sc_law.nd rfl rfl ⟨(by rfl), by decide, Or.inl e_TableError.g⟩ takes0 (fun W pn xe tk _ => (pss_one (ps_set (i := 3) sc_law.nd rfl (Or.inl rfl) (pc_s C_read (hr.mono (by first | exact Nat.le_refl _ | decide | omega)) (by rfl) (fun σ => passAt tk σ) (pa_cons (pv 2) pa_nil)))))
      (fun a oe cls d pn hz hf => (pss_one (ps_ret (pe_and (pe_callB (call_isX c_BadFormula hz hf) (by rfl) B.isinstance boot_isinstance (pa_cons (pv 4) (pa_cons (pe_gr e_BadFormula.g (by rfl)) pa_nil))) (pe_and (pe_callB (call_isX c_BadFormula hz hf) (by rfl) B.isinstance boot_isinstance (pa_cons (pv 4) (pa_cons (pe_bltn (v := .ty "ValueError") (by rfl) B.ValueError boot_ValueError rfl) pa_nil))) (pe_one (pe_not (pe_callB (call_isX c_BadFormula hz hf) (by rfl) B.isinstance boot_isinstance (pa_cons (pv 4) (pa_cons (pe_gr e_NoCell.g (by rfl)) pa_nil)))))))))))
      (pss_cons (ps_if (PW.pt (pw_and (pt_cmpR op_notN (pv 3) pe_non (nomark _)) (pw_and1 (pt_not (pt_val (pc_c C_l_good (hr.mono (by first | exact Nat.le_refl _ | decide | omega)) (by rfl) (pa_cons (pv 3) (pa_cons pe_int pa_nil)))))))) (pss_one (ps_ret pe_bl)) pss_nil)
      (pss_one (ps_ret (pe_cmpR op_eq (pc_c C_l_text (hr.mono (by first | exact Nat.le_refl _ | decide | omega)) (by rfl) (pa_cons (pv 3) pa_nil)) (pv 2) (nomark _)))))))), ?_⟩
  refine ⟨_, rfl, a, ns, rfl, hS, hl, fun b l H1 s1 hb hl BX => ?_⟩
  refine ⟨_, rfl, b, l, rfl, BX, fun x H2 hx => ?_⟩
  refine ⟨_, rfl, x, rfl, hx, fun o e v H3 s3 ca => ?_, fun e H3 s3 => ⟨true, x1, fun _ ea hea => ?_, fun z => by cases z⟩⟩
  · obtain ⟨hc, go⟩ := rd_back e
    have g8 := goodC_mono go (show 5 ≤ 8 by decide)
    have fin : ∀ H4, Same H3 H4 → Q (.bl (decide (V.str (SX.S (ctx o)) = V.str (SX.S x)))) H4 := fun H4 _ => by
      rw [hc, decide_eq_true rfl]
      exact k _
    cases o with
    | none =>
      cases (show v = V.non from ca)
      refine ⟨_, rfl, rfl, _, rfl, iteF ?_⟩
      exact ⟨_, rfl, none, _, rfl, ca, trivial, fun H4 s4 => ⟨_, rfl, rfl, fin _ s4⟩⟩
    | some p =>
      obtain ⟨av, xs, rfl, hT⟩ := PA.head ca
      refine ⟨_, rfl, rfl, _, rfl, iteT ?_⟩
      have hp := go.2
      refine ⟨_, rfl, p, _, 1, rfl, ca, go.1, by decide, by omega, by omega, fun H4 s4 => ⟨_, rfl, iteF ?_⟩⟩
      have ca4 : CA K H4 (some p) (.ref av) := ca.tk (.same s4)
      exact ⟨_, rfl, some p, _, rfl, ca4, g8, fun H5 s5 => ⟨_, rfl, rfl, fin _ (s4.trans s5)⟩⟩
  · refine ⟨_, rfl, isX_ref k1 ⟨_, rfl, iteT ⟨_, rfl, isX_val k2 ⟨_, rfl, iteT ⟨_, rfl, isX_ref k3 ⟨_, rfl, ?_⟩⟩⟩⟩⟩⟩
    exact k _
end
end U

namespace U
open PySem L2 PyProof.Rows
theorem all_mk {l : PySem.W.OpenLaw} {w : World} {K : PySem.W.Frag} {h : Heap} {mg : Str → Option Value} {fa : Addr} (X : K.In h) (G : h.Ns mainGlobals mg) (hfa : mg "law" = some (.ref fa))
    {f_is_cell : Addr} {od_is_cell an_is_cell : Option Addr} {sl_is_cell : Array (Option Value)} {oc_is_cell kV_is_cell dc_is_cell pm_is_cell cd_is_cell ct_is_cell : Value}
    {f_is_number : Addr} {od_is_number an_is_number : Option Addr} {sl_is_number : Array (Option Value)} {oc_is_number kV_is_number dc_is_number pm_is_number cd_is_number ct_is_number : Value}
    {f_read : Addr} {od_read an_read : Option Addr} {sl_read : Array (Option Value)} {oc_read kV_read dc_read pm_read cd_read ct_read : Value}
    {f_part_at : Addr} {od_part_at an_part_at : Option Addr} {sl_part_at : Array (Option Value)} {oc_part_at kV_part_at dc_part_at pm_part_at cd_part_at ct_part_at : Value}
    {f_sum_at : Addr} {od_sum_at an_sum_at : Option Addr} {sl_sum_at : Array (Option Value)} {oc_sum_at kV_sum_at dc_sum_at pm_sum_at cd_sum_at ct_sum_at : Value}
    {f_parts_at : Addr} {od_parts_at an_parts_at : Option Addr} {sl_parts_at : Array (Option Value)} {oc_parts_at kV_parts_at dc_parts_at pm_parts_at cd_parts_at ct_parts_at : Value}
    {f_l_begun : Addr} {od_l_begun an_l_begun : Option Addr} {sl_l_begun : Array (Option Value)} {oc_l_begun kV_l_begun dc_l_begun pm_l_begun cd_l_begun ct_l_begun : Value}
    {f_l_take : Addr} {od_l_take an_l_take : Option Addr} {sl_l_take : Array (Option Value)} {oc_l_take kV_l_take dc_l_take pm_l_take cd_l_take ct_l_take : Value}
    {f_l_cell : Addr} {od_l_cell an_l_cell : Option Addr} {sl_l_cell : Array (Option Value)} {oc_l_cell kV_l_cell dc_l_cell pm_l_cell cd_l_cell ct_l_cell : Value}
    {f_l_part : Addr} {od_l_part an_l_part : Option Addr} {sl_l_part : Array (Option Value)} {oc_l_part kV_l_part dc_l_part pm_l_part cd_l_part ct_l_part : Value}
    {f_l_content : Addr} {od_l_content an_l_content : Option Addr} {sl_l_content : Array (Option Value)} {oc_l_content kV_l_content dc_l_content pm_l_content cd_l_content ct_l_content : Value}
    {f_l_part_text : Addr} {od_l_part_text an_l_part_text : Option Addr} {sl_l_part_text : Array (Option Value)} {oc_l_part_text kV_l_part_text dc_l_part_text pm_l_part_text cd_l_part_text ct_l_part_text : Value}
    {f_l_text : Addr} {od_l_text an_l_text : Option Addr} {sl_l_text : Array (Option Value)} {oc_l_text kV_l_text dc_l_text pm_l_text cd_l_text ct_l_text : Value}
    {f_l_deep : Addr} {od_l_deep an_l_deep : Option Addr} {sl_l_deep : Array (Option Value)} {oc_l_deep kV_l_deep dc_l_deep pm_l_deep cd_l_deep ct_l_deep : Value}
    {f_l_text_of : Addr} {od_l_text_of an_l_text_of : Option Addr} {sl_l_text_of : Array (Option Value)} {oc_l_text_of kV_l_text_of dc_l_text_of pm_l_text_of cd_l_text_of ct_l_text_of : Value}
    {f_l_good_cell : Addr} {od_l_good_cell an_l_good_cell : Option Addr} {sl_l_good_cell : Array (Option Value)} {oc_l_good_cell kV_l_good_cell dc_l_good_cell pm_l_good_cell cd_l_good_cell ct_l_good_cell : Value}
    {f_l_good : Addr} {od_l_good an_l_good : Option Addr} {sl_l_good : Array (Option Value)} {oc_l_good kV_l_good dc_l_good pm_l_good cd_l_good ct_l_good : Value}
    {f_law : Addr} {od_law an_law : Option Addr} {sl_law : Array (Option Value)} {oc_law kV_law dc_law pm_law cd_law ct_law : Value}
    {t_COLUMNS : Tok}
    {t_ROWS : Tok}
    {t_DEEPEST : Tok}
    {t_FIGURES : Tok}
    {X_TableError : Addr}
    {X_NoCell : Addr}
    {X_BadFormula : Addr}
    {d_PARTS : Addr} {es_PARTS : Array DictEntry} {n_PARTS : Nat} {t_PARTS_0 t_PARTS_1 t_PARTS_2 t_PARTS_3 : Tok}
    (a_is_cell : PySem.W.nsIn K mainGlobals "is_cell" = some (some (.ref f_is_cell)))
    (l_is_cell : K.lookup f_is_cell = some ⟨oc_is_cell, od_is_cell, .func (PySem.W.fnOf "is_cell" "is_cell" (defArgs s_is_cell) (defBody s_is_cell) (defScope s_is_cell) .none kV_is_cell dc_is_cell pm_is_cell an_is_cell cd_is_cell ct_is_cell), sl_is_cell⟩)
    (c_is_cell : PySem.W.codeIn K cd_is_cell "is_cell" = true) (k_is_cell : PySem.W.keepIn K (.ref f_is_cell) = true)
    (a_is_number : PySem.W.nsIn K mainGlobals "is_number" = some (some (.ref f_is_number)))
    (l_is_number : K.lookup f_is_number = some ⟨oc_is_number, od_is_number, .func (PySem.W.fnOf "is_number" "is_number" (defArgs s_is_number) (defBody s_is_number) (defScope s_is_number) .none kV_is_number dc_is_number pm_is_number an_is_number cd_is_number ct_is_number), sl_is_number⟩)
    (c_is_number : PySem.W.codeIn K cd_is_number "is_number" = true) (k_is_number : PySem.W.keepIn K (.ref f_is_number) = true)
    (a_read : PySem.W.nsIn K mainGlobals "read" = some (some (.ref f_read)))
    (l_read : K.lookup f_read = some ⟨oc_read, od_read, .func (PySem.W.fnOf "read" "read" (defArgs s_read) (defBody s_read) (defScope s_read) .none kV_read dc_read pm_read an_read cd_read ct_read), sl_read⟩)
    (c_read : PySem.W.codeIn K cd_read "read" = true) (k_read : PySem.W.keepIn K (.ref f_read) = true)
    (a_part_at : PySem.W.nsIn K mainGlobals "part_at" = some (some (.ref f_part_at)))
    (l_part_at : K.lookup f_part_at = some ⟨oc_part_at, od_part_at, .func (PySem.W.fnOf "part_at" "part_at" (defArgs s_part_at) (defBody s_part_at) (defScope s_part_at) .none kV_part_at dc_part_at pm_part_at an_part_at cd_part_at ct_part_at), sl_part_at⟩)
    (c_part_at : PySem.W.codeIn K cd_part_at "part_at" = true) (k_part_at : PySem.W.keepIn K (.ref f_part_at) = true)
    (a_sum_at : PySem.W.nsIn K mainGlobals "sum_at" = some (some (.ref f_sum_at)))
    (l_sum_at : K.lookup f_sum_at = some ⟨oc_sum_at, od_sum_at, .func (PySem.W.fnOf "sum_at" "sum_at" (defArgs s_sum_at) (defBody s_sum_at) (defScope s_sum_at) .none kV_sum_at dc_sum_at pm_sum_at an_sum_at cd_sum_at ct_sum_at), sl_sum_at⟩)
    (c_sum_at : PySem.W.codeIn K cd_sum_at "sum_at" = true) (k_sum_at : PySem.W.keepIn K (.ref f_sum_at) = true)
    (a_parts_at : PySem.W.nsIn K mainGlobals "parts_at" = some (some (.ref f_parts_at)))
    (l_parts_at : K.lookup f_parts_at = some ⟨oc_parts_at, od_parts_at, .func (PySem.W.fnOf "parts_at" "parts_at" (defArgs s_parts_at) (defBody s_parts_at) (defScope s_parts_at) .none kV_parts_at dc_parts_at pm_parts_at an_parts_at cd_parts_at ct_parts_at), sl_parts_at⟩)
    (c_parts_at : PySem.W.codeIn K cd_parts_at "parts_at" = true) (k_parts_at : PySem.W.keepIn K (.ref f_parts_at) = true)
    (a_l_begun : PySem.W.nsIn K mainGlobals "_law_begun" = some (some (.ref f_l_begun)))
    (l_l_begun : K.lookup f_l_begun = some ⟨oc_l_begun, od_l_begun, .func (PySem.W.fnOf "_law_begun" "_law_begun" (defArgs s_l_begun) (defBody s_l_begun) (defScope s_l_begun) .none kV_l_begun dc_l_begun pm_l_begun an_l_begun cd_l_begun ct_l_begun), sl_l_begun⟩)
    (c_l_begun : PySem.W.codeIn K cd_l_begun "_law_begun" = true) (k_l_begun : PySem.W.keepIn K (.ref f_l_begun) = true)
    (a_l_take : PySem.W.nsIn K mainGlobals "_law_take" = some (some (.ref f_l_take)))
    (l_l_take : K.lookup f_l_take = some ⟨oc_l_take, od_l_take, .func (PySem.W.fnOf "_law_take" "_law_take" (defArgs s_l_take) (defBody s_l_take) (defScope s_l_take) .none kV_l_take dc_l_take pm_l_take an_l_take cd_l_take ct_l_take), sl_l_take⟩)
    (c_l_take : PySem.W.codeIn K cd_l_take "_law_take" = true) (k_l_take : PySem.W.keepIn K (.ref f_l_take) = true)
    (a_l_cell : PySem.W.nsIn K mainGlobals "_law_cell" = some (some (.ref f_l_cell)))
    (l_l_cell : K.lookup f_l_cell = some ⟨oc_l_cell, od_l_cell, .func (PySem.W.fnOf "_law_cell" "_law_cell" (defArgs s_l_cell) (defBody s_l_cell) (defScope s_l_cell) .none kV_l_cell dc_l_cell pm_l_cell an_l_cell cd_l_cell ct_l_cell), sl_l_cell⟩)
    (c_l_cell : PySem.W.codeIn K cd_l_cell "_law_cell" = true) (k_l_cell : PySem.W.keepIn K (.ref f_l_cell) = true)
    (a_l_part : PySem.W.nsIn K mainGlobals "_law_part" = some (some (.ref f_l_part)))
    (l_l_part : K.lookup f_l_part = some ⟨oc_l_part, od_l_part, .func (PySem.W.fnOf "_law_part" "_law_part" (defArgs s_l_part) (defBody s_l_part) (defScope s_l_part) .none kV_l_part dc_l_part pm_l_part an_l_part cd_l_part ct_l_part), sl_l_part⟩)
    (c_l_part : PySem.W.codeIn K cd_l_part "_law_part" = true) (k_l_part : PySem.W.keepIn K (.ref f_l_part) = true)
    (a_l_content : PySem.W.nsIn K mainGlobals "_law_content" = some (some (.ref f_l_content)))
    (l_l_content : K.lookup f_l_content = some ⟨oc_l_content, od_l_content, .func (PySem.W.fnOf "_law_content" "_law_content" (defArgs s_l_content) (defBody s_l_content) (defScope s_l_content) .none kV_l_content dc_l_content pm_l_content an_l_content cd_l_content ct_l_content), sl_l_content⟩)
    (c_l_content : PySem.W.codeIn K cd_l_content "_law_content" = true) (k_l_content : PySem.W.keepIn K (.ref f_l_content) = true)
    (a_l_part_text : PySem.W.nsIn K mainGlobals "_law_part_text" = some (some (.ref f_l_part_text)))
    (l_l_part_text : K.lookup f_l_part_text = some ⟨oc_l_part_text, od_l_part_text, .func (PySem.W.fnOf "_law_part_text" "_law_part_text" (defArgs s_l_part_text) (defBody s_l_part_text) (defScope s_l_part_text) .none kV_l_part_text dc_l_part_text pm_l_part_text an_l_part_text cd_l_part_text ct_l_part_text), sl_l_part_text⟩)
    (c_l_part_text : PySem.W.codeIn K cd_l_part_text "_law_part_text" = true) (k_l_part_text : PySem.W.keepIn K (.ref f_l_part_text) = true)
    (a_l_text : PySem.W.nsIn K mainGlobals "_law_text" = some (some (.ref f_l_text)))
    (l_l_text : K.lookup f_l_text = some ⟨oc_l_text, od_l_text, .func (PySem.W.fnOf "_law_text" "_law_text" (defArgs s_l_text) (defBody s_l_text) (defScope s_l_text) .none kV_l_text dc_l_text pm_l_text an_l_text cd_l_text ct_l_text), sl_l_text⟩)
    (c_l_text : PySem.W.codeIn K cd_l_text "_law_text" = true) (k_l_text : PySem.W.keepIn K (.ref f_l_text) = true)
    (a_l_deep : PySem.W.nsIn K mainGlobals "_law_deep" = some (some (.ref f_l_deep)))
    (l_l_deep : K.lookup f_l_deep = some ⟨oc_l_deep, od_l_deep, .func (PySem.W.fnOf "_law_deep" "_law_deep" (defArgs s_l_deep) (defBody s_l_deep) (defScope s_l_deep) .none kV_l_deep dc_l_deep pm_l_deep an_l_deep cd_l_deep ct_l_deep), sl_l_deep⟩)
    (c_l_deep : PySem.W.codeIn K cd_l_deep "_law_deep" = true) (k_l_deep : PySem.W.keepIn K (.ref f_l_deep) = true)
    (a_l_text_of : PySem.W.nsIn K mainGlobals "_law_text_of" = some (some (.ref f_l_text_of)))
    (l_l_text_of : K.lookup f_l_text_of = some ⟨oc_l_text_of, od_l_text_of, .func (PySem.W.fnOf "_law_text_of" "_law_text_of" (defArgs s_l_text_of) (defBody s_l_text_of) (defScope s_l_text_of) .none kV_l_text_of dc_l_text_of pm_l_text_of an_l_text_of cd_l_text_of ct_l_text_of), sl_l_text_of⟩)
    (c_l_text_of : PySem.W.codeIn K cd_l_text_of "_law_text_of" = true) (k_l_text_of : PySem.W.keepIn K (.ref f_l_text_of) = true)
    (a_l_good_cell : PySem.W.nsIn K mainGlobals "_law_good_cell" = some (some (.ref f_l_good_cell)))
    (l_l_good_cell : K.lookup f_l_good_cell = some ⟨oc_l_good_cell, od_l_good_cell, .func (PySem.W.fnOf "_law_good_cell" "_law_good_cell" (defArgs s_l_good_cell) (defBody s_l_good_cell) (defScope s_l_good_cell) .none kV_l_good_cell dc_l_good_cell pm_l_good_cell an_l_good_cell cd_l_good_cell ct_l_good_cell), sl_l_good_cell⟩)
    (c_l_good_cell : PySem.W.codeIn K cd_l_good_cell "_law_good_cell" = true) (k_l_good_cell : PySem.W.keepIn K (.ref f_l_good_cell) = true)
    (a_l_good : PySem.W.nsIn K mainGlobals "_law_good" = some (some (.ref f_l_good)))
    (l_l_good : K.lookup f_l_good = some ⟨oc_l_good, od_l_good, .func (PySem.W.fnOf "_law_good" "_law_good" (defArgs s_l_good) (defBody s_l_good) (defScope s_l_good) .none kV_l_good dc_l_good pm_l_good an_l_good cd_l_good ct_l_good), sl_l_good⟩)
    (c_l_good : PySem.W.codeIn K cd_l_good "_law_good" = true) (k_l_good : PySem.W.keepIn K (.ref f_l_good) = true)
    (a_law : PySem.W.nsIn K mainGlobals "law" = some (some (.ref f_law)))
    (l_law : K.lookup f_law = some ⟨oc_law, od_law, .func (PySem.W.fnOf "law" "law" (defArgs s_law) (defBody s_law) (defScope s_law) .none kV_law dc_law pm_law an_law cd_law ct_law), sl_law⟩)
    (c_law : PySem.W.codeIn K cd_law "law" = true) (k_law : PySem.W.keepIn K (.ref f_law) = true)
    (a_COLUMNS : PySem.W.nsIn K mainGlobals "COLUMNS" = some (some (.str "abcdef" t_COLUMNS)))
    (a_ROWS : PySem.W.nsIn K mainGlobals "ROWS" = some (some (.str "123456789" t_ROWS)))
    (a_DEEPEST : PySem.W.nsIn K mainGlobals "DEEPEST" = some (some (.int 5 t_DEEPEST)))
    (a_FIGURES : PySem.W.nsIn K mainGlobals "FIGURES" = some (some (.int 6 t_FIGURES)))
    (a_TableError : PySem.W.nsIn K mainGlobals "TableError" = some (some (.ref X_TableError))) (k_TableError : PySem.W.keepIn K (.ref X_TableError) = true) (x_TableError : PySem.W.excIn K X_TableError [.type "ValueError", .type "Exception", .type "BaseException", .type "object"] "ValueError.__new__" = true)
    (b_TableError : PySem.W.subIn K (.ref X_TableError) (.type "BaseException") = some true) (t_TableError : PySem.W.typeIn K (.ref X_TableError) = some (.type "type"))
    (a_NoCell : PySem.W.nsIn K mainGlobals "NoCell" = some (some (.ref X_NoCell))) (k_NoCell : PySem.W.keepIn K (.ref X_NoCell) = true) (x_NoCell : PySem.W.excIn K X_NoCell [.type "ValueError", .type "Exception", .type "BaseException", .type "object"] "ValueError.__new__" = true)
    (b_NoCell : PySem.W.subIn K (.ref X_NoCell) (.type "BaseException") = some true) (t_NoCell : PySem.W.typeIn K (.ref X_NoCell) = some (.type "type"))
    (a_BadFormula : PySem.W.nsIn K mainGlobals "BadFormula" = some (some (.ref X_BadFormula))) (k_BadFormula : PySem.W.keepIn K (.ref X_BadFormula) = true) (x_BadFormula : PySem.W.excIn K X_BadFormula [.type "ValueError", .type "Exception", .type "BaseException", .type "object"] "ValueError.__new__" = true)
    (b_BadFormula : PySem.W.subIn K (.ref X_BadFormula) (.type "BaseException") = some true) (t_BadFormula : PySem.W.typeIn K (.ref X_BadFormula) = some (.type "type"))
    (hd_TableError : PySem.W.hasDictIn K X_TableError = true) (hs_TableError : PySem.W.isClsIn K X_TableError = true) (hr_TableError : PySem.W.subIn K (.ref X_TableError) (.ref X_TableError) = some true)
    (hd_NoCell : PySem.W.hasDictIn K X_NoCell = true) (hs_NoCell : PySem.W.isClsIn K X_NoCell = true) (hr_NoCell : PySem.W.subIn K (.ref X_NoCell) (.ref X_NoCell) = some true)
    (hd_BadFormula : PySem.W.hasDictIn K X_BadFormula = true) (hs_BadFormula : PySem.W.isClsIn K X_BadFormula = true) (hr_BadFormula : PySem.W.subIn K (.ref X_BadFormula) (.ref X_BadFormula) = some true)
    (ca_BadFormula : PySem.W.findIn K (.ref X_BadFormula) "__getattribute__" = some (some (.builtin "BaseException.__getattribute__"))) (cb_BadFormula : PySem.W.findIn K (.ref X_BadFormula) "__getattr__" = some none)
    (cc_BadFormula : PySem.W.findIn K (.ref X_BadFormula) "__class__" = some (some (.builtin "object.__class__"))) (ce_BadFormula : PySem.W.specialIn K (.builtin "object.__class__") "__get__" = some (some (.builtin "getset_descriptor.__get__")))
    (cf_BadFormula : PySem.W.takesIn K (.builtin "object.__class__") = some true) (cg_BadFormula : PySem.W.mroIn K X_BadFormula (.type "object") = some true) (cv_BadFormula : PySem.W.subIn K (.ref X_BadFormula) (.type "ValueError") = some true)
    (u_BadFormula_TableError : PySem.W.subIn K (.ref X_BadFormula) (.ref X_TableError) = some true)
    (u_BadFormula_NoCell : PySem.W.subIn K (.ref X_BadFormula) (.ref X_NoCell) = some false)
    (a_PARTS : PySem.W.nsIn K mainGlobals "PARTS" = some (some (.ref d_PARTS))) (l_PARTS : K.lookup d_PARTS = some ⟨.type "dict", none, .dict es_PARTS n_PARTS, #[]⟩) (y_PARTS : PySem.W.KeysLit w.params es_PARTS.toList) (w_PARTS : (d_PARTS == sysModules) = false)
    (q_PARTS : dictKeys es_PARTS = ([("add" : Str), ("sub" : Str), ("mul" : Str), ("pick" : Str)] : List Str))
    (v_PARTS_0 : PySem.W.nsIn K d_PARTS "add" = some (some (.int 2 t_PARTS_0)))
    (v_PARTS_1 : PySem.W.nsIn K d_PARTS "sub" = some (some (.int 2 t_PARTS_1)))
    (v_PARTS_2 : PySem.W.nsIn K d_PARTS "mul" = some (some (.int 2 t_PARTS_2)))
    (v_PARTS_3 : PySem.W.nsIn K d_PARTS "pick" = some (some (.int 4 t_PARTS_3)))
    (z_len : PySem.W.nsIn K mainGlobals "len" = some none)
    (z_range : PySem.W.nsIn K mainGlobals "range" = some none)
    (z_int : PySem.W.nsIn K mainGlobals "int" = some none)
    (z_str : PySem.W.nsIn K mainGlobals "str" = some none)
    (z_bool : PySem.W.nsIn K mainGlobals "bool" = some none)
    (z_list : PySem.W.nsIn K mainGlobals "list" = some none)
    (z_tuple : PySem.W.nsIn K mainGlobals "tuple" = some none)
    (z_dict : PySem.W.nsIn K mainGlobals "dict" = some none)
    (z_sorted : PySem.W.nsIn K mainGlobals "sorted" = some none)
    (z_isinstance : PySem.W.nsIn K mainGlobals "isinstance" = some none)
    (z_min : PySem.W.nsIn K mainGlobals "min" = some none)
    (z_max : PySem.W.nsIn K mainGlobals "max" = some none)
    (z_ValueError : PySem.W.nsIn K mainGlobals "ValueError" = some none)
    (z_abs : PySem.W.nsIn K mainGlobals "abs" = some none) :
    ∃ fd : FuncData, (∀ (s : Shared) (v : Value), BindsTo s fd ⟨[v], []⟩ [("_law_script", v)]) ∧ ∀ base : Heap, K.In base → base.Ns mainGlobals mg → FnOk l.prog w K mg base CX0 15 fa fd ["_law_script"] (spLaw K) := by
  have e := hfa.symm.trans (PySem.W.mg_of X G a_law)
  cases e
  have F_is_cell := fun_mk (st := s_is_cell) l_is_cell c_is_cell k_is_cell
  have b_is_cell := F_is_cell.binds (ps := ["text"]) fun _ _ _ _ _ _ us hl => match us, hl with | [_], _ => rfl
  have m_is_cell := PySem.W.mg_of X G a_is_cell
  have F_is_number := fun_mk (st := s_is_number) l_is_number c_is_number k_is_number
  have b_is_number := F_is_number.binds (ps := ["text"]) fun _ _ _ _ _ _ us hl => match us, hl with | [_], _ => rfl
  have m_is_number := PySem.W.mg_of X G a_is_number
  have F_read := fun_mk (st := s_read) l_read c_read k_read
  have b_read := F_read.binds (ps := ["text"]) fun _ _ _ _ _ _ us hl => match us, hl with | [_], _ => rfl
  have m_read := PySem.W.mg_of X G a_read
  have F_part_at := fun_mk (st := s_part_at) l_part_at c_part_at k_part_at
  have b_part_at := F_part_at.binds (ps := ["words", "at", "depth"]) fun _ _ _ _ _ _ us hl => match us, hl with | [_, _, _], _ => rfl
  have m_part_at := PySem.W.mg_of X G a_part_at
  have F_sum_at := fun_mk (st := s_sum_at) l_sum_at c_sum_at k_sum_at
  have b_sum_at := F_sum_at.binds (ps := ["words", "at"]) fun _ _ _ _ _ _ us hl => match us, hl with | [_, _], _ => rfl
  have m_sum_at := PySem.W.mg_of X G a_sum_at
  have F_parts_at := fun_mk (st := s_parts_at) l_parts_at c_parts_at k_parts_at
  have b_parts_at := F_parts_at.binds (ps := ["words", "at", "depth"]) fun _ _ _ _ _ _ us hl => match us, hl with | [_, _, _], _ => rfl
  have m_parts_at := PySem.W.mg_of X G a_parts_at
  have F_l_begun := fun_mk (st := s_l_begun) l_l_begun c_l_begun k_l_begun
  have b_l_begun := F_l_begun.binds (ps := ["_law_script"]) fun _ _ _ _ _ _ us hl => match us, hl with | [_], _ => rfl
  have m_l_begun := PySem.W.mg_of X G a_l_begun
  have F_l_take := fun_mk (st := s_l_take) l_l_take c_l_take k_l_take
  have b_l_take := F_l_take.binds (ps := ["_law_box", "_law_many"]) fun _ _ _ _ _ _ us hl => match us, hl with | [_, _], _ => rfl
  have m_l_take := PySem.W.mg_of X G a_l_take
  have F_l_cell := fun_mk (st := s_l_cell) l_l_cell c_l_cell k_l_cell
  have b_l_cell := F_l_cell.binds (ps := ["_law_box"]) fun _ _ _ _ _ _ us hl => match us, hl with | [_], _ => rfl
  have m_l_cell := PySem.W.mg_of X G a_l_cell
  have F_l_part := fun_mk (st := s_l_part) l_l_part c_l_part k_l_part
  have b_l_part := F_l_part.binds (ps := ["_law_box", "_law_deep_here"]) fun _ _ _ _ _ _ us hl => match us, hl with | [_, _], _ => rfl
  have m_l_part := PySem.W.mg_of X G a_l_part
  have F_l_content := fun_mk (st := s_l_content) l_l_content c_l_content k_l_content
  have b_l_content := F_l_content.binds (ps := ["_law_box", "_law_deep_here"]) fun _ _ _ _ _ _ us hl => match us, hl with | [_, _], _ => rfl
  have m_l_content := PySem.W.mg_of X G a_l_content
  have F_l_part_text := fun_mk (st := s_l_part_text) l_l_part_text c_l_part_text k_l_part_text
  have b_l_part_text := F_l_part_text.binds (ps := ["_law_part_here"]) fun _ _ _ _ _ _ us hl => match us, hl with | [_], _ => rfl
  have m_l_part_text := PySem.W.mg_of X G a_l_part_text
  have F_l_text := fun_mk (st := s_l_text) l_l_text c_l_text k_l_text
  have b_l_text := F_l_text.binds (ps := ["_law_content_here"]) fun _ _ _ _ _ _ us hl => match us, hl with | [_], _ => rfl
  have m_l_text := PySem.W.mg_of X G a_l_text
  have F_l_deep := fun_mk (st := s_l_deep) l_l_deep c_l_deep k_l_deep
  have b_l_deep := F_l_deep.binds (ps := ["_law_box", "_law_deep_here"]) fun _ _ _ _ _ _ us hl => match us, hl with | [_, _], _ => rfl
  have m_l_deep := PySem.W.mg_of X G a_l_deep
  have F_l_text_of := fun_mk (st := s_l_text_of) l_l_text_of c_l_text_of k_l_text_of
  have b_l_text_of := F_l_text_of.binds (ps := ["_law_box"]) fun _ _ _ _ _ _ us hl => match us, hl with | [_], _ => rfl
  have m_l_text_of := PySem.W.mg_of X G a_l_text_of
  have F_l_good_cell := fun_mk (st := s_l_good_cell) l_l_good_cell c_l_good_cell k_l_good_cell
  have b_l_good_cell := F_l_good_cell.binds (ps := ["_law_cell_here"]) fun _ _ _ _ _ _ us hl => match us, hl with | [_], _ => rfl
  have m_l_good_cell := PySem.W.mg_of X G a_l_good_cell
  have F_l_good := fun_mk (st := s_l_good) l_l_good c_l_good k_l_good
  have b_l_good := F_l_good.binds (ps := ["_law_part_here", "_law_deep_here"]) fun _ _ _ _ _ _ us hl => match us, hl with | [_, _], _ => rfl
  have m_l_good := PySem.W.mg_of X G a_l_good
  have F_law := fun_mk (st := s_law) l_law c_law k_law
  have b_law := F_law.binds (ps := ["_law_script"]) fun _ _ _ _ _ _ us hl => match us, hl with | [_], _ => rfl
  have g_COLUMNS : GStr mg "COLUMNS" "abcdef" := ⟨_, PySem.W.mg_of X G a_COLUMNS⟩
  have g_ROWS : GStr mg "ROWS" "123456789" := ⟨_, PySem.W.mg_of X G a_ROWS⟩
  have g_DEEPEST : GInt mg "DEEPEST" 5 := ⟨_, PySem.W.mg_of X G a_DEEPEST⟩
  have g_FIGURES : GInt mg "FIGURES" 6 := ⟨_, PySem.W.mg_of X G a_FIGURES⟩
  have e_TableError : ExcF K mg "TableError" X_TableError := ⟨PySem.W.mg_of X G a_TableError, k_TableError, x_TableError, b_TableError, t_TableError⟩
  have e_NoCell : ExcF K mg "NoCell" X_NoCell := ⟨PySem.W.mg_of X G a_NoCell, k_NoCell, x_NoCell, b_NoCell, t_NoCell⟩
  have e_BadFormula : ExcF K mg "BadFormula" X_BadFormula := ⟨PySem.W.mg_of X G a_BadFormula, k_BadFormula, x_BadFormula, b_BadFormula, t_BadFormula⟩
  have m_TableError : ExcM K X_TableError := ⟨hd_TableError, hs_TableError, hr_TableError⟩
  have m_NoCell : ExcM K X_NoCell := ⟨hd_NoCell, hs_NoCell, hr_NoCell⟩
  have m_BadFormula : ExcM K X_BadFormula := ⟨hd_BadFormula, hs_BadFormula, hr_BadFormula⟩
  have c_BadFormula : ExcC K X_BadFormula := ⟨ca_BadFormula, cb_BadFormula, b_BadFormula, hd_BadFormula, cc_BadFormula, ce_BadFormula, cf_BadFormula, cg_BadFormula⟩
  have g_PARTS := PySem.W.mg_of X G a_PARTS
  have B : Bt mg := ⟨PySem.W.mg_none_of X G z_len, PySem.W.mg_none_of X G z_range, PySem.W.mg_none_of X G z_int, PySem.W.mg_none_of X G z_str, PySem.W.mg_none_of X G z_bool, PySem.W.mg_none_of X G z_list, PySem.W.mg_none_of X G z_tuple, PySem.W.mg_none_of X G z_dict, PySem.W.mg_none_of X G z_sorted, PySem.W.mg_none_of X G z_isinstance, PySem.W.mg_none_of X G z_min, PySem.W.mg_none_of X G z_max, PySem.W.mg_none_of X G z_ValueError, PySem.W.mg_none_of X G z_abs⟩
  refine ⟨PySem.W.fnOf "law" "law" (defArgs s_law) (defBody s_law) (defScope s_law) .none kV_law dc_law pm_law an_law cd_law ct_law, fun s v => .of_eq rfl, fun base _ _ => ?_⟩

  have PF := partsF_mk (w := w) l_PARTS y_PARTS w_PARTS q_PARTS v_PARTS_0 v_PARTS_1 v_PARTS_2 v_PARTS_3
  have C_l_begun : Cal l.prog w K mg base 1 "_law_begun" ["_law_script"] (spBegun K) := ⟨_, _, ok_lbegun F_l_begun B, m_l_begun, F_l_begun.kp, b_l_begun⟩
  have C_l_take : Cal l.prog w K mg base 1 "_law_take" ["_law_box", "_law_many"] spTake := ⟨_, _, ok_ltake F_l_take B, m_l_take, F_l_take.kp, b_l_take⟩
  have C_l_cell : Cal l.prog w K mg base 2 "_law_cell" ["_law_box"] spCell := ⟨_, _, ok_lcell F_l_cell C_l_take, m_l_cell, F_l_cell.kp, b_l_cell⟩
  have C_l_part := cal_lpart (P := l.prog) (w := w) (base := base) F_l_part C_l_take C_l_cell m_l_part b_l_part 5
  have C_l_content : Cal l.prog w K mg base 8 "_law_content" ["_law_box", "_law_deep_here"] (spContent K 5) := ⟨_, _, ok_lcontent F_l_content C_l_take C_l_part, m_l_content, F_l_content.kp, b_l_content⟩
  have C_l_pt := cal_lpart_text (P := l.prog) (w := w) (base := base) F_l_part_text B m_l_part_text b_l_part_text 8
  have C_l_text : Cal l.prog w K mg base 9 "_law_text" ["_law_content_here"] (spText K) := ⟨_, _, ok_ltext F_l_text B C_l_pt, m_l_text, F_l_text.kp, b_l_text⟩
  have C_l_deep := cal_ldeep (P := l.prog) (w := w) (base := base) F_l_deep C_l_take m_l_deep b_l_deep 7
  have C_l_text_of : Cal l.prog w K mg base 10 "_law_text_of" ["_law_box"] spTextOf := ⟨_, _, ok_ltext_of F_l_text_of B C_l_take C_l_deep C_l_content C_l_text, m_l_text_of, F_l_text_of.kp, b_l_text_of⟩
  have C_l_good_cell : Cal l.prog w K mg base 1 "_law_good_cell" ["_law_cell_here"] spGoodCell := ⟨_, _, ok_lgood_cell F_l_good_cell B, m_l_good_cell, F_l_good_cell.kp, b_l_good_cell⟩
  have C_l_good := cal_lgood (P := l.prog) (w := w) (base := base) F_l_good B C_l_good_cell m_l_good b_l_good 6
  have C_is_cell : Cal l.prog w K mg base 1 "is_cell" ["text"] spIsCell := ⟨_, _, ok_is_cell F_is_cell B g_COLUMNS g_ROWS, m_is_cell, F_is_cell.kp, b_is_cell⟩
  have C_is_number : Cal l.prog w K mg base 1 "is_number" ["text"] spIsNum := ⟨_, _, ok_is_number F_is_number B g_FIGURES, m_is_number, F_is_number.kp, b_is_number⟩
  have C_sum_at : CalX l.prog w K mg base 2 "sum_at" ["words", "at"] (spSumAt K X_BadFormula) := ⟨_, _, ok_sum_at F_sum_at B e_BadFormula C_is_cell, m_sum_at, F_sum_at.kp, b_sum_at⟩
  have C_part_at := cal_part_at (P := l.prog) (w := w) (base := base) F_part_at F_parts_at B e_BadFormula g_DEEPEST g_PARTS PF C_is_number C_is_cell C_sum_at m_part_at b_part_at m_parts_at b_parts_at 5
  have C_read : CalX l.prog w K mg base 14 "read" ["text"] (spRead K X_BadFormula) := ⟨_, _, ok_read F_read B e_BadFormula C_is_number C_part_at, m_read, F_read.kp, b_read⟩
  exact ok_law F_law B e_TableError e_BadFormula e_NoCell c_BadFormula (exm_sub e_TableError m_TableError u_BadFormula_TableError) (kit_sub e_BadFormula m_BadFormula m_BadFormula hr_BadFormula) (kit_val cv_BadFormula) (kit_sub e_NoCell m_NoCell m_BadFormula u_BadFormula_NoCell)
    C_l_begun C_l_text_of C_l_text C_l_good C_read
theorem walk {l : PySem.W.OpenLaw} {q : Program} {loose : List Str} {XP : (Str → Option Value) → Heap → Prop} {YP : World → Heap → Prop} {d : DefRec} {K : Params → PySem.W.Frag} (hn : l.most = some 63) (hdf : d.params.defaults = [])
    (hY : ∀ (w : World) (h : Heap), YP w h → (K w.params).In h)
    (F : ∀ (w : World) (mg : Str → Option Value) (fa : Addr) (h : Heap), (K w.params).In h → h.Ns mainGlobals mg → mg d.name = some (.ref fa) →
      ∃ fd : FuncData, (∀ (s : Shared) (u : Value), BindsTo s fd ⟨[u], []⟩ [("_law_script", u)]) ∧ ∀ base : Heap, (K w.params).In base → base.Ns mainGlobals mg → FnOk l.prog w (K w.params) mg base CX0 15 fa fd ["_law_script"] (spLaw (K w.params))) :
    PySem.W.WalkO q loose XP YP l.row.toRowW d [] (fun f vs => PySem.call f vs) :=
  L2.walk_of (n := 63) (k := 15) (x := "_law_script") (CX := fun _ => CX0) (sp := fun w => spLaw (K w.params)) hn (by decide) hdf ⟨rfl, by decide, by decide⟩ hY F (fun _ _ a ns hl _ hS => ⟨a, ns, rfl, hS, hl, fun _ => rfl⟩) fun _ _ _ _ _ z => z
end U
open PySem PySem.W PyProof.Rows
theorem PySem.Challenge.cw_undotable_k03_whole_contents_read_holds : PySem.Challenge.rw_undotable_k03_whole_contents_read.Holds := by
  w_on; o_law; k_head; (case hw => w_witness2)
  k_fill
  refine U.walk (l := PySem.Challenge.rw_undotable_k03_whole_contents_read) rfl rfl (fun w h Y => PySem.W.kIn_of Y) ?F
  case F =>
    intro w mg fa h KX G hmg
    refine' U.all_mk KX G hmg ?a_is_cell ?l_is_cell ?c_is_cell ?k_is_cell ?a_is_number ?l_is_number ?c_is_number ?k_is_number ?a_read ?l_read ?c_read ?k_read ?a_part_at ?l_part_at ?c_part_at ?k_part_at ?a_sum_at ?l_sum_at ?c_sum_at ?k_sum_at ?a_parts_at ?l_parts_at ?c_parts_at ?k_parts_at ?a_l_begun ?l_l_begun ?c_l_begun ?k_l_begun ?a_l_take ?l_l_take ?c_l_take ?k_l_take ?a_l_cell ?l_l_cell ?c_l_cell ?k_l_cell ?a_l_part ?l_l_part ?c_l_part ?k_l_part ?a_l_content ?l_l_content ?c_l_content ?k_l_content ?a_l_part_text ?l_l_part_text ?c_l_part_text ?k_l_part_text ?a_l_text ?l_l_text ?c_l_text ?k_l_text ?a_l_deep ?l_l_deep ?c_l_deep ?k_l_deep ?a_l_text_of ?l_l_text_of ?c_l_text_of ?k_l_text_of ?a_l_good_cell ?l_l_good_cell ?c_l_good_cell ?k_l_good_cell ?a_l_good ?l_l_good ?c_l_good ?k_l_good ?a_law ?l_law ?c_law ?k_law ?a_COLUMNS ?a_ROWS ?a_DEEPEST ?a_FIGURES ?a_TableError ?k_TableError ?x_TableError ?b_TableError ?t_TableError ?a_NoCell ?k_NoCell ?x_NoCell ?b_NoCell ?t_NoCell ?a_BadFormula ?k_BadFormula ?x_BadFormula ?b_BadFormula ?t_BadFormula ?hd_TableError ?hs_TableError ?hr_TableError ?hd_NoCell ?hs_NoCell ?hr_NoCell ?hd_BadFormula ?hs_BadFormula ?hr_BadFormula ?ca_BadFormula ?cb_BadFormula ?cc_BadFormula ?ce_BadFormula ?cf_BadFormula ?cg_BadFormula ?cv_BadFormula ?u_BadFormula_TableError ?u_BadFormula_NoCell ?a_PARTS ?l_PARTS ?y_PARTS ?w_PARTS ?q_PARTS ?v_PARTS_0 ?v_PARTS_1 ?v_PARTS_2 ?v_PARTS_3 ?z_len ?z_range ?z_int ?z_str ?z_bool ?z_list ?z_tuple ?z_dict ?z_sorted ?z_isinstance ?z_min ?z_max ?z_ValueError ?z_abs
    (case a_is_cell => k_is)
    (case l_is_cell => k_is)
    (case c_is_cell => k_is)
    (case k_is_cell => k_is)
    (case a_is_number => k_is)
    (case l_is_number => k_is)
    (case c_is_number => k_is)
    (case k_is_number => k_is)
    (case a_read => k_is)
    (case l_read => k_is)
    (case c_read => k_is)
    (case k_read => k_is)
    (case a_part_at => k_is)
    (case l_part_at => k_is)
    (case c_part_at => k_is)
    (case k_part_at => k_is)
    (case a_sum_at => k_is)
    (case l_sum_at => k_is)
    (case c_sum_at => k_is)
    (case k_sum_at => k_is)
    (case a_parts_at => k_is)
    (case l_parts_at => k_is)
    (case c_parts_at => k_is)
    (case k_parts_at => k_is)
    (case a_l_begun => k_is)
    (case l_l_begun => k_is)
    (case c_l_begun => k_is)
    (case k_l_begun => k_is)
    (case a_l_take => k_is)
    (case l_l_take => k_is)
    (case c_l_take => k_is)
    (case k_l_take => k_is)
    (case a_l_cell => k_is)
    (case l_l_cell => k_is)
    (case c_l_cell => k_is)
    (case k_l_cell => k_is)
    (case a_l_part => k_is)
    (case l_l_part => k_is)
    (case c_l_part => k_is)
    (case k_l_part => k_is)
    (case a_l_content => k_is)
    (case l_l_content => k_is)
    (case c_l_content => k_is)
    (case k_l_content => k_is)
    (case a_l_part_text => k_is)
    (case l_l_part_text => k_is)
    (case c_l_part_text => k_is)
    (case k_l_part_text => k_is)
    (case a_l_text => k_is)
    (case l_l_text => k_is)
    (case c_l_text => k_is)
    (case k_l_text => k_is)
    (case a_l_deep => k_is)
    (case l_l_deep => k_is)
    (case c_l_deep => k_is)
    (case k_l_deep => k_is)
    (case a_l_text_of => k_is)
    (case l_l_text_of => k_is)
    (case c_l_text_of => k_is)
    (case k_l_text_of => k_is)
    (case a_l_good_cell => k_is)
    (case l_l_good_cell => k_is)
    (case c_l_good_cell => k_is)
    (case k_l_good_cell => k_is)
    (case a_l_good => k_is)
    (case l_l_good => k_is)
    (case c_l_good => k_is)
    (case k_l_good => k_is)
    (case a_law => k_is)
    (case l_law => k_is)
    (case c_law => k_is)
    (case k_law => k_is)
    (case a_COLUMNS => k_is)
    (case a_ROWS => k_is)
    (case a_DEEPEST => k_is)
    (case a_FIGURES => k_is)
    (case a_TableError => k_is)
    (case k_TableError => k_is)
    (case x_TableError => k_exc)
    (case b_TableError => k_is)
    (case t_TableError => k_is)
    (case a_NoCell => k_is)
    (case k_NoCell => k_is)
    (case x_NoCell => k_exc)
    (case b_NoCell => k_is)
    (case t_NoCell => k_is)
    (case a_BadFormula => k_is)
    (case k_BadFormula => k_is)
    (case x_BadFormula => k_exc)
    (case b_BadFormula => k_is)
    (case t_BadFormula => k_is)
    (case hd_TableError => k_is)
    (case hs_TableError => k_is)
    (case hr_TableError => k_is)
    (case hd_NoCell => k_is)
    (case hs_NoCell => k_is)
    (case hr_NoCell => k_is)
    (case hd_BadFormula => k_is)
    (case hs_BadFormula => k_is)
    (case hr_BadFormula => k_is)
    (case ca_BadFormula => k_is)
    (case cb_BadFormula => k_is)
    (case cc_BadFormula => k_is)
    (case ce_BadFormula => k_is)
    (case cf_BadFormula => k_is)
    (case cg_BadFormula => k_is)
    (case cv_BadFormula => k_is)
    (case u_BadFormula_TableError => k_is)
    (case u_BadFormula_NoCell => k_is)
    (case a_PARTS => k_is)
    (case l_PARTS => k_is)
    (case y_PARTS => k_keys)
    (case w_PARTS => (first | k_is | decide | rfl))
    (case q_PARTS => (first | rfl | decide +kernel))
    (case v_PARTS_0 => k_is)
    (case v_PARTS_1 => k_is)
    (case v_PARTS_2 => k_is)
    (case v_PARTS_3 => k_is)
    (case z_len => k_is)
    (case z_range => k_is)
    (case z_int => k_is)
    (case z_str => k_is)
    (case z_bool => k_is)
    (case z_list => k_is)
    (case z_tuple => k_is)
    (case z_dict => k_is)
    (case z_sorted => k_is)
    (case z_isinstance => k_is)
    (case z_min => k_is)
    (case z_max => k_is)
    (case z_ValueError => k_is)
    (case z_abs => k_is)
#print axioms PySem.Challenge.cw_undotable_k03_whole_contents_read_holds

