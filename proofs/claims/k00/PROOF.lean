import PyProof.Rows.All
import Wide.All
import OpenK.AllK
import Wide.FinOn
import HandS.ForMost
import HandS.IsInst
import HandS.TupAny
import HandS.Flow
import PySem.Challenge.RW_blameless_k00_operators_on_words
set_option Elab.async false
set_option linter.all false
set_option maxRecDepth 100000
set_option maxHeartbeats 4000000
/-! G: rules by kind of value, and the steps of a reading (own work). -/
namespace G
open PySem PySem.Spec PyProof.Rows L2

/-! ### operators by kind -/
section
variable {X : Cx}
def gAddS : R2 := fun x y H Q => ∃ i j, x = .str i ∧ y = .str j ∧ i.length + j.length ≤ sizeLine ∧ Q (.str (i ++ j)) H
def gAdd (K : PySem.W.Frag) : R2 := fun x y H Q => rI0 (fun i j => .int (i + j)) x y H Q ∨ gAddS x y H Q ∨ rCat x y H Q ∨ rCatA K x y H Q
theorem g_add : OpR X (binaryOp .Add) (gAdd X.K) := op_add.or (op_add_str.or (op_cat.or op_catA))
def gSubI : R2 := rI0 fun i j => .int (i - j)
theorem g_sub : OpR X (binaryOp .Sub) gSubI := op_sub
def gMul : R2 := rI CMul fun i j => .int (i * j)
theorem g_mul : OpR X (binaryOp .Mult) gMul := op_mul
def gDiv : R2 := rI CDiv fun i j => .int (i / j)
theorem g_div : OpR X (binaryOp .FloorDiv) gDiv := op_fdiv
def gMod : R2 := rI (fun _ j => 0 < j) fun i j => .int (i % j)
theorem g_mod : OpR X (binaryOp .Mod) gMod := op_mod
def gPow : R2 := rI CPow fun i j => .int (i ^ j.toNat)
theorem g_pow : OpR X (binaryOp .Pow) gPow := op_pow
def gLtS : R2 := fun x y H Q => ∃ i j, x = .str i ∧ y = .str j ∧ Q (.bl (decide (i.cps.toList < j.cps.toList))) H
def gLt : R2 := fun x y H Q => rI0 (fun i j => .bl (decide (i < j))) x y H Q ∨ gLtS x y H Q
theorem g_lt : OpR X (compareOp .Lt) gLt := op_lt.or op_lt_str
def gLeS : R2 := fun x y H Q => ∃ i j, x = .str i ∧ y = .str j ∧ Q (.bl (!decide (j.cps.toList < i.cps.toList))) H
def gLe : R2 := fun x y H Q => rI0 (fun i j => .bl (decide (i ≤ j))) x y H Q ∨ gLeS x y H Q
theorem g_le : OpR X (compareOp .LtE) gLe := op_le.or op_le_str
def gGt : R2 := rI0 fun i j => .bl (decide (j < i))
theorem g_gt : OpR X (compareOp .Gt) gGt := op_gt
def gGe : R2 := rI0 fun i j => .bl (decide (j ≤ i))
theorem g_ge : OpR X (compareOp .GtE) gGe := op_ge
theorem g_eq : OpR X (compareOp .Eq) rEq := op_eq
theorem g_ne : OpR X (compareOp .NotEq) rNe := op_ne
def gIs : R2 := fun x y H Q => y = .non ∧ Q (.bl (decide (x = .non))) H
theorem g_is : OpR X (compareOp .Is) gIs := op_isN
def gIsNot : R2 := fun x y H Q => y = .non ∧ Q (.bl (!decide (x = .non))) H
theorem g_isnot : OpR X (compareOp .IsNot) gIsNot := op_notN
theorem g_ix : IxR X (rIx X.K) := ix_seq
/-! calls -/
def gLen (K : PySem.W.Frag) : List V → Hp → VK → Prop := fun xs H Q => ∃ x n, xs = [x] ∧ LenV K x H n ∧ Q (.int (n : Nat)) H
theorem g_len : CallR X (.builtin "len") (gLen X.K) := call_len
def gIntN : List V → Hp → VK → Prop := fun xs H Q => (∃ i, xs = [.int i] ∧ Q (.int i) H) ∨ ∃ k, xs = [.bl k] ∧ Q (.int (if k then 1 else 0)) H
def gIntS : List V → Hp → VK → Prop := fun xs H Q => ∃ a n, xs = [.str a] ∧ PySem.intText? a = some n ∧ a.length ≤ 640 ∧ Q (.int n) H
def gInt : List V → Hp → VK → Prop := fun xs H Q => gIntN xs H Q ∨ gIntS xs H Q
theorem g_int : CallR X (.type "int") gInt := call_int1.or call_int_str
def gStr : List V → Hp → VK → Prop := fun xs H Q => ∃ i : Int, xs = [.int i] ∧ i.natAbs.log2 < 1920 ∧ Q (.str (toString i)) H
theorem g_str : CallR X (.type "str") gStr := call_str_int
def gMin : List V → Hp → VK → Prop := fun xs H Q => ∃ i j, xs = [.int i, .int j] ∧ Q (.int (if j < i then j else i)) H
theorem g_min (hc : X.calm = true) : CallR X (.builtin "min") gMin := call_min2 hc
def gList (K : PySem.W.Frag) : List V → Hp → VK → Prop := fun xs H Q => ∃ p ys, xs = [.ref p] ∧ (SqL K H p ys ∨ SqT K H p ys) ∧ ∀ l, H l = none → Q (.ref l) (upd H l (.lst ys))
theorem g_list : CallR X (.type "list") (gList X.K) := call_list_of
def gTup (K : PySem.W.Frag) : List V → Hp → VK → Prop := fun xs H Q => ∃ a ys, xs = [.ref a] ∧ ((SqL K H a ys ∧ ∀ l, H l = none → Q (.ref l) (upd H l (.tup ys))) ∨ (SqT K H a ys ∧ Q (.ref a) H))
theorem g_tup : CallR X (.type "tuple") (gTup X.K) := call_tuple_of
def gOrd : List V → Hp → VK → Prop := fun xs H Q => ∃ x : Str, xs = [.str x] ∧ x.length = 1 ∧ Q (.int (x.cps.getD 0 0 : Nat)) H
theorem g_ord : CallR X (.builtin "ord") gOrd := call_ord
def gIsi (K : PySem.W.Frag) : List V → Hp → VK → Prop := fun xs H Q => rIsi K xs H Q ∨ rIsiT K xs H Q
theorem g_isi : CallR X (.builtin "isinstance") (gIsi X.K) := call_isi.or call_isiT
end

/-! ### a cut behind a statement: a word of the slots and the heap -/
def tCut (t u : TS) : TS := fun D σ H => ∃ W : L2.St → Hp → Prop, t { D with nx := W } σ H ∧ ∀ σ' H', W σ' H' → u D σ' H'
theorem pss_cut {X : Cx} {st : Stmt} {rest : List Stmt} {t u : TS} (h1 : PS X st t) (h2 : PSs X rest u) : PSs X (st :: rest) (tCut t u) := by
  constructor
  intro pins s σ H D I ⟨W, a, b⟩
  apply wpAny_execs_cons
  apply thn (h1.run pins s σ H _ I a)
  intro f s1 q
  cases f with
  | next =>
    obtain ⟨σ', H', I', q⟩ := q
    exact h2.run pins s1 σ' H' D I' (b σ' H' q)
  | ret v => exact q
  | brk => exact q
  | cont => exact q

theorem kit_N_tuple : kitB "NoneType" "tuple" = some false := by decide +kernel
theorem kit_N_list : kitB "NoneType" "list" = some false := by decide +kernel
theorem kit_N_bool : kitB "NoneType" "bool" = some false := by decide +kernel
theorem kit_N_int : kitB "NoneType" "int" = some false := by decide +kernel
theorem kit_N_str : kitB "NoneType" "str" = some false := by decide +kernel
theorem kit_B_tuple : kitB "bool" "tuple" = some false := by decide +kernel
theorem kit_B_list : kitB "bool" "list" = some false := by decide +kernel
theorem kit_B_bool : kitB "bool" "bool" = some true := by decide +kernel
theorem kit_B_int : kitB "bool" "int" = some true := by decide +kernel
theorem kit_B_str : kitB "bool" "str" = some false := by decide +kernel
theorem kit_I_tuple : kitB "int" "tuple" = some false := by decide +kernel
theorem kit_I_list : kitB "int" "list" = some false := by decide +kernel
theorem kit_I_bool : kitB "int" "bool" = some false := by decide +kernel
theorem kit_I_int : kitB "int" "int" = some true := by decide +kernel
theorem kit_I_str : kitB "int" "str" = some false := by decide +kernel
theorem kit_S_tuple : kitB "str" "tuple" = some false := by decide +kernel
theorem kit_S_list : kitB "str" "list" = some false := by decide +kernel
theorem kit_S_bool : kitB "str" "bool" = some false := by decide +kernel
theorem kit_S_int : kitB "str" "int" = some false := by decide +kernel
theorem kit_S_str : kitB "str" "str" = some true := by decide +kernel
theorem kit_L_tuple : kitB "list" "tuple" = some false := by decide +kernel
theorem kit_L_list : kitB "list" "list" = some true := by decide +kernel
theorem kit_L_bool : kitB "list" "bool" = some false := by decide +kernel
theorem kit_L_int : kitB "list" "int" = some false := by decide +kernel
theorem kit_L_str : kitB "list" "str" = some false := by decide +kernel
theorem kit_T_tuple : kitB "tuple" "tuple" = some true := by decide +kernel
theorem kit_T_list : kitB "tuple" "list" = some false := by decide +kernel
theorem kit_T_bool : kitB "tuple" "bool" = some false := by decide +kernel
theorem kit_T_int : kitB "tuple" "int" = some false := by decide +kernel
theorem kit_T_str : kitB "tuple" "str" = some false := by decide +kernel

/-! ### steps of a reading -/
section
variable {K : PySem.W.Frag} {σ σ' : L2.St} {H : Hp} {Q : VK} {D : Ends} {ta tb tc te : TE} {t u : TT} {ts tu tw : TS} {x y v w : V} {i j : Int} {p q : Addr} {xs : List V} {r r' : R2} {b : Bool} {g : TG} {tr : TA}
theorem r_seq (h : tu { D with nx := tw D } σ H) : tSeq tu tw D σ H := h
theorem r_cut0 (h : tu { D with nx := tw D } σ H) : tCut tu tw D σ H := ⟨tw D, h, fun _ _ q => q⟩
theorem r_cut (W : L2.St → Hp → Prop) (h : tu { D with nx := W } σ H) (k : ∀ σ' H', W σ' H' → tw D σ' H') : tCut tu tw D σ H := ⟨W, h, k⟩
theorem r_nx (h : D.nx σ H) : tNext D σ H := h
theorem r_asg (h : te σ H fun x H1 => g x σ H1 D.nx) : tAsg te g D σ H := h
theorem r_drop (h : te σ H fun _ H1 => D.nx σ H1) : tDrop te D σ H := h
theorem r_ret (h : te σ H D.rt) : tRet te D σ H := h
theorem r_for {wi : TI} (h : wi σ H fun J H1 => ∃ W : Nat → Nat → L2.St → Hp → Prop, (∃ m, W 0 m σ H1) ∧ ∀ i m σ H, W i m σ H →
      (J.stop i H ∧ D.nx σ H) ∨ (J.go i H ∧ ∃ N : L2.St → Hp → Prop, (∀ σ' H', N σ' H' → ∃ m', m' < m ∧ W (i + 1) m' σ' H') ∧ ∀ x H', J.yld i H x H' → g x σ H' fun σ2 H2 => tu { D with nx := N, ct := N, bk := D.nx } σ2 H2)) : tFor wi g tu D σ H := h
theorem r_iRng1 {R : It → Hp → Prop} (h : tr σ H fun vs H1 => ∃ j : Int, vs = [.int j] ∧ -(2 ^ 62) ≤ j ∧ j < 2 ^ 62 ∧ R (Itr 0 j.toNat) H1) : iRng1 tr σ H R := h
theorem r_iRng2 {R : It → Hp → Prop} (h : tr σ H fun vs H1 => ∃ i j : Int, vs = [.int i, .int j] ∧ (-(2 ^ 62) ≤ i ∧ i < 2 ^ 62 ∧ -(2 ^ 62) ≤ j ∧ j < 2 ^ 62) ∧ R (Itr i (j - i).toNat) H1) : iRng2 tr σ H R := h
theorem r_iTup {R : It → Hp → Prop} (h : te σ H fun x H1 => ∃ a, x = .ref a ∧ (∃ xs, SqT K H1 a xs) ∧ R (Itt K a) H1) : iTup K te σ H R := h
/-- for i in range(n): a word of the turn, the slots and the heap -/
theorem l_range {n : Int} {σ : L2.St} {H : Hp} (h0 : 0 ≤ n) (h1 : n < 2 ^ 62) (W : Nat → L2.St → Hp → Prop) (w0 : W 0 σ H)
    (ws : ∀ (i : Nat) σ' H', (i : Int) < n → W i σ' H' → g (.int (i : Int)) σ' H' fun σ2 H2 => tu { D with nx := W (i + 1), ct := W (i + 1), bk := D.nx } σ2 H2) (wd : ∀ σ' H', W n.toNat σ' H' → D.nx σ' H') :
    ∃ j : Int, [V.int n] = [.int j] ∧ -(2 ^ 62) ≤ j ∧ j < 2 ^ 62 ∧ ∃ W : Nat → Nat → L2.St → Hp → Prop, (∃ m, W 0 m σ H) ∧ ∀ i m σ H, W i m σ H →
      ((Itr 0 j.toNat).stop i H ∧ D.nx σ H) ∨ ((Itr 0 j.toNat).go i H ∧ ∃ N : L2.St → Hp → Prop, (∀ σ' H', N σ' H' → ∃ m', m' < m ∧ W (i + 1) m' σ' H') ∧ ∀ x H', (Itr 0 j.toNat).yld i H x H' → g x σ H' fun σ2 H2 => tu { D with nx := N, ct := N, bk := D.nx } σ2 H2) := by
  refine ⟨n, rfl, by omega, h1, for_range (lo := 0) (n := n.toNat) W w0 (fun i σ' H' hi q => ?_) wd⟩
  rw [Int.zero_add]
  exact ws i σ' H' (by omega) q
/-- for x in t (a tuple), in l (a list): a word of the turn, the slots and the heap; hl: it stands still -/
theorem l_tup {σ : L2.St} {H : Hp} (h : SqT K H p xs) (W : Nat → L2.St → Hp → Prop) (w0 : W 0 σ H) (hl : ∀ i σ H, W i σ H → SqT K H p xs)
    (ws : ∀ (i : Nat) x σ' H', xs[i]? = some x → W i σ' H' → g x σ' H' fun σ2 H2 => tu { D with nx := W (i + 1), ct := W (i + 1), bk := D.nx } σ2 H2) (wd : ∀ σ' H', W xs.length σ' H' → D.nx σ' H') :
    ∃ a, V.ref p = .ref a ∧ (∃ xs, SqT K H a xs) ∧ ∃ W : Nat → Nat → L2.St → Hp → Prop, (∃ m, W 0 m σ H) ∧ ∀ i m σ H, W i m σ H →
      ((Itt K a).stop i H ∧ D.nx σ H) ∨ ((Itt K a).go i H ∧ ∃ N : L2.St → Hp → Prop, (∀ σ' H', N σ' H' → ∃ m', m' < m ∧ W (i + 1) m' σ' H') ∧ ∀ x H', (Itt K a).yld i H x H' → g x σ H' fun σ2 H2 => tu { D with nx := N, ct := N, bk := D.nx } σ2 H2) :=
  ⟨p, rfl, ⟨xs, h⟩, for_tup (xs := xs) W w0 (fun i σ H _ => hl i σ H) ws wd⟩
theorem l_list {σ : L2.St} {H : Hp} (h : SqL K H p xs) (W : Nat → L2.St → Hp → Prop) (w0 : W 0 σ H) (hl : ∀ i σ H, W i σ H → SqL K H p xs)
    (ws : ∀ (i : Nat) x σ' H', xs[i]? = some x → W i σ' H' → g x σ' H' fun σ2 H2 => tu { D with nx := W (i + 1), ct := W (i + 1), bk := D.nx } σ2 H2) (wd : ∀ σ' H', W xs.length σ' H' → D.nx σ' H') :
    ∃ a, V.ref p = .ref a ∧ (∃ xs, SqL K H a xs) ∧ ∃ W : Nat → Nat → L2.St → Hp → Prop, (∃ m, W 0 m σ H) ∧ ∀ i m σ H, W i m σ H →
      ((Itl K a).stop i H ∧ D.nx σ H) ∨ ((Itl K a).go i H ∧ ∃ N : L2.St → Hp → Prop, (∀ σ' H', N σ' H' → ∃ m', m' < m ∧ W (i + 1) m' σ' H') ∧ ∀ x H', (Itl K a).yld i H x H' → g x σ H' fun σ2 H2 => tu { D with nx := N, ct := N, bk := D.nx } σ2 H2) :=
  ⟨p, rfl, ⟨xs, h⟩, for_list (xs := xs) W w0 (fun i σ H _ => hl i σ H) ws wd⟩
theorem r_retN (h : D.rt .non H) : tRetN D σ H := h
theorem r_ifS (h : t σ H fun b H1 => if b = true then tu D σ H1 else tw D σ H1) : tIfS t tu tw D σ H := h
theorem r_var {i : Nat} (h : σ[i]? = some (some v)) (k : Q v H) : tVar i σ H Q := ⟨v, h, k⟩
theorem r_c (k : Q v H) : tC v σ H Q := k
theorem r_op (h : ta σ H fun x H1 => tb σ H1 fun y H2 => r x y H2 Q) : tOp r ta tb σ H Q := h
theorem r_un {r : V → Hp → VK → Prop} (h : ta σ H fun x H1 => r x H1 Q) : tUn r ta σ H Q := h
theorem r_nil {Q : List V → Hp → Prop} (k : Q [] H) : tNil σ H Q := k
theorem r_cons {Q : List V → Hp → Prop} (h : ta σ H fun x H1 => tr σ H1 fun xs H2 => Q (x :: xs) H2) : tCons ta tr σ H Q := h
theorem r_cb {r : List V → Hp → VK → Prop} (h : tr σ H fun vs H1 => r vs H1 Q) : tCB r tr σ H Q := h
theorem r_call {sp : Sp} {dvs : List V} {E : XK} (h : tr σ H fun vs H1 => sp (vs ++ dvs) H1 Q E) : tCall sp dvs E tr σ H Q := h
theorem r_bm {T : String} {r : V → List V → Hp → VK → Prop} (h : te σ H fun x H1 => tyV K T x H1 ∧ tr σ H1 fun xs H2 => r x xs H2 Q) : tBM K T r te tr σ H Q := h
theorem r_bm0 {T : String} {r : V → List V → Hp → VK → Prop} (h : te σ H fun x H1 => tyV K T x H1 ∧ r x [] H1 Q) : tBM0 K T r te σ H Q := h
theorem r_tup (h : tr σ H fun xs H1 => xs.length ≤ sizeLine ∧ ∀ p, H1 p = none → Q (.ref p) (upd H1 p (.tup xs))) : tTup tr σ H Q := h
theorem r_lst (h : tr σ H fun xs H1 => xs.length ≤ sizeLine ∧ ∀ p, H1 p = none → Q (.ref p) (upd H1 p (.lst xs))) : tLst tr σ H Q := h
theorem r_name {i : Nat} {Q : L2.St → Hp → Prop} (h : Q (σ.set i (some v)) H) : gName i v σ H Q := h
theorem r_sub {s : TSet} {Q : L2.St → Hp → Prop} (h : ta σ H fun o H1 => tb σ H1 fun i H2 => s o i v H2 fun H3 => Q σ H3) : gSub ta tb s v σ H Q := h
theorem r_test {Q : Bool → Hp → Prop} (h : te σ H fun x H1 => ∃ k, x = .bl k ∧ Q k H1) : tTest te σ H Q := h
theorem r_tB {Q : Bool → Hp → Prop} (h : te σ H fun x H1 => ∃ k, x = .bl k ∧ Q k H1) : tB te σ H Q := h
theorem r_exbl {Q : Bool → Hp → Prop} (h : Q b H) : ∃ k, V.bl b = .bl k ∧ Q k H := ⟨b, rfl, h⟩
theorem r_exbl' {P : Bool → Prop} (h : P b) : ∃ k, V.bl b = .bl k ∧ P k := ⟨b, rfl, h⟩
theorem r_and {Q : Bool → Hp → Prop} (h : t σ H fun c H1 => if c = true then u σ H1 Q else Q false H1) : tAnd t u σ H Q := h
theorem r_or {Q : Bool → Hp → Prop} (h : t σ H fun c H1 => if c = true then Q true H1 else u σ H1 Q) : tOr t u σ H Q := h
theorem r_not {Q : Bool → Hp → Prop} (h : t σ H fun c H1 => Q (!c) H1) : tNot t σ H Q := h
theorem r_if (h : t σ H fun c H1 => if c = true then ta σ H1 Q else tb σ H1 Q) : tIf t ta tb σ H Q := h
theorem r_chain (h : ta σ H fun x H1 => tb σ H1 fun y H2 => r x y H2 fun z H3 => ∃ k, z = .bl k ∧ (if k = true then tc σ H3 fun w' H4 => r' y w' H4 Q else Q (.bl false) H3)) : tChain r r' ta tb tc σ H Q := h
theorem r_orT (h : ta σ H fun x H1 => ∃ k, TruV K x H1 k ∧ if k = true then Q x H1 else tb σ H1 Q) : tOrT K ta tb σ H Q := h
theorem r_andT (h : ta σ H fun x H1 => ∃ k, TruV K x H1 k ∧ if k = true then tb σ H1 Q else Q x H1) : tAndT K ta tb σ H Q := h
theorem r_notT (h : ta σ H fun x H1 => ∃ k, TruV K x H1 k ∧ Q (.bl (!k)) H1) : tNotT K ta σ H Q := h
/-! values -/
theorem v_addI (k : Q (.int (i + j)) H) : gAdd K (.int i) (.int j) H Q := .inl ⟨i, j, rfl, rfl, k⟩
theorem v_addS {a b : Str} (h : a.length + b.length ≤ sizeLine) (k : Q (.str (a ++ b)) H) : gAdd K (.str a) (.str b) H Q := .inr (.inl ⟨a, b, rfl, rfl, h, k⟩)
theorem v_addL {xs ys : List V} (h1 : H p = some (.lst xs)) (h2 : H q = some (.lst ys)) (h : xs.length + ys.length ≤ sizeLine) (k : ∀ l, H l = none → Q (.ref l) (upd H l (.lst (xs ++ ys)))) : gAdd K (.ref p) (.ref q) H Q :=
  .inr (.inr (.inl ⟨p, q, xs, ys, rfl, rfl, h1, h2, h, k⟩))
theorem v_sub (k : Q (.int (i - j)) H) : gSubI (.int i) (.int j) H Q := ⟨i, j, rfl, rfl, k⟩
theorem v_mul (h : CMul i j) (k : Q (.int (i * j)) H) : gMul (.int i) (.int j) H Q := ⟨i, j, rfl, rfl, h, k⟩
theorem v_div (h : CDiv i j) (k : Q (.int (i / j)) H) : gDiv (.int i) (.int j) H Q := ⟨i, j, rfl, rfl, h, k⟩
theorem v_mod (h : 0 < j) (k : Q (.int (i % j)) H) : gMod (.int i) (.int j) H Q := ⟨i, j, rfl, rfl, h, k⟩
theorem v_pow (h : CPow i j) (k : Q (.int (i ^ j.toNat)) H) : gPow (.int i) (.int j) H Q := ⟨i, j, rfl, rfl, h, k⟩
theorem v_ltI (k : Q (.bl (decide (i < j))) H) : gLt (.int i) (.int j) H Q := .inl ⟨i, j, rfl, rfl, k⟩
theorem v_leI (k : Q (.bl (decide (i ≤ j))) H) : gLe (.int i) (.int j) H Q := .inl ⟨i, j, rfl, rfl, k⟩
theorem v_ltS {a b : Str} (k : Q (.bl (decide (a.cps.toList < b.cps.toList))) H) : gLt (.str a) (.str b) H Q := .inr ⟨a, b, rfl, rfl, k⟩
theorem v_leS {a b : Str} (k : Q (.bl (!decide (b.cps.toList < a.cps.toList))) H) : gLe (.str a) (.str b) H Q := .inr ⟨a, b, rfl, rfl, k⟩
theorem v_gt (k : Q (.bl (decide (j < i))) H) : gGt (.int i) (.int j) H Q := ⟨i, j, rfl, rfl, k⟩
theorem v_ge (k : Q (.bl (decide (j ≤ i))) H) : gGe (.int i) (.int j) H Q := ⟨i, j, rfl, rfl, k⟩
theorem v_eqI (k : Q (.bl (decide (i = j))) H) : rEq (.int i) (.int j) H Q := ⟨rfl, by
  have e : decide (V.int i = V.int j) = decide (i = j) := by
    by_cases h : i = j
    · subst h; simp
    · rw [decide_eq_false h, decide_eq_false (fun q => h (V.int.inj q))]
  rw [e]; exact k⟩
theorem v_eqS {a b : Str} (k : Q (.bl (decide (a = b))) H) : rEq (.str a) (.str b) H Q := ⟨rfl, by
  have e : decide (V.str a = V.str b) = decide (a = b) := by
    by_cases h : a = b
    · subst h; simp
    · rw [decide_eq_false h, decide_eq_false (fun q => h (V.str.inj q))]
  rw [e]; exact k⟩
theorem v_eqB {a b : Bool} (k : Q (.bl (decide (a = b))) H) : rEq (.bl a) (.bl b) H Q := ⟨rfl, by
  have e : decide (V.bl a = V.bl b) = decide (a = b) := by cases a <;> cases b <;> rfl
  rw [e]; exact k⟩
theorem v_neI (k : Q (.bl (!decide (i = j))) H) : rNe (.int i) (.int j) H Q := ⟨rfl, by
  have e : decide (V.int i = V.int j) = decide (i = j) := by
    by_cases h : i = j
    · subst h; simp
    · rw [decide_eq_false h, decide_eq_false (fun q => h (V.int.inj q))]
  rw [e]; exact k⟩
theorem v_neS {a b : Str} (k : Q (.bl (!decide (a = b))) H) : rNe (.str a) (.str b) H Q := ⟨rfl, by
  have e : decide (V.str a = V.str b) = decide (a = b) := by
    by_cases h : a = b
    · subst h; simp
    · rw [decide_eq_false h, decide_eq_false (fun q => h (V.str.inj q))]
  rw [e]; exact k⟩
theorem v_neB {a b : Bool} (k : Q (.bl (!decide (a = b))) H) : rNe (.bl a) (.bl b) H Q := ⟨rfl, by
  have e : decide (V.bl a = V.bl b) = decide (a = b) := by cases a <;> cases b <;> rfl
  rw [e]; exact k⟩
theorem v_is (k : Q (.bl (decide (x = .non))) H) : gIs x .non H Q := ⟨rfl, k⟩
theorem v_isnot (k : Q (.bl (!decide (x = .non))) H) : gIsNot x .non H Q := ⟨rfl, k⟩
theorem v_isN (k : Q (.bl true) H) : gIs .non .non H Q := ⟨rfl, k⟩
theorem v_isB {c : Bool} (k : Q (.bl false) H) : gIs (.bl c) .non H Q := ⟨rfl, k⟩
theorem v_isI (k : Q (.bl false) H) : gIs (.int i) .non H Q := ⟨rfl, k⟩
theorem v_isS {z : Str} (k : Q (.bl false) H) : gIs (.str z) .non H Q := ⟨rfl, k⟩
theorem v_isR (k : Q (.bl false) H) : gIs (.ref p) .non H Q := ⟨rfl, k⟩
theorem v_isnotN (k : Q (.bl false) H) : gIsNot .non .non H Q := ⟨rfl, k⟩
theorem v_isnotB {c : Bool} (k : Q (.bl true) H) : gIsNot (.bl c) .non H Q := ⟨rfl, k⟩
theorem v_isnotI (k : Q (.bl true) H) : gIsNot (.int i) .non H Q := ⟨rfl, k⟩
theorem v_isnotS {z : Str} (k : Q (.bl true) H) : gIsNot (.str z) .non H Q := ⟨rfl, k⟩
theorem v_isnotR (k : Q (.bl true) H) : gIsNot (.ref p) .non H Q := ⟨rfl, k⟩
theorem v_eqN (k : Q (.bl true) H) : rEq .non .non H Q := ⟨rfl, k⟩
theorem v_neN (k : Q (.bl false) H) : rNe .non .non H Q := ⟨rfl, k⟩
theorem v_lenLs (h : SqL K H p xs) (k : Q (.int (xs.length : Nat)) H) : gLen K [.ref p] H Q := ⟨.ref p, _, rfl, .inl ⟨xs, h, rfl⟩, k⟩
theorem v_lenTs (h : SqT K H p xs) (k : Q (.int (xs.length : Nat)) H) : gLen K [.ref p] H Q := ⟨.ref p, _, rfl, .inr ⟨xs, h, rfl⟩, k⟩
theorem v_ixLs (h : SqL K H p xs) (e : atI xs i = some v) (k : Q v H) : rIx K (.ref p) (.int i) H Q := .inl ⟨p, xs, i, v, rfl, rfl, h, e, k⟩
theorem v_ixTs (h : SqT K H p xs) (e : atI xs i = some v) (k : Q v H) : rIx K (.ref p) (.int i) H Q := .inr (.inl ⟨p, xs, i, v, rfl, rfl, h, e, k⟩)
theorem v_ixL (h : H p = some (.lst xs)) (e : atI xs i = some v) (k : Q v H) : rIx K (.ref p) (.int i) H Q := .inl ⟨p, xs, i, v, rfl, rfl, SqL.of h, e, k⟩
theorem v_ixT (h : H p = some (.tup xs)) (e : atI xs i = some v) (k : Q v H) : rIx K (.ref p) (.int i) H Q := .inr (.inl ⟨p, xs, i, v, rfl, rfl, SqT.of h, e, k⟩)
theorem v_ixS {z : Str} {c : Nat} (h : z.length ≤ sizeLine) (e : atI z.cps.toList i = some c) (k : Q (.str ⟨#[c]⟩) H) : rIx K (.str z) (.int i) H Q := .inr (.inr ⟨z, i, c, rfl, rfl, h, e, k⟩)
theorem v_setL {R : Hp → Prop} {n : Nat} (h : H p = some (.lst xs)) (e : ixN xs.length i = some n) (k : R (upd H p (.lst (xs.set n v)))) : rSetL (.ref p) (.int i) v H R := ⟨p, xs, i, n, rfl, rfl, h, e, k⟩
theorem v_lenL (h : H p = some (.lst xs)) (k : Q (.int (xs.length : Nat)) H) : gLen K [.ref p] H Q := ⟨.ref p, _, rfl, .inl ⟨xs, SqL.of h, rfl⟩, k⟩
theorem v_lenT (h : H p = some (.tup xs)) (k : Q (.int (xs.length : Nat)) H) : gLen K [.ref p] H Q := ⟨.ref p, _, rfl, .inr ⟨xs, SqT.of h, rfl⟩, k⟩
theorem v_lenS {z : Str} (h : z.length ≤ sizeLine) (k : Q (.int (z.length : Nat)) H) : gLen K [.str z] H Q := ⟨.str z, _, rfl, ⟨h, rfl⟩, k⟩
theorem v_intI (k : Q (.int i) H) : gInt [.int i] H Q := .inl (.inl ⟨i, rfl, k⟩)
theorem v_intB (k : Q (.int (if b then 1 else 0)) H) : gInt [.bl b] H Q := .inl (.inr ⟨b, rfl, k⟩)
theorem v_min (k : Q (.int (if j < i then j else i)) H) : gMin [.int i, .int j] H Q := ⟨i, j, rfl, k⟩
theorem v_listL (h : H p = some (.lst xs)) (k : ∀ l, H l = none → Q (.ref l) (upd H l (.lst xs))) : gList K [.ref p] H Q := ⟨p, xs, rfl, .inl (SqL.of h), k⟩
theorem v_isi {a T : String} (ht : TyX K H x (.type a)) (hk : kitB a T = some b) (k : Q (.bl b) H) : gIsi K [x, .ty T] H Q := .inl ⟨x, .ty T, _, _, b, rfl, .ty T, ht, kit_ty hk, k⟩
theorem v_isiI {T : String} (hk : kitB "int" T = some b) (k : Q (.bl b) H) : gIsi K [.int i, .ty T] H Q := v_isi (.base (.int i)) hk k
theorem v_isiB {c : Bool} {T : String} (hk : kitB "bool" T = some b) (k : Q (.bl b) H) : gIsi K [.bl c, .ty T] H Q := v_isi (.base (.bl c)) hk k
theorem v_isiS {z : Str} {T : String} (hk : kitB "str" T = some b) (k : Q (.bl b) H) : gIsi K [.str z, .ty T] H Q := v_isi (.base (.str z)) hk k
theorem v_isiN {T : String} (hk : kitB "NoneType" T = some b) (k : Q (.bl b) H) : gIsi K [.non, .ty T] H Q := v_isi (.base .non) hk k
theorem tyx_l (h : SqL K H p xs) : TyX K H (.ref p) (.type "list") := by
  rcases h with (h | ⟨o, h⟩) | ⟨o, its, n, hk, hc, _⟩
  · exact .base (.lst h)
  · exact .base (.frz h)
  · exact .kList hk hc
theorem tyx_t (h : SqT K H p xs) : TyX K H (.ref p) (.type "tuple") := by
  rcases h with (h | ⟨o, h⟩) | ⟨o, its, n, hk, hc, _⟩
  · exact .base (.tup h)
  · exact .fTuple h
  · exact .kTuple hk hc
theorem v_isiL {T : String} (h : SqL K H p xs) (hk : kitB "list" T = some b) (k : Q (.bl b) H) : gIsi K [.ref p, .ty T] H Q := v_isi (tyx_l h) hk k
theorem v_isiT {T : String} (h : SqT K H p xs) (hk : kitB "tuple" T = some b) (k : Q (.bl b) H) : gIsi K [.ref p, .ty T] H Q := v_isi (tyx_t h) hk k
theorem v_str (h : i.natAbs.log2 < 1920) (k : Q (.str (toString i)) H) : gStr [.int i] H Q := ⟨i, rfl, h, k⟩
/-! tests -/
theorem i_t {A B : Prop} (h : A) : if true = true then A else B := by rw [if_pos rfl]; exact h
theorem i_f {A B : Prop} (h : B) : if false = true then A else B := by rw [if_neg Bool.false_ne_true]; exact h
theorem i_nt {A B : Prop} (h : B) : if (!true) = true then A else B := by rw [if_neg (by decide)]; exact h
theorem i_nf {A B : Prop} (h : A) : if (!false) = true then A else B := by show (if true = true then A else B); rw [if_pos rfl]; exact h
theorem i_d {c A B : Prop} [Decidable c] (h1 : c → A) (h2 : ¬ c → B) : if decide c = true then A else B := by
  by_cases h : c
  · rw [decide_eq_true h]; exact i_t (h1 h)
  · rw [decide_eq_false h]; exact i_f (h2 h)
theorem i_nd {c A B : Prop} [Decidable c] (h1 : ¬ c → A) (h2 : c → B) : if (!decide c) = true then A else B := by
  by_cases h : c
  · rw [decide_eq_true h]; exact i_f (h2 h)
  · rw [decide_eq_false h]; exact i_t (h1 h)
theorem i_dt {c A B : Prop} [Decidable c] (h : c) (k : A) : if decide c = true then A else B := by rw [decide_eq_true h]; exact i_t k
theorem i_df {c A B : Prop} [Decidable c] (h : ¬ c) (k : B) : if decide c = true then A else B := by rw [decide_eq_false h]; exact i_f k
theorem i_ndt {c A B : Prop} [Decidable c] (h : ¬ c) (k : A) : if (!decide c) = true then A else B := by rw [decide_eq_false h]; exact i_t k
theorem i_ndf {c A B : Prop} [Decidable c] (h : c) (k : B) : if (!decide c) = true then A else B := by rw [decide_eq_true h]; exact i_f k
theorem i_b {c : Bool} {A B : Prop} (h1 : c = true → A) (h2 : c = false → B) : if c = true then A else B := by
  cases c with
  | true => exact i_t (h1 rfl)
  | false => exact i_f (h2 rfl)
end
section
variable {K : PySem.W.Frag} {H : Hp} {Q : Bool → Hp → Prop}
theorem t_bl {R : Bool → Prop} {b : Bool} (h : R b) : ∃ k, TruV K (.bl b) H k ∧ R k := ⟨b, rfl, h⟩
theorem t_non {R : Bool → Prop} (h : R false) : ∃ k, TruV K .non H k ∧ R k := ⟨_, rfl, h⟩
theorem t_int {R : Bool → Prop} {i : Int} (h : R (i != 0)) : ∃ k, TruV K (.int i) H k ∧ R k := ⟨_, rfl, h⟩
theorem t_str {R : Bool → Prop} {z : Str} (l : z.length ≤ sizeLine) (h : R ((z.length : Int) != 0)) : ∃ k, TruV K (.str z) H k ∧ R k := ⟨_, ⟨l, rfl⟩, h⟩
theorem t_lst {R : Bool → Prop} {p : Addr} {xs : List V} (l : H p = some (.lst xs)) (h : R (!xs.isEmpty)) : ∃ k, TruV K (.ref p) H k ∧ R k := ⟨_, .inl ⟨xs, SqL.of l, rfl⟩, h⟩
end
/-! ### a walk over a list, a tuple or a text -/
def gIt (K : PySem.W.Frag) (tl : TE) : TI := fun σ H R => tl σ H fun x H1 => (∃ a, x = .ref a ∧ (∃ xs, SqL K H1 a xs) ∧ R (Itl K a) H1) ∨ (∃ a, x = .ref a ∧ (∃ xs, SqT K H1 a xs) ∧ R (Itt K a) H1) ∨ ∃ z, x = .str z ∧ R (Its z) H1
theorem g_it {X : Cx} {tg l : Expr} {tl : TE} (hl : PE X l tl) : PI X tg l (gIt X.K tl) := by
  constructor
  intro pins s σ H R I h
  apply thn (hl.run pins s σ H _ I h)
  rintro v s1 ⟨x, H1, I1, r1, q1⟩
  rcases q1 with ⟨a, e, ⟨xs, hq⟩, q⟩ | ⟨a, e, ⟨xs, hq⟩, q⟩ | ⟨z, e, q⟩
  · subst e; cases r1
    obtain ⟨its, rv, pl, hz⟩ := I1.list hq
    apply wpAny_pyIter_list pl.isList
    refine ⟨s1.heap.objs.size, [s1.heap.objs.size], _, _, H1, rfl, I1.kept (t' := s1.toks) fun b o eo => Heap.get?_push_of_some _ eo, turn_list a _, ⟨_, Heap.get?_push_size _ rfl, rfl, rfl⟩, ?_, q⟩
    intro b hb
    obtain rfl : b = s1.heap.objs.size := by simpa using hb
    exact I1.fpOk (Nat.le_refl _) (I1.hok.fresh (Nat.le_refl _))
  · subst e; cases r1
    obtain ⟨its, rv, pl, hz⟩ := I1.tuple hq
    apply wpAny_pyIter_tuple (show s1.heap.IsTuple a its.toArray from pl)
    refine ⟨s1.heap.objs.size, [s1.heap.objs.size], _, _, H1, rfl, I1.kept (t' := s1.toks) fun b o eo => Heap.get?_push_of_some _ eo, turn_tuple a _, ⟨_, Heap.get?_push_size _ rfl, rfl, rfl⟩, ?_, q⟩
    intro b hb
    obtain rfl : b = s1.heap.objs.size := by simpa using hb
    exact I1.fpOk (Nat.le_refl _) (I1.hok.fresh (Nat.le_refl _))
  · subst e
    obtain ⟨t, rfl⟩ := r1
    cases ha : z.cps.all (· < 128)
    · exact wpAny_pyIter_wide ha (pi_one (tk := s1.toks) I1 _ (turn_str _ z t "str_iterator" (.inr rfl)) ⟨_, Heap.get?_push_size _ rfl, rfl, rfl⟩ q)
    · exact wpAny_pyIter_ascii ha (pi_one (tk := s1.toks) I1 _ (turn_str _ z t "str_ascii_iterator" (.inl rfl)) ⟨_, Heap.get?_push_size _ rfl, rfl, rfl⟩ q)

theorem r_gIt {K : PySem.W.Frag} {te : TE} {σ : L2.St} {H : Hp} {R : It → Hp → Prop} (h : te σ H fun x H1 => (∃ a, x = .ref a ∧ (∃ xs, SqL K H1 a xs) ∧ R (Itl K a) H1) ∨ (∃ a, x = .ref a ∧ (∃ xs, SqT K H1 a xs) ∧ R (Itt K a) H1) ∨ ∃ z, x = .str z ∧ R (Its z) H1) : gIt K te σ H R := h

/-! ### defs of the text: where they stand, what they promise -/
/-- the def st stands under the module's name x -/
def FunAt (K : PySem.W.Frag) (mg : Str → Option Value) (x qual : Str) (st : Stmt) : Prop := ∃ f fd, mg x = some (.ref f) ∧ Fun K x qual st f fd
/-- the def under the name x keeps the promise sp -/
structure Cal (P : Program) (w : World) (K : PySem.W.Frag) (mg : Str → Option Value) (base : Heap) (CX : CXT) (k : Nat) (x : Str) (ps : List Str) (sp : Sp) : Prop where
  ex : ∃ f fd, mg x = some (.ref f) ∧ PySem.W.keepIn K (.ref f) = true ∧ (∃ oc od sl, K.lookup f = some ⟨oc, od, .func fd, sl⟩) ∧ Binds K fd ps [] ∧ FnOk P w K mg base CX k f fd ps sp
section
variable {P : Program} {w : World} {K : PySem.W.Frag} {mg : Str → Option Value} {base : Heap} {CX : CXT} {j k : Nat} {x qual : Str} {ps N : List Str} {sp sp' : Sp} {st : Stmt}
theorem Cal.mono (C : Cal P w K mg base CX j x ps sp) (h : j ≤ k) : Cal P w K mg base CX k x ps sp := by
  obtain ⟨f, fd, m, kp, lk, b, F⟩ := C.ex
  exact ⟨f, fd, m, kp, lk, b, F.mono h⟩
theorem Cal.imp (C : Cal P w K mg base CX k x ps sp) (h : ∀ vs H Q E, sp' vs H Q E → sp vs H Q E) : Cal P w K mg base CX k x ps sp' := by
  obtain ⟨f, fd, m, kp, lk, b, F⟩ := C.ex
  exact ⟨f, fd, m, kp, lk, b, F.imp h⟩
/-- THE RULE: a def of the text that lets no exception out -/
theorem def_ok (F : FunAt K mg x qual st) (S : FnScope N ps (defScope st))
    (hb : ∀ (kV doc pm : Value) (an : Option Addr) (cdv ct : Value) (us : List Value), us.length = ps.length → bindArgs (PySem.W.fnOf x qual (defArgs st) (defBody st) (defScope st) .none kV doc pm an cdv ct) ⟨us, []⟩ = pure (ps.zip us))
    (len : ∀ vs H Q E, sp vs H Q E → vs.length = ps.length)
    (body : ∀ (f : Addr) (cdv : Value) (A : Around) (outer : List Env) (s : Shared) (H : Hp) (vs : List V) (Q : VK) (E : XK), Room k (A.deeper (envOfC qual (defScope st) s.heap.objs.size f cdv)) → sp vs H Q E →
      ∃ t, PSs (cxOf CX0 P w K mg base N qual (defScope st) f cdv A outer s H E).nox (defBody st) t ∧ t { nx := fun _ H' => Q .non H', rt := Q } (start N vs) H) : Cal P w K mg base CX0 (k + 1) x ps sp := by
  obtain ⟨f, fd, m, G⟩ := F
  have lk : ∃ oc od sl, K.lookup f = some ⟨oc, od, .func fd, sl⟩ := by
    obtain ⟨oc, od, _, _, _, _, _, _, sl, _, lk, _⟩ := G.ex
    exact ⟨oc, od, sl, lk⟩
  exact ⟨f, fd, m, G.kp, lk, G.binds hb, G.ok S len fun cdv A outer s H vs Q E hr h => body f cdv A outer s H vs Q E hr h⟩
end
/-- the law's own def, at the place where the top has left it -/
theorem Cal.at_ {P : Program} {w : World} {K : PySem.W.Frag} {mg : Str → Option Value} {base : Heap} {CX : CXT} {k : Nat} {x qual : Str} {ps : List Str} {sp : Sp} {st : Stmt} {f : Addr} {fd : FuncData} (C : Cal P w K mg base CX k x ps sp) (m : mg x = some (.ref f)) (F : Fun K x qual st f fd) : FnOk P w K mg base CX k f fd ps sp := by
  obtain ⟨f', fd', m', kp, ⟨oc, od, sl, lk⟩, b, G⟩ := C.ex
  obtain rfl : f' = f := by
    rw [m] at m'
    injection m' with e
    injection e with e
    exact e.symm
  obtain ⟨oc', od', _, _, _, _, _, _, sl', _, lk', _⟩ := F.ex
  rw [lk] at lk'
  injection lk' with e
  injection e with _ _ e _
  injection e with e
  subst e
  exact G
/-- of a promise that asks what cannot be -/
theorem def_none {P : Program} {w : World} {K : PySem.W.Frag} {mg : Str → Option Value} {base : Heap} {CX : CXT} {k : Nat} {x qual : Str} {ps : List Str} {sp : Sp} {st : Stmt} (F : FunAt K mg x qual st)
    (hb : ∀ (kV doc pm : Value) (an : Option Addr) (cdv ct : Value) (us : List Value), us.length = ps.length → bindArgs (PySem.W.fnOf x qual (defArgs st) (defBody st) (defScope st) .none kV doc pm an cdv ct) ⟨us, []⟩ = pure (ps.zip us))
    (no : ∀ vs H Q E, ¬ sp vs H Q E) : Cal P w K mg base CX k x ps sp := by
  obtain ⟨f, fd, m, G⟩ := F
  have lk : ∃ oc od sl, K.lookup f = some ⟨oc, od, .func fd, sl⟩ := by
    obtain ⟨oc, od, _, _, _, _, _, _, sl, _, lk, _⟩ := G.ex
    exact ⟨oc, od, sl, lk⟩
  exact ⟨f, fd, m, G.kp, lk, G.binds hb, ⟨fun vs H Q E h => (no vs H Q E h).elim, fun _ _ _ H _ _ vs Q E _ _ _ _ h => (no vs H Q E h).elim⟩⟩
section
variable {X : Cx} {CX : CXT} {k : Nat} {x : Str} {ps : List Str} {sp : Sp} {E : XK} {p pos : Pos} {e : Expr} {es : List Expr} {t : TA}
/-- a call of such a def -/
theorem g_call (C : Cal X.prog X.w X.K X.mg X.base CX k x ps sp) (hr : Room k X.A) (hg : Gl X x) (hx : Passes CX X E) (ha : PA X (e :: es) t) (hdb : (x == ("__debug__" : Str)) = false := by decide)
    (he : starEach (e :: es) X.env = (false, eval e X.env) :: starEach es X.env := by rfl) (hpl : (backTo pos (starEach es X.env)).any (·.1) = false := by rfl) : PE X (.Call (.Name x p) (e :: es) [] pos) (tCall sp [] E t) := by
  obtain ⟨f, fd, m, kp, lk, b, F⟩ := C.ex
  exact pe_call F hr hg m kp b .nil hx ha hdb he hpl
theorem g_call0 (C : Cal X.prog X.w X.K X.mg X.base CX k x ps sp) (hr : Room k X.A) (hg : Gl X x) (hx : Passes CX X E) (hdb : (x == ("__debug__" : Str)) = false := by decide) : PE X (.Call (.Name x p) [] [] pos) (tCall sp [] E tNil) := by
  obtain ⟨f, fd, m, kp, lk, b, F⟩ := C.ex
  exact pe_call0 F hr hg m kp b .nil hx hdb
/-- a module's number or text -/
theorem g_const {v : V} {u : Value} (hg : Gl X x) (hm : X.mg x = some u) (r : RelV v u) (hd : (x == ("__debug__" : Str)) = false := by decide) : PE X (.Name x pos) (tC v) := pe_glob hg hm r hd
theorem g_cint {i : Int} (hm : ∃ t, X.mg x = some (.int i t)) (hg : Gl X x) (hd : (x == ("__debug__" : Str)) = false := by decide) : PE X (.Name x pos) (tC (.int i)) := by
  obtain ⟨t, m⟩ := hm
  exact pe_glob hg m ⟨t, rfl⟩ hd
theorem g_cstr {z : Str} (hm : ∃ t, X.mg x = some (.str z t)) (hg : Gl X x) (hd : (x == ("__debug__" : Str)) = false := by decide) : PE X (.Name x pos) (tC (.str z)) := by
  obtain ⟨t, m⟩ := hm
  exact pe_glob hg m ⟨t, rfl⟩ hd
end
/-- the heap behind a store -/
theorem upd_at {H : Hp} {a b : Addr} {o : HO} : upd H a o b = if b = a then some o else H b := rfl
/-- what was there before the new object p -/
theorem Same.laid {H H' : Hp} {p : Addr} {o : HO} (s : Same H H') (n : H' p = none) : Same H (upd H' p o) := fun b u e => by
  rw [upd_ne (ne_of_none (s b u e) n)]; exact s b u e
end G

local macro_rules | `(tactic| walk_at "kit") => `(tactic| with_reducible first | exact G.kit_N_tuple | exact G.kit_N_list | exact G.kit_N_bool | exact G.kit_N_int | exact G.kit_N_str | exact G.kit_B_tuple | exact G.kit_B_list | exact G.kit_B_bool | exact G.kit_B_int | exact G.kit_B_str | exact G.kit_I_tuple | exact G.kit_I_list | exact G.kit_I_bool | exact G.kit_I_int | exact G.kit_I_str | exact G.kit_S_tuple | exact G.kit_S_list | exact G.kit_S_bool | exact G.kit_S_int | exact G.kit_S_str | exact G.kit_L_tuple | exact G.kit_L_list | exact G.kit_L_bool | exact G.kit_L_int | exact G.kit_L_str | exact G.kit_T_tuple | exact G.kit_T_list | exact G.kit_T_bool | exact G.kit_T_int | exact G.kit_T_str)
local macro_rules | `(tactic| walk_at "ne") => `(tactic| first | assumption | (apply Ne.symm; assumption) | exact L2.ne_of_none (by assumption) (by assumption) | exact (L2.ne_of_none (by assumption) (by assumption)).symm)
local macro_rules | `(tactic| walk_at "hp") => `(tactic| first | assumption | exact L2.upd_same | (refine' Eq.trans (L2.upd_ne ?k8) ?k9; (case k8 => walk_at "ne"); (case k9 => walk_at "hp")))
local macro_rules | `(tactic| walk_at "sz") => `(tactic| first | decide | (simp only [List.length_cons, List.length_nil, List.length_append, List.length_map, List.length_set]; first | decide | omega))
local macro_rules | `(tactic| walk_at "r1") => `(tactic| first
  | with_reducible refine G.r_seq ?_
  | with_reducible refine G.r_asg ?_
  | with_reducible refine G.r_op ?_
  | ((with_reducible refine' G.r_var ?k1 ?_); (case k1 => rfl))
  | with_reducible refine G.r_c ?_
  | with_reducible refine G.r_cons ?_
  | with_reducible refine G.r_nil ?_
  | ((with_reducible refine G.r_name ?_); dsimp only [List.set_cons_succ, List.set_cons_zero, L2.start, List.map, List.replicate, List.length, Nat.reduceSub, Nat.reduceAdd, List.cons_append, List.nil_append, List.append_nil])
  | with_reducible refine G.r_sub ?_
  | (with_reducible refine G.r_ret ?_)
  | with_reducible refine G.r_ifS ?_
  | with_reducible refine G.r_cb ?_
  | (with_reducible refine G.r_call ?_)
  | with_reducible refine G.r_test ?_
  | with_reducible refine G.r_and ?_
  | with_reducible refine G.r_or ?_
  | with_reducible refine G.r_not ?_
  | with_reducible refine G.r_if ?_
  | with_reducible refine G.r_drop ?_
  | with_reducible refine G.r_bm ?_
  | with_reducible refine G.r_bm0 ?_
  | with_reducible refine G.r_tup ?_
  | with_reducible refine G.r_lst ?_
  | with_reducible refine G.r_un ?_
  | with_reducible refine G.r_tB ?_
  | with_reducible refine G.r_exbl ?_
  | with_reducible refine G.r_exbl' ?_
  | with_reducible refine G.r_chain ?_
  | with_reducible refine G.r_orT ?_
  | with_reducible refine G.r_andT ?_
  | with_reducible refine G.r_notT ?_
  | with_reducible refine G.r_nx ?_
  | with_reducible refine G.r_for ?_
  | with_reducible refine G.r_iRng1 ?_
  | with_reducible refine G.r_iRng2 ?_
  | with_reducible refine G.r_iTup ?_
  | with_reducible refine G.r_gIt ?_
  | with_reducible refine G.r_retN ?_
  | with_reducible refine G.t_bl ?_
  | with_reducible refine G.t_int ?_
  | with_reducible refine G.t_non ?_
  | ((with_reducible refine' G.t_str ?k1 ?_); (case k1 => walk_at "sz"))
  | ((with_reducible refine' G.t_lst ?k1 ?_); (case k1 => walk_at "hp"))
  | walk_at "v1"
  | walk_at "i1")
local macro_rules | `(tactic| walk_at "v1") => `(tactic| first
  | with_reducible refine G.v_addI ?_
  | ((with_reducible refine' G.v_addS ?k1 ?_); (case k1 => walk_at "sz"))
  | with_reducible refine G.v_sub ?_
  | ((with_reducible refine' G.v_mul ?k1 ?_); (case k1 => first | exact Or.inr (by decide) | exact Or.inl (by decide) | (unfold L2.CMul; omega)))
  | ((with_reducible refine' G.v_div ?k1 ?_); (case k1 => first | exact ⟨by decide, by decide⟩ | exact ⟨by omega, by omega⟩))
  | ((with_reducible refine' G.v_mod ?k1 ?_); (case k1 => first | decide | omega))
  | ((with_reducible refine' G.v_pow ?k1 ?_); (case k1 => exact ⟨by decide, by decide, by decide⟩))
  | with_reducible refine G.v_ltI ?_
  | with_reducible refine G.v_leI ?_
  | with_reducible refine G.v_gt ?_
  | with_reducible refine G.v_ge ?_
  | with_reducible refine G.v_eqI ?_
  | with_reducible refine G.v_eqS ?_
  | with_reducible refine G.v_eqB ?_
  | with_reducible refine G.v_neI ?_
  | with_reducible refine G.v_neS ?_
  | with_reducible refine G.v_neB ?_
  | with_reducible refine G.v_eqN ?_
  | with_reducible refine G.v_neN ?_
  | with_reducible refine G.v_isN ?_
  | with_reducible refine G.v_isB ?_
  | with_reducible refine G.v_isI ?_
  | with_reducible refine G.v_isS ?_
  | with_reducible refine G.v_isR ?_
  | with_reducible refine G.v_isnotN ?_
  | with_reducible refine G.v_isnotB ?_
  | with_reducible refine G.v_isnotI ?_
  | with_reducible refine G.v_isnotS ?_
  | with_reducible refine G.v_isnotR ?_
  | ((with_reducible refine' G.v_ixLs ?k1 ?k2 ?_); (case k1 => assumption); (case k2 => first | rfl | assumption))
  | ((with_reducible refine' G.v_ixTs ?k1 ?k2 ?_); (case k1 => assumption); (case k2 => first | rfl | assumption))
  | ((with_reducible refine' G.v_lenLs ?k1 ?_); (case k1 => assumption))
  | ((with_reducible refine' G.v_lenTs ?k1 ?_); (case k1 => assumption))
  | ((with_reducible refine' G.v_ixL ?k1 ?k2 ?_); (case k1 => walk_at "hp"); (case k2 => first | rfl | assumption))
  | ((with_reducible refine' G.v_ixT ?k1 ?k2 ?_); (case k1 => walk_at "hp"); (case k2 => first | rfl | assumption))
  | ((with_reducible refine' G.v_setL ?k1 ?k2 ?_); (case k1 => walk_at "hp"); (case k2 => first | rfl | assumption); dsimp only [Int.reduceToNat, List.set_cons_succ, List.set_cons_zero])
  | ((with_reducible refine' G.v_lenL ?k1 ?_); (case k1 => walk_at "hp"))
  | ((with_reducible refine' G.v_lenT ?k1 ?_); (case k1 => walk_at "hp"))
  | ((with_reducible refine' G.v_lenS ?k1 ?_); (case k1 => walk_at "sz"))
  | with_reducible refine G.v_intI ?_
  | with_reducible refine G.v_intB ?_
  | with_reducible refine G.v_min ?_
  | ((with_reducible refine' G.v_isiI ?k1 ?_); (case k1 => walk_at "kit"))
  | ((with_reducible refine' G.v_isiB ?k1 ?_); (case k1 => walk_at "kit"))
  | ((with_reducible refine' G.v_isiS ?k1 ?_); (case k1 => walk_at "kit"))
  | ((with_reducible refine' G.v_isiN ?k1 ?_); (case k1 => walk_at "kit"))
  | ((with_reducible refine' G.v_isiL ?k1 ?k2 ?_); (case k1 => assumption); (case k2 => walk_at "kit"))
  | ((with_reducible refine' G.v_isiT ?k1 ?k2 ?_); (case k1 => assumption); (case k2 => walk_at "kit"))
  | with_reducible refine G.v_ltS ?_
  | with_reducible refine G.v_leS ?_)
local macro_rules | `(tactic| walk_at "i1") => `(tactic| first
  | with_reducible refine G.i_t ?_
  | with_reducible refine G.i_f ?_
  | with_reducible refine G.i_nt ?_
  | with_reducible refine G.i_nf ?_
  | ((with_reducible refine' G.i_dt ?k1 ?_); (case k1 => first | assumption | omega | decide))
  | ((with_reducible refine' G.i_df ?k1 ?_); (case k1 => first | assumption | omega | decide))
  | ((with_reducible refine' G.i_ndt ?k1 ?_); (case k1 => first | assumption | omega | decide))
  | ((with_reducible refine' G.i_ndf ?k1 ?_); (case k1 => first | assumption | omega | decide)))
local macro_rules | `(tactic| walk_at "rd") => `(tactic| repeat walk_at "r1")

namespace L
open PySem L2 G
def top (i : Nat) : Stmt := PySem.Challenge.pw_blameless_k00_operators_on_words.main.body.getD i (.Pass ⟨0, 0, 0, 0⟩)
abbrev s_combine : Stmt := top 2
theorem sc_combine : FnScope ["sign", "left", "right"] ["sign", "left", "right"] (defScope s_combine) := ⟨rfl, rfl, rfl, by decide +kernel, rfl, by decide +kernel, by decide +kernel⟩
abbrev s_divided : Stmt := top 3
theorem sc_divided : FnScope ["sign", "left", "right"] ["sign", "left", "right"] (defScope s_divided) := ⟨rfl, rfl, rfl, by decide +kernel, rfl, by decide +kernel, by decide +kernel⟩
abbrev s_l_pool : Stmt := top 5
theorem sc_l_pool : FnScope ["script", "budget"] ["script", "budget"] (defScope s_l_pool) := ⟨rfl, rfl, rfl, by decide +kernel, rfl, by decide +kernel, by decide +kernel⟩
abbrev s_l_draw : Stmt := top 6
theorem sc_l_draw : FnScope ["pool", "size", "cell", "value"] ["pool", "size"] (defScope s_l_draw) := ⟨rfl, rfl, rfl, by decide +kernel, rfl, by decide +kernel, by decide +kernel⟩
abbrev s_l_spend : Stmt := top 7
theorem sc_l_spend : FnScope ["pool"] ["pool"] (defScope s_l_spend) := ⟨rfl, rfl, rfl, by decide +kernel, rfl, by decide +kernel, by decide +kernel⟩
abbrev s_l_few : Stmt := top 8
theorem sc_l_few : FnScope ["pool", "most", "few"] ["pool", "most"] (defScope s_l_few) := ⟨rfl, rfl, rfl, by decide +kernel, rfl, by decide +kernel, by decide +kernel⟩
abbrev s_l_number : Stmt := top 9
theorem sc_l_number : FnScope ["pool"] ["pool"] (defScope s_l_number) := ⟨rfl, rfl, rfl, by decide +kernel, rfl, by decide +kernel, by decide +kernel⟩
abbrev s_l_same : Stmt := top 10
theorem sc_l_same : FnScope ["actual", "due", "k"] ["actual", "due"] (defScope s_l_same) := ⟨rfl, rfl, rfl, by decide +kernel, rfl, by decide +kernel, by decide +kernel⟩
abbrev s_l_combine : Stmt := top 11
theorem sc_l_combine : FnScope ["sign", "a", "b", "whole"] ["sign", "a", "b"] (defScope s_l_combine) := ⟨rfl, rfl, rfl, by decide +kernel, rfl, by decide +kernel, by decide +kernel⟩
abbrev s_law : Stmt := top 12
theorem sc_law : FnScope ["script", "pool", "k", "left", "right", "sign"] ["script"] (defScope s_law) := ⟨rfl, rfl, rfl, by decide +kernel, rfl, by decide +kernel, by decide +kernel⟩
structure Top (K : PySem.W.Frag) (mg : Str → Option Value) : Prop where
  f_combine : FunAt K mg "combine" "combine" s_combine
  f_divided : FunAt K mg "divided" "divided" s_divided
  f_l_pool : FunAt K mg "_law_pool" "_law_pool" s_l_pool
  f_l_draw : FunAt K mg "_law_draw" "_law_draw" s_l_draw
  f_l_spend : FunAt K mg "_law_spend" "_law_spend" s_l_spend
  f_l_few : FunAt K mg "_law_few" "_law_few" s_l_few
  f_l_number : FunAt K mg "_law_number" "_law_number" s_l_number
  f_l_same : FunAt K mg "_law_same" "_law_same" s_l_same
  f_l_combine : FunAt K mg "_law_combine" "_law_combine" s_l_combine
  f_law : FunAt K mg "law" "law" s_law
  c_WORD_COUNT : ∃ t, mg "WORD_COUNT" = some (.int 65536 t)
  b_bool : mg "bool" = none
  b_int : mg "int" = none
  b_isinstance : mg "isinstance" = none
  b_len : mg "len" = none
  b_list : mg "list" = none
  b_min : mg "min" = none
  b_range : mg "range" = none
  b_str : mg "str" = none
  b_tuple : mg "tuple" = none
/-! ### the pool of draws: it stands at p, its list of the script's numbers somewhere -/
def PoolAt (H : Hp) (p : Addr) : Prop := ∃ (sc : Addr) (a b c d e : Int) (ns : List Int), H p = some (.lst [.ref sc, .int a, .int b, .int c, .int d, .int e]) ∧ H sc = some (.lst (ns.map V.int)) ∧ 0 ≤ a
theorem PoolAt.laid {H : Hp} {p q : Addr} {o : HO} (h : PoolAt H p) (n : H q = none) : PoolAt (upd H q o) p := by
  obtain ⟨sc, a, b, c, d, e, ns, hp, hs, ha⟩ := h
  exact ⟨sc, a, b, c, d, e, ns, by rw [upd_ne (ne_of_none hp n)]; exact hp, by rw [upd_ne (ne_of_none hs n)]; exact hs, ha⟩
theorem PoolAt.same {H H' : Hp} {p : Addr} (h : PoolAt H p) (s : Same H H') : PoolAt H' p := by
  obtain ⟨sc, a, b, c, d, e, ns, hp, hs, ha⟩ := h
  exact ⟨sc, a, b, c, d, e, ns, s _ _ hp, s _ _ hs, ha⟩
theorem PoolAt.ne {H : Hp} {p q : Addr} (h : PoolAt H p) (n : H q = none) : p ≠ q := by
  obtain ⟨sc, a, b, c, d, e, ns, hp, hs, ha⟩ := h
  exact ne_of_none hp n
/-- all but the object p stays -/
def But (p : Addr) (H H' : Hp) : Prop := ∀ b, b ≠ p → H' b = H b
theorem But.refl (p : Addr) (H : Hp) : But p H H := fun _ _ => rfl
theorem But.trans {p : Addr} {H H1 H2 : Hp} (a : But p H H1) (b : But p H1 H2) : But p H H2 := fun q h => (b q h).trans (a q h)
theorem But.upd {p : Addr} {H H' : Hp} {o : HO} (a : But p H H') : But p H (upd H' p o) := fun q h => (upd_ne h).trans (a q h)
def sp_l_pool (K : PySem.W.Frag) : Sp := fun vs H Q _ => ∃ (a : Addr) (ns : List Int) (n : Int), vs = [.ref a, .int n] ∧ SqL K H a (ns.map V.int) ∧ ∀ p H', H p = none → Same H H' → PoolAt H' p → Q (.ref p) H'
def sp_l_draw : Sp := fun vs H Q _ => ∃ (p : Addr) (n : Int), vs = [.ref p, .int n] ∧ PoolAt H p ∧ (0 < n ∧ n < 1073741824) ∧ ∀ r H', PoolAt H' p → But p H H' → 0 ≤ r → r < n → Q (.int r) H'
def sp_l_few : Sp := fun vs H Q _ => ∃ (p : Addr) (n : Int), vs = [.ref p, .int n] ∧ PoolAt H p ∧ (0 ≤ n ∧ n < 1073741823) ∧ ∀ r H', PoolAt H' p → But p H H' → 0 ≤ r → r ≤ n → Q (.int r) H'
def sp_l_number : Sp := fun vs H Q _ => ∃ (p : Addr), vs = [.ref p] ∧ PoolAt H p ∧ ∀ r H', PoolAt H' p → But p H H' → 0 ≤ r → r < 65536 → Q (.int r) H'
def sp_l_spend : Sp := fun vs H Q _ => ∃ (p : Addr), vs = [.ref p] ∧ PoolAt H p ∧ ∀ b H', PoolAt H' p → But p H H' → Q (.bl b) H'
inductive Da (K : PySem.W.Frag) (H : Hp) : Nat → V → V → Prop
  | non {n : Nat} : Da K H (n + 1) .non .non
  | bl {n : Nat} (b : Bool) : Da K H (n + 1) (.bl b) (.bl b)
  | int {n : Nat} (i : Int) : Da K H (n + 1) (.int i) (.int i)
  | str {n : Nat} (z : Str) : Da K H (n + 1) (.str z) (.str z)
  | lst {n : Nat} {a b : Addr} {xs ys : List V} : SqL K H a xs → SqL K H b ys → xs.length = ys.length → xs.length ≤ 1000000 → (∀ (i : Nat) x y, xs[i]? = some x → ys[i]? = some y → Da K H n x y) → Da K H (n + 1) (.ref a) (.ref b)
  | tup {n : Nat} {a b : Addr} {xs ys : List V} : SqT K H a xs → SqT K H b ys → xs.length = ys.length → xs.length ≤ 1000000 → (∀ (i : Nat) x y, xs[i]? = some x → ys[i]? = some y → Da K H n x y) → Da K H (n + 1) (.ref a) (.ref b)
def sp_l_same (K : PySem.W.Frag) (n : Nat) : Sp := fun vs H Q _ => ∃ x y, vs = [x, y] ∧ Da K H n x y ∧ Q (.bl true) H
theorem ne_pool {H : Hp} {sc p : Addr} {ns : List Int} {q : Addr} {vs : List V} (hs : H sc = some (.lst (ns.map V.int))) (hp : H p = some (.lst (.ref q :: vs))) : sc ≠ p := ne_of hs hp (by
  intro q
  injection q with q
  cases ns with
  | nil => cases q
  | cons z zs =>
    rw [List.map_cons] at q
    injection q with q1 _
    cases q1)
theorem atI_int {ns : List Int} {i : Int} (h0 : 0 ≤ i) (h : i < ((ns.map V.int).length : Int)) : ∃ z, atI (ns.map V.int) i = some (.int z) := by
  have hl : i.toNat < ns.length := by rw [List.length_map] at h; omega
  refine ⟨ns[i.toNat], ?_⟩
  have q : atI (ns.map V.int) ((i.toNat : Nat) : Int) = some (.int ns[i.toNat]) := atI_nat (by rw [List.getElem?_map, List.getElem?_eq_getElem hl]; rfl)
  rwa [Int.toNat_of_nonneg h0] at q
section
variable {P : Program} {w : World} {K : PySem.W.Frag} {mg : Str → Option Value} {base : Heap}
theorem ok_l_pool (T : Top K mg) : Cal P w K mg base CX0 1 "_law_pool" ["script", "budget"] (sp_l_pool K) := by
  refine def_ok T.f_l_pool sc_l_pool (fun _ _ _ _ _ _ us hl => match us, hl with | [_, _], _ => rfl) (fun vs H Q E h => ?_) (fun f cdv A outer s H vs Q E hr h => ?_)
  · obtain ⟨a, ns, n, rfl, _⟩ := h
    rfl
  · obtain ⟨a, ns, n, rfl, hS, k⟩ := h
    refine ⟨_, (pss_one (ps_ret (pe_lst (pa_cons (pe_callTy g_list (by rfl) T.b_list (by decide +kernel) (pa_cons (pv 0) pa_nil)) (pa_cons pe_int (pa_cons pe_int (pa_cons pe_int (pa_cons pe_int (pa_cons (pv 1) pa_nil))))))))), ?_⟩
    walk_at "rd"
    refine ⟨a, _, rfl, .inl hS, fun l hl => ?_⟩
    walk_at "rd"
    refine ⟨by walk_at "sz", fun p hp => ?_⟩
    have npl : l ≠ p := ne_of_none upd_same hp
    have hp0 : H p = none := by rw [upd_ne npl.symm] at hp; exact hp
    refine k p _ hp0 ?_ ⟨l, 0, 0, 1, 0, n, ns, upd_same, by rw [upd_ne npl, upd_same], by decide⟩
    exact Same.laid (Same.laid (Same.refl H) hl) hp
theorem ok_l_draw (T : Top K mg) : Cal P w K mg base CX0 1 "_law_draw" ["pool", "size"] sp_l_draw := by
  refine def_ok T.f_l_draw sc_l_draw (fun _ _ _ _ _ _ us hl => match us, hl with | [_, _], _ => rfl) (fun vs H Q E h => ?_) (fun f cdv A outer s H vs Q E hr h => ?_)
  · obtain ⟨p, n, rfl, _⟩ := h
    rfl
  · obtain ⟨p, n, rfl, ⟨sc, a, b, c, d, e, ns, hp, hs, ha⟩, ⟨hn, hn2⟩, k⟩ := h
    have nsp : sc ≠ p := ne_pool hs hp
    refine ⟨_, (pss_cut (ps_if (PW.pt (pw_and (pt_cmpR g_le (pe_ix g_ix (pv 0) pe_int (fun _ _ => rfl)) pe_int (nomark _)) (pw_and (pt_cmpR g_le (pe_ix g_ix (pv 0) pe_int (fun _ _ => rfl)) pe_int (nomark _)) (pw_and1 (pt_cmpR g_lt (pe_ix g_ix (pv 0) pe_int (fun _ _ => rfl)) (pe_callB g_len (by rfl) T.b_len PySem.boot_len (pa_cons (pe_ix g_ix (pv 0) pe_int (fun _ _ => rfl)) pa_nil)) (nomark _))))))
  (pss_cons (ps_set (i := 2) sc_l_draw.nd rfl (by first | exact Or.inl rfl | exact Or.inr rfl) (pe_ix g_ix (pe_ix g_ix (pv 0) pe_int (fun _ _ => rfl)) (pe_ix g_ix (pv 0) pe_int (fun _ _ => rfl)) (fun _ _ => rfl)))
    (pss_cons (ps_asg (pe_op g_add (pe_ix g_ix (pv 0) pe_int (fun _ _ => rfl)) pe_int) (pg_sub (pv 0) pe_int set_list))
    (pss_cons (ps_asg (pe_op g_mod (pe_callTy g_int (by rfl) T.b_int (by decide +kernel) (pa_cons (pe_op g_add (pe_op g_mul (pe_ix g_ix (pv 0) pe_int (fun _ _ => rfl)) pe_int) (pv 2)) pa_nil)) pe_int) (pg_sub (pv 0) pe_int set_list))
    (pss_cons (ps_asg pe_int (pg_sub (pv 0) pe_int set_list))
    (pss_one (ps_if (pt_cmpR g_ge (pv 2) (pe_op g_pow pe_int pe_int) (nomark _))
    (pss_one (ps_asg (pv 2) (pg_sub (pv 0) pe_int set_list)))
    pss_nil))))))
  pss_nil)
  (pss_cons (ps_if (pt_cmpR g_gt (pe_ix g_ix (pv 0) pe_int (fun _ _ => rfl)) pe_int (nomark _))
  (pss_cons (ps_set (i := 3) sc_l_draw.nd rfl (by first | exact Or.inl rfl | exact Or.inr rfl) (pe_op g_mod (pe_callTy g_int (by rfl) T.b_int (by decide +kernel) (pa_cons (pe_ix g_ix (pv 0) pe_int (fun _ _ => rfl)) pa_nil)) (pv 1)))
    (pss_cons (ps_asg (pe_op g_div (pe_ix g_ix (pv 0) pe_int (fun _ _ => rfl)) (pv 1)) (pg_sub (pv 0) pe_int set_list))
    (pss_cons (ps_asg pe_int (pg_sub (pv 0) pe_int set_list))
    (pss_one (ps_ret (pv 3))))))
  pss_nil)
  (pss_cons (ps_asg (pe_op g_sub (pe_ix g_ix (pv 0) pe_int (fun _ _ => rfl)) pe_int) (pg_sub (pv 0) pe_int set_list))
  (pss_cons (ps_asg (pe_op g_mod (pe_callTy g_int (by rfl) T.b_int (by decide +kernel) (pa_cons (pe_op g_add (pe_op g_mul (pe_ix g_ix (pv 0) pe_int (fun _ _ => rfl)) pe_int) pe_int) pa_nil)) pe_int) (pg_sub (pv 0) pe_int set_list))
  (pss_one (ps_ret (pe_op g_mod (pe_op g_mod (pe_callTy g_int (by rfl) T.b_int (by decide +kernel) (pa_cons (pe_op g_add (pe_op g_mul (pe_ix g_ix (pv 0) pe_int (fun _ _ => rfl)) pe_int) pe_int) pa_nil)) pe_int) (pv 1)))))))), ?_⟩
    refine G.r_cut (fun σ H2 => ∃ v2, σ = [some (.ref p), some (.int n), v2, none] ∧ PoolAt H2 p ∧ But p H H2) ?_ ?_
    · have skip : ∃ v2, ([some (.ref p), some (.int n), none, none] : L2.St) = [some (.ref p), some (.int n), v2, none] ∧ PoolAt H p ∧ But p H H := ⟨none, rfl, ⟨sc, a, b, c, d, e, ns, hp, hs, ha⟩, But.refl p H⟩
      walk_at "rd"
      refine G.i_d (fun h1 => ?_) (fun h1 => ?_)
      · walk_at "rd"
        refine G.i_d (fun h2 => ?_) (fun h2 => ?_)
        · walk_at "rd"
          refine G.i_d (fun h3 => ?_) (fun h3 => ?_)
          · obtain ⟨z, hz⟩ := atI_int ha h3
            walk_at "rd"
            refine G.i_d (fun h4 => ?_) (fun h4 => ?_)
            · walk_at "rd"
              exact ⟨_, rfl, ⟨sc, _, _, _, _, _, ns, upd_same, by rw [upd_ne nsp, upd_ne nsp, upd_ne nsp, upd_ne nsp]; exact hs, by omega⟩, (((But.refl p H).upd.upd).upd).upd⟩
            · walk_at "rd"
              exact ⟨_, rfl, ⟨sc, _, _, _, _, _, ns, upd_same, by rw [upd_ne nsp, upd_ne nsp, upd_ne nsp]; exact hs, by omega⟩, (((But.refl p H).upd.upd).upd)⟩
          · walk_at "rd"; exact skip
        · walk_at "rd"; exact skip
      · walk_at "rd"; exact skip
    · rintro σ H2 ⟨v2, rfl, ⟨sc, a, b, c, d, e, ns, hp, hs, ha⟩, hb⟩
      have nsp : sc ≠ p := ne_pool hs hp
      walk_at "rd"
      refine G.i_d (fun h1 => ?_) (fun h1 => ?_)
      · walk_at "rd"
        exact k _ _ ⟨sc, _, _, _, _, _, ns, upd_same, by rw [upd_ne nsp, upd_ne nsp]; exact hs, ha⟩ hb.upd.upd (Int.emod_nonneg _ (by omega)) (Int.emod_lt_of_pos _ hn)
      · walk_at "rd"
        exact k _ _ ⟨sc, _, _, _, _, _, ns, upd_same, by rw [upd_ne nsp, upd_ne nsp]; exact hs, ha⟩ hb.upd.upd (Int.emod_nonneg _ (by omega)) (Int.emod_lt_of_pos _ hn)
theorem ok_l_few (T : Top K mg) : Cal P w K mg base CX0 2 "_law_few" ["pool", "most"] sp_l_few := by
  refine def_ok T.f_l_few sc_l_few (fun _ _ _ _ _ _ us hl => match us, hl with | [_, _], _ => rfl) (fun vs H Q E h => ?_) (fun f cdv A outer s H vs Q E hr h => ?_)
  · obtain ⟨p, n, rfl, _⟩ := h
    rfl
  · obtain ⟨p, n, rfl, hp, ⟨hn, hn2⟩, k⟩ := h
    refine ⟨_, (pss_cons (ps_set (i := 2) sc_l_few.nd rfl (by first | exact Or.inl rfl | exact Or.inr rfl) (g_call (ok_l_draw T) (hr.mono (by decide)) (by rfl) pass0 (pa_cons (pv 0) (pa_cons pe_int pa_nil))))
  (pss_cons (ps_if (pt_cmpR g_eq (pv 2) pe_int (nomark _))
  (pss_one (ps_ret (g_call (ok_l_draw T) (hr.mono (by decide)) (by rfl) pass0 (pa_cons (pv 0) (pa_cons (pe_op g_add (pv 1) pe_int) pa_nil)))))
  pss_nil)
  (pss_one (ps_ret (pe_callB (g_min rfl) (by rfl) T.b_min (by decide +kernel) (pa_cons (pv 2) (pa_cons (pv 1) pa_nil))))))), ?_⟩
    walk_at "rd"
    refine ⟨p, 4, rfl, hp, by decide, fun r H1 p1 b1 r0 r1 => ?_⟩
    walk_at "rd"
    refine G.i_d (fun h1 => ?_) (fun h1 => ?_)
    · walk_at "rd"
      exact ⟨p, _, rfl, p1, by omega, fun r' H2 p2 b2 r0' r1' => k _ _ p2 (b1.trans b2) r0' (by omega)⟩
    · walk_at "rd"
      refine k _ _ p1 b1 ?_ ?_ <;> split <;> omega
theorem ok_l_number (T : Top K mg) : Cal P w K mg base CX0 2 "_law_number" ["pool"] sp_l_number := by
  refine def_ok T.f_l_number sc_l_number (fun _ _ _ _ _ _ us hl => match us, hl with | [_], _ => rfl) (fun vs H Q E h => ?_) (fun f cdv A outer s H vs Q E hr h => ?_)
  · obtain ⟨p, rfl, _⟩ := h
    rfl
  · obtain ⟨p, rfl, hp, k⟩ := h
    refine ⟨_, (pss_cons (ps_if (pt_cmpR g_eq (g_call (ok_l_draw T) (hr.mono (by decide)) (by rfl) pass0 (pa_cons (pv 0) (pa_cons pe_int pa_nil))) pe_int (nomark _))
  (pss_one (ps_ret (g_call (ok_l_draw T) (hr.mono (by decide)) (by rfl) pass0 (pa_cons (pv 0) (pa_cons pe_int pa_nil)))))
  pss_nil)
  (pss_one (ps_ret (g_call (ok_l_draw T) (hr.mono (by decide)) (by rfl) pass0 (pa_cons (pv 0) (pa_cons pe_int pa_nil)))))), ?_⟩
    walk_at "rd"
    refine ⟨p, 3, rfl, hp, by decide, fun r H1 p1 b1 r0 r1 => ?_⟩
    walk_at "rd"
    refine G.i_d (fun h1 => ?_) (fun h1 => ?_)
    · walk_at "rd"
      exact ⟨p, _, rfl, p1, by decide, fun r' H2 p2 b2 r0' r1' => k _ _ p2 (b1.trans b2) r0' (by omega)⟩
    · walk_at "rd"
      exact ⟨p, _, rfl, p1, by decide, fun r' H2 p2 b2 r0' r1' => k _ _ p2 (b1.trans b2) r0' (by omega)⟩
theorem ok_l_spend (T : Top K mg) : Cal P w K mg base CX0 1 "_law_spend" ["pool"] sp_l_spend := by
  refine def_ok T.f_l_spend sc_l_spend (fun _ _ _ _ _ _ us hl => match us, hl with | [_], _ => rfl) (fun vs H Q E h => ?_) (fun f cdv A outer s H vs Q E hr h => ?_)
  · obtain ⟨p, rfl, _⟩ := h
    rfl
  · obtain ⟨p, rfl, ⟨sc, a, b, c, d, e, ns, hp, hs, ha⟩, k⟩ := h
    have nsp : sc ≠ p := ne_pool hs hp
    refine ⟨_, (pss_cons (ps_asg (pe_op g_sub (pe_ix g_ix (pv 0) pe_int (fun _ _ => rfl)) pe_int) (pg_sub (pv 0) pe_int set_list))
  (pss_one (ps_ret (pe_cmpR g_ge (pe_ix g_ix (pv 0) pe_int (fun _ _ => rfl)) pe_int (nomark _))))), ?_⟩
    walk_at "rd"
    exact k _ _ ⟨sc, _, _, _, _, _, ns, upd_same, by rw [upd_ne nsp]; exact hs, ha⟩ (But.refl p H).upd
/-! ### two values that are the same data, to the depth n -/
theorem ok_l_same (T : Top K mg) : ∀ n, Cal P w K mg base CX0 n "_law_same" ["actual", "due"] (sp_l_same K n)
  | 0 => def_none T.f_l_same (fun _ _ _ _ _ _ us hl => match us, hl with | [_, _], _ => rfl) fun vs H Q E ⟨x, y, _, h, _⟩ => by cases h
  | n + 1 => by
    have IH := ok_l_same T n
    refine def_ok T.f_l_same sc_l_same (fun _ _ _ _ _ _ us hl => match us, hl with | [_, _], _ => rfl) (fun vs H Q E h => ?_) (fun f cdv A outer s H vs Q E hr h => ?_)
    · obtain ⟨x, y, rfl, _⟩ := h
      rfl
    · obtain ⟨x, y, rfl, h, k⟩ := h
      refine ⟨_, (pss_cons (ps_if (PW.pt (pw_or (pt_truth (pe_callB g_isi (by rfl) T.b_isinstance (by decide +kernel) (pa_cons (pv 1) (pa_cons (pe_bltn (v := .ty "tuple") (by rfl) T.b_tuple (by decide +kernel) rfl) pa_nil))) (by intro _; rfl)) (pw_or1 (pt_truth (pe_callB g_isi (by rfl) T.b_isinstance (by decide +kernel) (pa_cons (pv 1) (pa_cons (pe_bltn (v := .ty "list") (by rfl) T.b_list (by decide +kernel) rfl) pa_nil))) (by intro _; rfl)))))
  (pss_cons (ps_if (PW.pt (pw_or (pt_cmpR g_ne (pe_callB g_isi (by rfl) T.b_isinstance (by decide +kernel) (pa_cons (pv 1) (pa_cons (pe_bltn (v := .ty "tuple") (by rfl) T.b_tuple (by decide +kernel) rfl) pa_nil))) (pe_callB g_isi (by rfl) T.b_isinstance (by decide +kernel) (pa_cons (pv 0) (pa_cons (pe_bltn (v := .ty "tuple") (by rfl) T.b_tuple (by decide +kernel) rfl) pa_nil))) (nomark _)) (pw_or1 (pt_cmpR g_ne (pe_callB g_isi (by rfl) T.b_isinstance (by decide +kernel) (pa_cons (pv 1) (pa_cons (pe_bltn (v := .ty "list") (by rfl) T.b_list (by decide +kernel) rfl) pa_nil))) (pe_callB g_isi (by rfl) T.b_isinstance (by decide +kernel) (pa_cons (pv 0) (pa_cons (pe_bltn (v := .ty "list") (by rfl) T.b_list (by decide +kernel) rfl) pa_nil))) (nomark _)))))
    (pss_one (ps_ret pe_bl))
    pss_nil)
    (pss_cons (ps_if (pt_cmpR g_ne (pe_callB g_len (by rfl) T.b_len PySem.boot_len (pa_cons (pv 0) pa_nil)) (pe_callB g_len (by rfl) T.b_len PySem.boot_len (pa_cons (pv 1) pa_nil)) (nomark _))
    (pss_one (ps_ret pe_bl))
    pss_nil)
    (pss_cons (ps_for PassesOwn.never rfl (pi_range1 rfl T.b_range (pa_cons (pe_callB g_len (by rfl) T.b_len PySem.boot_len (pa_cons (pv 1) pa_nil)) pa_nil)) (pg_name (i := 2) sc_l_same.nd rfl (by first | exact Or.inl rfl | exact Or.inr rfl))
    (pss_one (ps_if (pt_not (pt_truth (g_call IH hr (by rfl) pass0 (pa_cons (pe_ix g_ix (pv 0) (pv 2) (fun _ _ => rfl)) (pa_cons (pe_ix g_ix (pv 1) (pv 2) (fun _ _ => rfl)) pa_nil))) (by intro _; rfl)))
      (pss_one (ps_ret pe_bl))
      pss_nil)))
    (pss_one (ps_ret pe_bl)))))
  pss_nil)
  (pss_cons (ps_if (PW.pt (pw_or (pt_cmpR g_is (pv 1) pe_non (nomark _)) (pw_or1 (pt_truth (pe_callB g_isi (by rfl) T.b_isinstance (by decide +kernel) (pa_cons (pv 1) (pa_cons (pe_bltn (v := .ty "bool") (by rfl) T.b_bool (by decide +kernel) rfl) pa_nil))) (by intro _; rfl)))))
  (pss_one (ps_ret (pe_andT (pe_cmpR g_eq (pe_cmpR g_is (pv 0) pe_non (nomark _)) (pe_cmpR g_is (pv 1) pe_non (nomark _)) (nomark _)) (pe_andT (pe_orT (pe_cmpR g_is (pv 1) pe_non (nomark _)) (pe_one (pe_callB g_isi (by rfl) T.b_isinstance (by decide +kernel) (pa_cons (pv 0) (pa_cons (pe_bltn (v := .ty "bool") (by rfl) T.b_bool (by decide +kernel) rfl) pa_nil))))) (pe_one (pe_cmpR g_eq (pv 0) (pv 1) (nomark _)))))))
  pss_nil)
  (pss_cons (ps_if (pt_truth (pe_callB g_isi (by rfl) T.b_isinstance (by decide +kernel) (pa_cons (pv 1) (pa_cons (pe_bltn (v := .ty "int") (by rfl) T.b_int (by decide +kernel) rfl) pa_nil))) (by intro _; rfl))
  (pss_one (ps_ret (pe_andT (pe_callB g_isi (by rfl) T.b_isinstance (by decide +kernel) (pa_cons (pv 0) (pa_cons (pe_bltn (v := .ty "int") (by rfl) T.b_int (by decide +kernel) rfl) pa_nil))) (pe_andT (pe_notT (pe_callB g_isi (by rfl) T.b_isinstance (by decide +kernel) (pa_cons (pv 0) (pa_cons (pe_bltn (v := .ty "bool") (by rfl) T.b_bool (by decide +kernel) rfl) pa_nil)))) (pe_one (pe_cmpR g_eq (pv 0) (pv 1) (nomark _)))))))
  pss_nil)
  (pss_one (ps_ret (pe_andT (pe_callB g_isi (by rfl) T.b_isinstance (by decide +kernel) (pa_cons (pv 0) (pa_cons (pe_bltn (v := .ty "str") (by rfl) T.b_str (by decide +kernel) rfl) pa_nil))) (pe_one (pe_cmpR g_eq (pv 0) (pv 1) (nomark _))))))))), ?_⟩
      cases h with
      | non => walk_at "rd"; exact k
      | bl b => walk_at "rd"; simpa using k
      | int i => walk_at "rd"; simpa using k
      | str z => walk_at "rd"; simpa using k
      | @lst _ a b xs ys h1 h2 hl hn hi =>
        walk_at "rd"
        refine G.l_range (n := (ys.length : Nat)) (by omega) (by omega) (fun i σ H' => ∃ v, σ = [some (.ref a), some (.ref b), v] ∧ H' = H) ⟨none, rfl, rfl⟩ ?_ ?_
        · rintro i σ' H' hlt ⟨v, rfl, rfl⟩
          have hx : i < xs.length := by omega
          have hy : i < ys.length := by omega
          have ax : atI xs (i : Int) = some xs[i] := atI_nat (List.getElem?_eq_getElem hx)
          have ay : atI ys (i : Int) = some ys[i] := atI_nat (List.getElem?_eq_getElem hy)
          walk_at "rd"
          refine ⟨_, _, rfl, hi i _ _ (List.getElem?_eq_getElem hx) (List.getElem?_eq_getElem hy), ?_⟩
          walk_at "rd"
          exact ⟨_, rfl, rfl⟩
        · rintro σ' H' ⟨v, rfl, rfl⟩
          walk_at "rd"
          exact k
      | @tup _ a b xs ys h1 h2 hl hn hi =>
        walk_at "rd"
        refine G.l_range (n := (ys.length : Nat)) (by omega) (by omega) (fun i σ H' => ∃ v, σ = [some (.ref a), some (.ref b), v] ∧ H' = H) ⟨none, rfl, rfl⟩ ?_ ?_
        · rintro i σ' H' hlt ⟨v, rfl, rfl⟩
          have hx : i < xs.length := by omega
          have hy : i < ys.length := by omega
          have ax : atI xs (i : Int) = some xs[i] := atI_nat (List.getElem?_eq_getElem hx)
          have ay : atI ys (i : Int) = some ys[i] := atI_nat (List.getElem?_eq_getElem hy)
          walk_at "rd"
          refine ⟨_, _, rfl, hi i _ _ (List.getElem?_eq_getElem hx) (List.getElem?_eq_getElem hy), ?_⟩
          walk_at "rd"
          exact ⟨_, rfl, rfl⟩
        · rintro σ' H' ⟨v, rfl, rfl⟩
          walk_at "rd"
          exact k
end

/-! ### the operators -/
def comb (s : Str) (a b : Int) : Int :=
  if s = "+" then (a + b) % 65536 else if s = "-" then (a - b) % 65536 else if s = "*" then (a * b) % 65536 else
  if s = "<" then (if a < b then 1 else 0) else if s = "=" then (if a = b then 1 else 0) else
  if b = 0 then 0 else if s = "/" then a / b else a % b
def isW (a : Int) : Prop := 0 ≤ a ∧ a < 65536
def sp_divided : Sp := fun vs H Q _ => ∃ (s : Str) (a b : Int), vs = [.str s, .int a, .int b] ∧ isW a ∧ isW b ∧ Q (.int (if b = 0 then 0 else if s = "/" then a / b else a % b)) H
def sp_combine : Sp := fun vs H Q _ => ∃ (s : Str) (a b : Int), vs = [.str s, .int a, .int b] ∧ isW a ∧ isW b ∧ Q (.int (comb s a b)) H
def sp_law (K : PySem.W.Frag) : Sp := fun vs H Q _ => ∃ (a : Addr) (ns : List Int), vs = [.ref a] ∧ SqL K H a (ns.map V.int) ∧ ns.length ≤ 63 ∧ ∀ H', Q (.bl true) H'
section
variable {P : Program} {w : World} {K : PySem.W.Frag} {mg : Str → Option Value} {base : Heap}
theorem ok_divided (T : Top K mg) : Cal P w K mg base CX0 1 "divided" ["sign", "left", "right"] sp_divided := by
  refine def_ok T.f_divided sc_divided (fun _ _ _ _ _ _ us hl => match us, hl with | [_, _, _], _ => rfl) (fun vs H Q E h => ?_) (fun f cdv A outer s H vs Q E hr h => ?_)
  · obtain ⟨s, a, b, rfl, _⟩ := h
    rfl
  · obtain ⟨z, a, b, rfl, ⟨ha, ha'⟩, ⟨hb, hb'⟩, k⟩ := h
    refine ⟨_, (pss_cons (ps_if (pt_cmpR g_eq (pv 2) pe_int (nomark _))
  (pss_one (ps_ret pe_int))
  pss_nil)
  (pss_cons (ps_if (pt_cmpR g_eq (pv 0) pe_str (nomark _))
  (pss_one (ps_ret (pe_op g_div (pv 1) (pv 2))))
  pss_nil)
  (pss_one (ps_ret (pe_op g_mod (pv 1) (pv 2)))))), ?_⟩
    walk_at "rd"
    refine G.i_d (fun h1 => ?_) (fun h1 => ?_)
    · walk_at "rd"; rw [if_pos h1] at k; exact k
    · rw [if_neg h1] at k
      walk_at "rd"
      refine G.i_d (fun h2 => ?_) (fun h2 => ?_)
      · walk_at "rd"; rw [if_pos h2] at k; exact k
      · walk_at "rd"; rw [if_neg h2] at k; exact k
theorem ok_combine (T : Top K mg) : Cal P w K mg base CX0 2 "combine" ["sign", "left", "right"] sp_combine := by
  refine def_ok T.f_combine sc_combine (fun _ _ _ _ _ _ us hl => match us, hl with | [_, _, _], _ => rfl) (fun vs H Q E h => ?_) (fun f cdv A outer s H vs Q E hr h => ?_)
  · obtain ⟨s, a, b, rfl, _⟩ := h
    rfl
  · obtain ⟨z, a, b, rfl, ⟨ha, ha'⟩, ⟨hb, hb'⟩, k⟩ := h
    refine ⟨_, (pss_cons (ps_if (pt_cmpR g_eq (pv 0) pe_str (nomark _))
  (pss_one (ps_ret (pe_op g_mod (pe_op g_add (pv 1) (pv 2)) (g_cint T.c_WORD_COUNT rfl))))
  pss_nil)
  (pss_cons (ps_if (pt_cmpR g_eq (pv 0) pe_str (nomark _))
  (pss_one (ps_ret (pe_op g_mod (pe_op g_sub (pv 1) (pv 2)) (g_cint T.c_WORD_COUNT rfl))))
  pss_nil)
  (pss_cons (ps_if (pt_cmpR g_eq (pv 0) pe_str (nomark _))
  (pss_one (ps_ret (pe_op g_mod (pe_op g_mul (pv 1) (pv 2)) (g_cint T.c_WORD_COUNT rfl))))
  pss_nil)
  (pss_cons (ps_if (pt_cmpR g_eq (pv 0) pe_str (nomark _))
  (pss_one (ps_ret (pe_ifExp (pt_cmpR g_lt (pv 1) (pv 2) (nomark _)) pe_int pe_int)))
  pss_nil)
  (pss_cons (ps_if (pt_cmpR g_eq (pv 0) pe_str (nomark _))
  (pss_one (ps_ret (pe_ifExp (pt_cmpR g_eq (pv 1) (pv 2) (nomark _)) pe_int pe_int)))
  pss_nil)
  (pss_one (ps_ret (g_call (ok_divided T) (hr.mono (by decide)) (by rfl) pass0 (pa_cons (pv 0) (pa_cons (pv 1) (pa_cons (pv 2) pa_nil))))))))))), ?_⟩
    unfold comb at k
    walk_at "rd"
    refine G.i_d (fun h1 => ?_) (fun h1 => ?_)
    · walk_at "rd"; rw [if_pos h1] at k; exact k
    · rw [if_neg h1] at k
      walk_at "rd"
      refine G.i_d (fun h1 => ?_) (fun h1 => ?_)
      · walk_at "rd"; rw [if_pos h1] at k; exact k
      · rw [if_neg h1] at k
        walk_at "rd"
        refine G.i_d (fun h1 => ?_) (fun h1 => ?_)
        · walk_at "rd"; rw [if_pos h1] at k; exact k
        · rw [if_neg h1] at k
          walk_at "rd"
          refine G.i_d (fun h1 => ?_) (fun h1 => ?_)
          · walk_at "rd"; rw [if_pos h1] at k
            refine G.i_d (fun h2 => ?_) (fun h2 => ?_)
            · rw [if_pos h2] at k; walk_at "rd"; exact k
            · rw [if_neg h2] at k; walk_at "rd"; exact k
          · rw [if_neg h1] at k
            walk_at "rd"
            refine G.i_d (fun h1 => ?_) (fun h1 => ?_)
            · walk_at "rd"; rw [if_pos h1] at k
              refine G.i_d (fun h2 => ?_) (fun h2 => ?_)
              · rw [if_pos h2] at k; walk_at "rd"; exact k
              · rw [if_neg h2] at k; walk_at "rd"; exact k
            · rw [if_neg h1] at k
              walk_at "rd"
              exact ⟨_, _, _, rfl, ⟨ha, ha'⟩, ⟨hb, hb'⟩, k⟩
theorem ok_l_combine (T : Top K mg) : Cal P w K mg base CX0 1 "_law_combine" ["sign", "a", "b"] sp_combine := by
  refine def_ok T.f_l_combine sc_l_combine (fun _ _ _ _ _ _ us hl => match us, hl with | [_, _, _], _ => rfl) (fun vs H Q E h => ?_) (fun f cdv A outer s H vs Q E hr h => ?_)
  · obtain ⟨s, a, b, rfl, _⟩ := h
    rfl
  · obtain ⟨z, a, b, rfl, ⟨ha, ha'⟩, ⟨hb, hb'⟩, k⟩ := h
    refine ⟨_, (pss_cons (ps_if (pt_cmpR g_eq (pv 0) pe_str (nomark _))
  (pss_one (ps_ret (pe_op g_sub (pe_op g_add (pv 1) (pv 2)) (pe_op g_mul pe_int (pe_callTy g_int (by rfl) T.b_int (by decide +kernel) (pa_cons (pe_cmpR g_gt (pe_op g_add (pv 1) (pv 2)) pe_int (nomark _)) pa_nil))))))
  pss_nil)
  (pss_cons (ps_if (pt_cmpR g_eq (pv 0) pe_str (nomark _))
  (pss_one (ps_ret (pe_op g_add (pe_op g_sub (pv 1) (pv 2)) (pe_op g_mul pe_int (pe_callTy g_int (by rfl) T.b_int (by decide +kernel) (pa_cons (pe_cmpR g_lt (pv 1) (pv 2) (nomark _)) pa_nil))))))
  pss_nil)
  (pss_cons (ps_if (pt_cmpR g_eq (pv 0) pe_str (nomark _))
  (pss_one (ps_ret (pe_op g_sub (pe_op g_mul (pv 1) (pv 2)) (pe_op g_mul (pe_op g_div (pe_op g_mul (pv 1) (pv 2)) pe_int) pe_int))))
  pss_nil)
  (pss_cons (ps_if (pt_cmpR g_eq (pv 0) pe_str (nomark _))
  (pss_one (ps_ret (pe_callTy g_int (by rfl) T.b_int (by decide +kernel) (pa_cons (pe_cmpR g_lt (pv 1) (pv 2) (nomark _)) pa_nil))))
  pss_nil)
  (pss_cons (ps_if (pt_cmpR g_eq (pv 0) pe_str (nomark _))
  (pss_one (ps_ret (pe_callTy g_int (by rfl) T.b_int (by decide +kernel) (pa_cons (pe_cmpR g_eq (pv 1) (pv 2) (nomark _)) pa_nil))))
  pss_nil)
  (pss_cons (ps_if (pt_cmpR g_eq (pv 2) pe_int (nomark _))
  (pss_one (ps_ret pe_int))
  pss_nil)
  (pss_cons (ps_set (i := 3) sc_l_combine.nd rfl (by first | exact Or.inl rfl | exact Or.inr rfl) (pe_op g_div (pv 1) (pv 2)))
  (pss_cons (ps_if (pt_cmpR g_eq (pv 0) pe_str (nomark _))
  (pss_one (ps_ret (pv 3)))
  pss_nil)
  (pss_one (ps_ret (pe_op g_sub (pv 1) (pe_op g_mul (pv 3) (pv 2))))))))))))), ?_⟩
    unfold comb at k
    have fin : ∀ {x y : Int}, Q (.int x) H → x = y → Q (.int y) H := fun q e => e ▸ q
    walk_at "rd"
    refine G.i_d (fun h1 => ?_) (fun h1 => ?_)
    · walk_at "rd"; rw [if_pos h1] at k
      refine fin k ?_
      by_cases h : 65535 < a + b
      · rw [decide_eq_true h]; simp only [if_true]; omega
      · rw [decide_eq_false h]; simp only [Bool.false_eq_true, if_false]; omega
    · rw [if_neg h1] at k
      walk_at "rd"
      refine G.i_d (fun h1 => ?_) (fun h1 => ?_)
      · walk_at "rd"; rw [if_pos h1] at k
        refine fin k ?_
        by_cases h : a < b
        · rw [decide_eq_true h]; simp only [if_true]; omega
        · rw [decide_eq_false h]; simp only [Bool.false_eq_true, if_false]; omega
      · rw [if_neg h1] at k
        walk_at "rd"
        refine G.i_d (fun h1 => ?_) (fun h1 => ?_)
        · walk_at "rd"; rw [if_pos h1] at k
          refine fin k ?_
          generalize a * b = m
          omega
        · rw [if_neg h1] at k
          walk_at "rd"
          refine G.i_d (fun h1 => ?_) (fun h1 => ?_)
          · walk_at "rd"; rw [if_pos h1] at k
            refine fin k ?_
            by_cases h : a < b
            · rw [decide_eq_true h, if_pos h]; rfl
            · rw [decide_eq_false h, if_neg h]; rfl
          · rw [if_neg h1] at k
            walk_at "rd"
            refine G.i_d (fun h1 => ?_) (fun h1 => ?_)
            · walk_at "rd"; rw [if_pos h1] at k
              refine fin k ?_
              by_cases h : a = b
              · rw [decide_eq_true h, if_pos h]; rfl
              · rw [decide_eq_false h, if_neg h]; rfl
            · rw [if_neg h1] at k
              walk_at "rd"
              refine G.i_d (fun h1 => ?_) (fun h1 => ?_)
              · walk_at "rd"; rw [if_pos h1] at k; exact k
              · rw [if_neg h1] at k
                walk_at "rd"
                refine G.i_d (fun h2 => ?_) (fun h2 => ?_)
                · walk_at "rd"; rw [if_pos h2] at k; exact k
                · walk_at "rd"; rw [if_neg h2] at k
                  refine fin k ?_
                  rw [Int.emod_def, Int.mul_comm]
theorem ok_law (T : Top K mg) : Cal P w K mg base CX0 4 "law" ["script"] (sp_law K) := by
  refine def_ok T.f_law sc_law (fun _ _ _ _ _ _ us hl => match us, hl with | [_], _ => rfl) (fun vs H Q E h => ?_) (fun f cdv A outer s H vs Q E hr h => ?_)
  · obtain ⟨a, ns, rfl, _⟩ := h
    rfl
  · obtain ⟨a, ns, rfl, hS, hl, k⟩ := h
    refine ⟨_, (pss_cons (ps_set (i := 1) sc_law.nd rfl (by first | exact Or.inl rfl | exact Or.inr rfl) (g_call (ok_l_pool T) (hr.mono (by decide)) (by rfl) pass0 (pa_cons (pv 0) (pa_cons pe_int pa_nil))))
  (pss_cons (ps_for PassesOwn.never rfl (pi_range1 rfl T.b_range (pa_cons (pe_op g_add pe_int (pe_op g_div (pe_callB g_len (by rfl) T.b_len PySem.boot_len (pa_cons (pv 0) pa_nil)) pe_int)) pa_nil)) (pg_name (i := 2) sc_law.nd rfl (by first | exact Or.inl rfl | exact Or.inr rfl))
  (pss_cons (ps_set (i := 3) sc_law.nd rfl (by first | exact Or.inl rfl | exact Or.inr rfl) (g_call (ok_l_number T) (hr.mono (by decide)) (by rfl) pass0 (pa_cons (pv 1) pa_nil)))
    (pss_cons (ps_set (i := 4) sc_law.nd rfl (by first | exact Or.inl rfl | exact Or.inr rfl) (pe_ix g_ix (pe_tup (pa_cons (g_call (ok_l_number T) (hr.mono (by decide)) (by rfl) pass0 (pa_cons (pv 1) pa_nil)) (pa_cons (pv 3) (pa_cons (pe_op g_sub pe_int (g_call (ok_l_draw T) (hr.mono (by decide)) (by rfl) pass0 (pa_cons (pv 1) (pa_cons pe_int pa_nil)))) (pa_cons (g_call (ok_l_draw T) (hr.mono (by decide)) (by rfl) pass0 (pa_cons (pv 1) (pa_cons pe_int pa_nil))) pa_nil))))) (g_call (ok_l_draw T) (hr.mono (by decide)) (by rfl) pass0 (pa_cons (pv 1) (pa_cons pe_int pa_nil))) (fun _ _ => rfl)))
    (pss_one (ps_for PassesOwn.never rfl (pi_tup (pe_tup (pa_cons pe_str (pa_cons pe_str (pa_cons pe_str (pa_cons pe_str (pa_cons pe_str (pa_cons pe_str (pa_cons pe_str pa_nil))))))))) (pg_name (i := 5) sc_law.nd rfl (by first | exact Or.inl rfl | exact Or.inr rfl))
    (pss_cons (ps_if (pt_not (pt_truth (g_call (ok_l_same T 1) (hr.mono (by decide)) (by rfl) pass0 (pa_cons (g_call (ok_combine T) (hr.mono (by decide)) (by rfl) pass0 (pa_cons (pv 5) (pa_cons (pv 3) (pa_cons (pv 4) pa_nil)))) (pa_cons (g_call (ok_l_combine T) (hr.mono (by decide)) (by rfl) pass0 (pa_cons (pv 5) (pa_cons (pv 3) (pa_cons (pv 4) pa_nil)))) pa_nil))) (by intro _; rfl)))
      (pss_one (ps_ret pe_bl))
      pss_nil)
      (pss_one (ps_if (pt_not (pt_truth (g_call (ok_l_same T 1) (hr.mono (by decide)) (by rfl) pass0 (pa_cons (g_call (ok_combine T) (hr.mono (by decide)) (by rfl) pass0 (pa_cons (pv 5) (pa_cons (pv 4) (pa_cons (pv 3) pa_nil)))) (pa_cons (g_call (ok_l_combine T) (hr.mono (by decide)) (by rfl) pass0 (pa_cons (pv 5) (pa_cons (pv 4) (pa_cons (pv 3) pa_nil)))) pa_nil))) (by intro _; rfl)))
      (pss_one (ps_ret pe_bl))
      pss_nil))))))))
  (pss_one (ps_ret pe_bl)))), ?_⟩
    walk_at "rd"
    refine ⟨a, ns, _, rfl, hS, fun p H1 p0 s1 hp => ?_⟩
    have hS1 := Same.seq s1 hS
    walk_at "rd"
    refine G.l_range (by omega) (by rw [List.length_map]; omega) (fun i σ H2 => ∃ v2 v3 v4 v5, σ = [some (.ref a), some (.ref p), v2, v3, v4, v5] ∧ PoolAt H2 p) ⟨none, none, none, none, rfl, hp⟩ ?_ ?_
    · rintro i σ' H' hlt ⟨v2, v3, v4, v5, rfl, hp⟩
      walk_at "rd"
      refine ⟨p, rfl, hp, fun x H2 hp b2 x0 x1 => ?_⟩
      walk_at "rd"
      refine ⟨p, rfl, hp, fun y1 H3 hp b3 y10 y11 => ?_⟩
      walk_at "rd"
      refine ⟨p, 4, rfl, hp, by decide, fun d1 H4 hp b4 d10 d11 => ?_⟩
      walk_at "rd"
      refine ⟨p, 3, rfl, hp, by decide, fun d2 H5 hp b5 d20 d21 => ?_⟩
      walk_at "rd"
      refine ⟨by walk_at "sz", fun q hq => ?_⟩
      have npq : p ≠ q := hp.ne hq
      walk_at "rd"
      refine ⟨p, 4, rfl, hp.laid hq, by decide, fun d3 H6 hp b6 d30 d31 => ?_⟩
      have h6 : H6 q = some (.tup [V.int y1, V.int x, V.int (65535 - d1), V.int d2]) := by rw [b6 q npq.symm, upd_same]
      obtain ⟨y, hy, y0, yl⟩ : ∃ y : Int, atI [V.int y1, V.int x, V.int (65535 - d1), V.int d2] d3 = some (.int y) ∧ 0 ≤ y ∧ y < 65536 := by
        have e : d3 = 0 ∨ d3 = 1 ∨ d3 = 2 ∨ d3 = 3 := by omega
        rcases e with rfl | rfl | rfl | rfl
        · exact ⟨y1, rfl, by omega, by omega⟩
        · exact ⟨x, rfl, by omega, by omega⟩
        · exact ⟨65535 - d1, rfl, by omega, by omega⟩
        · exact ⟨d2, rfl, by omega, by omega⟩
      walk_at "rd"
      refine ⟨by walk_at "sz", fun t ht => ?_⟩
      refine G.l_tup (SqT.of upd_same) (fun j σ H7 => ∃ v5, σ = [some (.ref a), some (.ref p), some (.int i), some (.int x), some (.int y), v5] ∧ H7 = upd H6 t (.tup [.str "+", .str "-", .str "*", .str "/", .str "mod", .str "<", .str "="])) ⟨v5, rfl, rfl⟩ ?_ ?_ ?_
      · rintro j σ H7 ⟨v, rfl, rfl⟩
        exact SqT.of upd_same
      · rintro j z σ H7 hz ⟨v, rfl, rfl⟩
        obtain ⟨sg, rfl⟩ : ∃ sg, z = V.str sg := by
          have hm := List.mem_of_getElem? hz
          simp only [List.mem_cons, List.not_mem_nil, or_false] at hm
          rcases hm with rfl | rfl | rfl | rfl | rfl | rfl | rfl <;> exact ⟨_, rfl⟩
        walk_at "rd"
        refine ⟨sg, x, y, rfl, ⟨x0, x1⟩, ⟨y0, yl⟩, ?_⟩
        walk_at "rd"
        refine ⟨sg, x, y, rfl, ⟨x0, x1⟩, ⟨y0, yl⟩, ?_⟩
        walk_at "rd"
        refine ⟨_, _, rfl, .int _, ?_⟩
        walk_at "rd"
        refine ⟨sg, y, x, rfl, ⟨y0, yl⟩, ⟨x0, x1⟩, ?_⟩
        walk_at "rd"
        refine ⟨sg, y, x, rfl, ⟨y0, yl⟩, ⟨x0, x1⟩, ?_⟩
        walk_at "rd"
        refine ⟨_, _, rfl, .int _, ?_⟩
        walk_at "rd"
        exact ⟨_, rfl, rfl⟩
      · rintro σ' H' ⟨v, rfl, rfl⟩
        exact ⟨_, _, _, _, rfl, hp.laid ht⟩
    · rintro σ' H' ⟨v2, v3, v4, v5, rfl, hp⟩
      walk_at "rd"
      exact k _
end
theorem top_mk {K : PySem.W.Frag} {h : Heap} {mg : Str → Option Value} (X : K.In h) (G : h.Ns mainGlobals mg)
    {f1 : Addr} {od1 an1 : Option Addr} {sl1 : Array (Option Value)} {oc1 kV1 dc1 pm1 cd1 ct1 : Value}
    (a1 : PySem.W.nsIn K mainGlobals "combine" = some (some (.ref f1))) (l1 : K.lookup f1 = some ⟨oc1, od1, .func (PySem.W.fnOf "combine" "combine" (defArgs s_combine) (defBody s_combine) (defScope s_combine) .none kV1 dc1 pm1 an1 cd1 ct1), sl1⟩) (c1 : PySem.W.codeIn K cd1 "combine" = true) (k1 : PySem.W.keepIn K (.ref f1) = true)
    {f2 : Addr} {od2 an2 : Option Addr} {sl2 : Array (Option Value)} {oc2 kV2 dc2 pm2 cd2 ct2 : Value}
    (a2 : PySem.W.nsIn K mainGlobals "divided" = some (some (.ref f2))) (l2 : K.lookup f2 = some ⟨oc2, od2, .func (PySem.W.fnOf "divided" "divided" (defArgs s_divided) (defBody s_divided) (defScope s_divided) .none kV2 dc2 pm2 an2 cd2 ct2), sl2⟩) (c2 : PySem.W.codeIn K cd2 "divided" = true) (k2 : PySem.W.keepIn K (.ref f2) = true)
    {f3 : Addr} {od3 an3 : Option Addr} {sl3 : Array (Option Value)} {oc3 kV3 dc3 pm3 cd3 ct3 : Value}
    (a3 : PySem.W.nsIn K mainGlobals "_law_pool" = some (some (.ref f3))) (l3 : K.lookup f3 = some ⟨oc3, od3, .func (PySem.W.fnOf "_law_pool" "_law_pool" (defArgs s_l_pool) (defBody s_l_pool) (defScope s_l_pool) .none kV3 dc3 pm3 an3 cd3 ct3), sl3⟩) (c3 : PySem.W.codeIn K cd3 "_law_pool" = true) (k3 : PySem.W.keepIn K (.ref f3) = true)
    {f4 : Addr} {od4 an4 : Option Addr} {sl4 : Array (Option Value)} {oc4 kV4 dc4 pm4 cd4 ct4 : Value}
    (a4 : PySem.W.nsIn K mainGlobals "_law_draw" = some (some (.ref f4))) (l4 : K.lookup f4 = some ⟨oc4, od4, .func (PySem.W.fnOf "_law_draw" "_law_draw" (defArgs s_l_draw) (defBody s_l_draw) (defScope s_l_draw) .none kV4 dc4 pm4 an4 cd4 ct4), sl4⟩) (c4 : PySem.W.codeIn K cd4 "_law_draw" = true) (k4 : PySem.W.keepIn K (.ref f4) = true)
    {f5 : Addr} {od5 an5 : Option Addr} {sl5 : Array (Option Value)} {oc5 kV5 dc5 pm5 cd5 ct5 : Value}
    (a5 : PySem.W.nsIn K mainGlobals "_law_spend" = some (some (.ref f5))) (l5 : K.lookup f5 = some ⟨oc5, od5, .func (PySem.W.fnOf "_law_spend" "_law_spend" (defArgs s_l_spend) (defBody s_l_spend) (defScope s_l_spend) .none kV5 dc5 pm5 an5 cd5 ct5), sl5⟩) (c5 : PySem.W.codeIn K cd5 "_law_spend" = true) (k5 : PySem.W.keepIn K (.ref f5) = true)
    {f6 : Addr} {od6 an6 : Option Addr} {sl6 : Array (Option Value)} {oc6 kV6 dc6 pm6 cd6 ct6 : Value}
    (a6 : PySem.W.nsIn K mainGlobals "_law_few" = some (some (.ref f6))) (l6 : K.lookup f6 = some ⟨oc6, od6, .func (PySem.W.fnOf "_law_few" "_law_few" (defArgs s_l_few) (defBody s_l_few) (defScope s_l_few) .none kV6 dc6 pm6 an6 cd6 ct6), sl6⟩) (c6 : PySem.W.codeIn K cd6 "_law_few" = true) (k6 : PySem.W.keepIn K (.ref f6) = true)
    {f7 : Addr} {od7 an7 : Option Addr} {sl7 : Array (Option Value)} {oc7 kV7 dc7 pm7 cd7 ct7 : Value}
    (a7 : PySem.W.nsIn K mainGlobals "_law_number" = some (some (.ref f7))) (l7 : K.lookup f7 = some ⟨oc7, od7, .func (PySem.W.fnOf "_law_number" "_law_number" (defArgs s_l_number) (defBody s_l_number) (defScope s_l_number) .none kV7 dc7 pm7 an7 cd7 ct7), sl7⟩) (c7 : PySem.W.codeIn K cd7 "_law_number" = true) (k7 : PySem.W.keepIn K (.ref f7) = true)
    {f8 : Addr} {od8 an8 : Option Addr} {sl8 : Array (Option Value)} {oc8 kV8 dc8 pm8 cd8 ct8 : Value}
    (a8 : PySem.W.nsIn K mainGlobals "_law_same" = some (some (.ref f8))) (l8 : K.lookup f8 = some ⟨oc8, od8, .func (PySem.W.fnOf "_law_same" "_law_same" (defArgs s_l_same) (defBody s_l_same) (defScope s_l_same) .none kV8 dc8 pm8 an8 cd8 ct8), sl8⟩) (c8 : PySem.W.codeIn K cd8 "_law_same" = true) (k8 : PySem.W.keepIn K (.ref f8) = true)
    {f9 : Addr} {od9 an9 : Option Addr} {sl9 : Array (Option Value)} {oc9 kV9 dc9 pm9 cd9 ct9 : Value}
    (a9 : PySem.W.nsIn K mainGlobals "_law_combine" = some (some (.ref f9))) (l9 : K.lookup f9 = some ⟨oc9, od9, .func (PySem.W.fnOf "_law_combine" "_law_combine" (defArgs s_l_combine) (defBody s_l_combine) (defScope s_l_combine) .none kV9 dc9 pm9 an9 cd9 ct9), sl9⟩) (c9 : PySem.W.codeIn K cd9 "_law_combine" = true) (k9 : PySem.W.keepIn K (.ref f9) = true)
    {f10 : Addr} {od10 an10 : Option Addr} {sl10 : Array (Option Value)} {oc10 kV10 dc10 pm10 cd10 ct10 : Value}
    (a10 : PySem.W.nsIn K mainGlobals "law" = some (some (.ref f10))) (l10 : K.lookup f10 = some ⟨oc10, od10, .func (PySem.W.fnOf "law" "law" (defArgs s_law) (defBody s_law) (defScope s_law) .none kV10 dc10 pm10 an10 cd10 ct10), sl10⟩) (c10 : PySem.W.codeIn K cd10 "law" = true) (k10 : PySem.W.keepIn K (.ref f10) = true)
    {t_WORD_COUNT : Tok} (c_WORD_COUNT : PySem.W.nsIn K mainGlobals "WORD_COUNT" = some (some (.int 65536 t_WORD_COUNT)))
    (b_bool : PySem.W.nsIn K mainGlobals "bool" = some none)
    (b_int : PySem.W.nsIn K mainGlobals "int" = some none)
    (b_isinstance : PySem.W.nsIn K mainGlobals "isinstance" = some none)
    (b_len : PySem.W.nsIn K mainGlobals "len" = some none)
    (b_list : PySem.W.nsIn K mainGlobals "list" = some none)
    (b_min : PySem.W.nsIn K mainGlobals "min" = some none)
    (b_range : PySem.W.nsIn K mainGlobals "range" = some none)
    (b_str : PySem.W.nsIn K mainGlobals "str" = some none)
    (b_tuple : PySem.W.nsIn K mainGlobals "tuple" = some none) : Top K mg :=
  ⟨⟨f1, _, PySem.W.mg_of X G a1, fun_mk (st := s_combine) l1 c1 k1⟩,
   ⟨f2, _, PySem.W.mg_of X G a2, fun_mk (st := s_divided) l2 c2 k2⟩,
   ⟨f3, _, PySem.W.mg_of X G a3, fun_mk (st := s_l_pool) l3 c3 k3⟩,
   ⟨f4, _, PySem.W.mg_of X G a4, fun_mk (st := s_l_draw) l4 c4 k4⟩,
   ⟨f5, _, PySem.W.mg_of X G a5, fun_mk (st := s_l_spend) l5 c5 k5⟩,
   ⟨f6, _, PySem.W.mg_of X G a6, fun_mk (st := s_l_few) l6 c6 k6⟩,
   ⟨f7, _, PySem.W.mg_of X G a7, fun_mk (st := s_l_number) l7 c7 k7⟩,
   ⟨f8, _, PySem.W.mg_of X G a8, fun_mk (st := s_l_same) l8 c8 k8⟩,
   ⟨f9, _, PySem.W.mg_of X G a9, fun_mk (st := s_l_combine) l9 c9 k9⟩,
   ⟨f10, _, PySem.W.mg_of X G a10, fun_mk (st := s_law) l10 c10 k10⟩,
   ⟨_, PySem.W.mg_of X G c_WORD_COUNT⟩,
   PySem.W.mg_none_of X G b_bool,
   PySem.W.mg_none_of X G b_int,
   PySem.W.mg_none_of X G b_isinstance,
   PySem.W.mg_none_of X G b_len,
   PySem.W.mg_none_of X G b_list,
   PySem.W.mg_none_of X G b_min,
   PySem.W.mg_none_of X G b_range,
   PySem.W.mg_none_of X G b_str,
   PySem.W.mg_none_of X G b_tuple⟩
theorem walk {l : PySem.W.OpenLaw} {q : Program} {loose : List Str} {XP : (Str → Option Value) → Heap → Prop} {YP : World → Heap → Prop} {d : DefRec} {K : Params → PySem.W.Frag} (hn : l.most = some 63) (hdf : d.params.defaults = []) (hd : d.name = "law")
    (hY : ∀ (w : World) (h : Heap), YP w h → (K w.params).In h)
    (F : ∀ (w : World) (mg : Str → Option Value) (h : Heap), (K w.params).In h → h.Ns mainGlobals mg → Top (K w.params) mg) :
    PySem.W.WalkO q loose XP YP l.row.toRowW d [] (fun f vs => PySem.call f vs) :=
  L2.walk_of (n := 63) (k := 4) (x := "script") (CX := fun _ => CX0) (sp := fun w => sp_law (K w.params)) hn (by decide) hdf ⟨rfl, by decide, by decide⟩ hY
    (fun w mg fa h KX G hfa => by
      have T := F w mg h KX G
      obtain ⟨f, fd, m, Fn⟩ := T.f_law
      have e : fa = f := by
        rw [hd, m] at hfa
        injection hfa with e
        injection e with e
        exact e.symm
      subst e
      refine ⟨fd, fun s v => ?_, fun base _ _ => (ok_law (P := l.prog) (w := w) (base := base) T).at_ m Fn⟩
      obtain ⟨oc, od, kV, doc, pm, an, cdv, ct, osl, rfl, _, _⟩ := Fn.ex
      exact .of_eq rfl)
    (fun _ _ a ns hl _ hS => ⟨a, ns, rfl, hS, hl, fun _ => rfl⟩) fun _ _ _ _ _ z => z
end L
open PySem PySem.W PyProof.Rows in
set_option maxRecDepth 100000 in
set_option maxHeartbeats 0 in
theorem PySem.Challenge.cw_blameless_k00_operators_on_words_holds : PySem.Challenge.rw_blameless_k00_operators_on_words.Holds := by
  w_on; o_law; k_head; (case hw => w_witness2)
  k_fill
  refine L.walk (l := PySem.Challenge.rw_blameless_k00_operators_on_words) rfl rfl rfl (fun w h Y => PySem.W.kIn_of Y) ?F
  case F =>
    intro w mg h KX G
    refine' L.top_mk KX G ?a1 ?l1 ?c1 ?k1 ?a2 ?l2 ?c2 ?k2 ?a3 ?l3 ?c3 ?k3 ?a4 ?l4 ?c4 ?k4 ?a5 ?l5 ?c5 ?k5 ?a6 ?l6 ?c6 ?k6 ?a7 ?l7 ?c7 ?k7 ?a8 ?l8 ?c8 ?k8 ?a9 ?l9 ?c9 ?k9 ?a10 ?l10 ?c10 ?k10 ?c_WORD_COUNT ?b_bool ?b_int ?b_isinstance ?b_len ?b_list ?b_min ?b_range ?b_str ?b_tuple
    (case a1 => k_is)
    (case l1 => k_is)
    (case c1 => k_is)
    (case k1 => k_is)
    (case a2 => k_is)
    (case l2 => k_is)
    (case c2 => k_is)
    (case k2 => k_is)
    (case a3 => k_is)
    (case l3 => k_is)
    (case c3 => k_is)
    (case k3 => k_is)
    (case a4 => k_is)
    (case l4 => k_is)
    (case c4 => k_is)
    (case k4 => k_is)
    (case a5 => k_is)
    (case l5 => k_is)
    (case c5 => k_is)
    (case k5 => k_is)
    (case a6 => k_is)
    (case l6 => k_is)
    (case c6 => k_is)
    (case k6 => k_is)
    (case a7 => k_is)
    (case l7 => k_is)
    (case c7 => k_is)
    (case k7 => k_is)
    (case a8 => k_is)
    (case l8 => k_is)
    (case c8 => k_is)
    (case k8 => k_is)
    (case a9 => k_is)
    (case l9 => k_is)
    (case c9 => k_is)
    (case k9 => k_is)
    (case a10 => k_is)
    (case l10 => k_is)
    (case c10 => k_is)
    (case k10 => k_is)
    (case c_WORD_COUNT => k_is)
    (case b_bool => k_is)
    (case b_int => k_is)
    (case b_isinstance => k_is)
    (case b_len => k_is)
    (case b_list => k_is)
    (case b_min => k_is)
    (case b_range => k_is)
    (case b_str => k_is)
    (case b_tuple => k_is)
