import PyProof.Rows.All
import Wide.All
import OpenK.AllK
import Wide.FinOn
import HandS.ForMost
import HandS.IsInst
import HandS.TupAny
import HandS.Flow
import HandS.Walk
import HandS.Comp
import PySem.Challenge.RW_blameless_k01_words_and_numbers
set_option Elab.async false
set_option linter.all false
set_option maxRecDepth 100000
set_option maxHeartbeats 4000000
/-! G: rules by kind of value, and the steps of a reading (own work). -/
namespace G
open PySem PySem.Spec PyProof.Rows L2

/-! ### operators by kind -/
section
variable {X : Cx}
def gAddS : R2 := fun x y H Q => ∃ i j, x = .str i ∧ y = .str j ∧ i.length + j.length ≤ sizeLine ∧ Q (.str (i ++ j)) H
def gAdd (K : PySem.W.Frag) : R2 := fun x y H Q => rI0 (fun i j => .int (i + j)) x y H Q ∨ gAddS x y H Q ∨ rCat x y H Q ∨ rCatA K x y H Q
theorem g_add {K : PySem.W.Frag} (hK : X.K = K := by rfl) : OpR X (binaryOp .Add) (gAdd K) := by subst hK; exact op_add.or (op_add_str.or (op_cat.or op_catA))
def gSubI : R2 := rI0 fun i j => .int (i - j)
theorem g_sub : OpR X (binaryOp .Sub) gSubI := op_sub
def gMul : R2 := rI CMul fun i j => .int (i * j)
theorem g_mul : OpR X (binaryOp .Mult) gMul := op_mul
def gDiv : R2 := rI CDiv fun i j => .int (i / j)
theorem g_div : OpR X (binaryOp .FloorDiv) gDiv := op_fdiv
def gMod : R2 := rI (fun _ j => 0 < j) fun i j => .int (i % j)
theorem g_mod : OpR X (binaryOp .Mod) gMod := op_mod
def gPow : R2 := rI CPow fun i j => .int (i ^ j.toNat)
theorem g_pow : OpR X (binaryOp .Pow) gPow := op_pow
def gLtS : R2 := fun x y H Q => ∃ i j, x = .str i ∧ y = .str j ∧ Q (.bl (decide (i.cps.toList < j.cps.toList))) H
def gLt : R2 := fun x y H Q => rI0 (fun i j => .bl (decide (i < j))) x y H Q ∨ gLtS x y H Q
theorem g_lt : OpR X (compareOp .Lt) gLt := op_lt.or op_lt_str
def gLeS : R2 := fun x y H Q => ∃ i j, x = .str i ∧ y = .str j ∧ Q (.bl (!decide (j.cps.toList < i.cps.toList))) H
def gLe : R2 := fun x y H Q => rI0 (fun i j => .bl (decide (i ≤ j))) x y H Q ∨ gLeS x y H Q
theorem g_le : OpR X (compareOp .LtE) gLe := op_le.or op_le_str
def gGt : R2 := rI0 fun i j => .bl (decide (j < i))
theorem g_gt : OpR X (compareOp .Gt) gGt := op_gt
def gGe : R2 := rI0 fun i j => .bl (decide (j ≤ i))
theorem g_ge : OpR X (compareOp .GtE) gGe := op_ge
theorem g_eq : OpR X (compareOp .Eq) rEq := op_eq
theorem g_ne : OpR X (compareOp .NotEq) rNe := op_ne
def gIs : R2 := fun x y H Q => y = .non ∧ Q (.bl (decide (x = .non))) H
theorem g_is : OpR X (compareOp .Is) gIs := op_isN
def gIsNot : R2 := fun x y H Q => y = .non ∧ Q (.bl (!decide (x = .non))) H
theorem g_isnot : OpR X (compareOp .IsNot) gIsNot := op_notN
def gInS : R2 := fun x y H Q => ∃ (c : Nat) (z : Str), x = .str ⟨#[c]⟩ ∧ y = .str z ∧ Q (.bl (decide (c ∈ z.cps.toList))) H
def gIn (K : PySem.W.Frag) : R2 := fun x y H Q => rIn K false x y H Q ∨ gInS x y H Q
theorem g_in {K : PySem.W.Frag} (hK : X.K = K := by rfl) : OpR X (compareOp .In) (gIn K) := by subst hK; exact op_in_seq.or op_in_sign
def gNotInS : R2 := fun x y H Q => ∃ (c : Nat) (z : Str), x = .str ⟨#[c]⟩ ∧ y = .str z ∧ Q (.bl (!decide (c ∈ z.cps.toList))) H
def gNotIn (K : PySem.W.Frag) : R2 := fun x y H Q => rIn K true x y H Q ∨ gNotInS x y H Q
theorem g_notin {K : PySem.W.Frag} (hK : X.K = K := by rfl) : OpR X (compareOp .NotIn) (gNotIn K) := by subst hK; exact op_notIn_seq.or op_notIn_sign
def gSl (K : PySem.W.Frag) : V → Option Int → Option Int → Hp → VK → Prop := fun x lo hi H Q => rSlL K x lo hi H Q ∨ rSlA K x lo hi H Q ∨ rSlS x lo hi H Q
theorem g_sl {K : PySem.W.Frag} (hK : X.K = K := by rfl) : SlR X (gSl K) := by subst hK; exact sl_list.or (sl_tupA.or sl_str)
theorem g_ix {K : PySem.W.Frag} (hK : X.K = K := by rfl) : IxR X (rIx K) := by subst hK; exact ix_seq
/-! calls -/
def gLen (K : PySem.W.Frag) : List V → Hp → VK → Prop := fun xs H Q => ∃ x n, xs = [x] ∧ LenV K x H n ∧ Q (.int (n : Nat)) H
theorem g_len {K : PySem.W.Frag} (hK : X.K = K := by rfl) : CallR X (.builtin "len") (gLen K) := by subst hK; exact call_len
def gIntN : List V → Hp → VK → Prop := fun xs H Q => (∃ i, xs = [.int i] ∧ Q (.int i) H) ∨ ∃ k, xs = [.bl k] ∧ Q (.int (if k then 1 else 0)) H
def gIntS : List V → Hp → VK → Prop := fun xs H Q => ∃ a n, xs = [.str a] ∧ PySem.intText? a = some n ∧ a.length ≤ 640 ∧ Q (.int n) H
def gInt : List V → Hp → VK → Prop := fun xs H Q => gIntN xs H Q ∨ gIntS xs H Q
theorem g_int : CallR X (.type "int") gInt := call_int1.or call_int_str
def gStr : List V → Hp → VK → Prop := fun xs H Q => ∃ i : Int, xs = [.int i] ∧ i.natAbs.log2 < 1920 ∧ Q (.str (toString i)) H
theorem g_str : CallR X (.type "str") gStr := call_str_int
def gMin : List V → Hp → VK → Prop := fun xs H Q => ∃ i j, xs = [.int i, .int j] ∧ Q (.int (if j < i then j else i)) H
theorem g_min (hc : X.calm = true) : CallR X (.builtin "min") gMin := call_min2 hc
def gList (K : PySem.W.Frag) : List V → Hp → VK → Prop := fun xs H Q => ∃ p ys, xs = [.ref p] ∧ (SqL K H p ys ∨ SqT K H p ys) ∧ ∀ l, H l = none → Q (.ref l) (upd H l (.lst ys))
theorem g_list {K : PySem.W.Frag} (hK : X.K = K := by rfl) : CallR X (.type "list") (gList K) := by subst hK; exact call_list_of
def gTupl (K : PySem.W.Frag) : List V → Hp → VK → Prop := fun xs H Q => ∃ a ys, xs = [.ref a] ∧ ((SqL K H a ys ∧ ∀ l, H l = none → Q (.ref l) (upd H l (.tup ys))) ∨ (SqT K H a ys ∧ Q (.ref a) H))
theorem g_tup {K : PySem.W.Frag} (hK : X.K = K := by rfl) : CallR X (.type "tuple") (gTupl K) := by subst hK; exact call_tuple_of
def gOrd : List V → Hp → VK → Prop := fun xs H Q => ∃ x : Str, xs = [.str x] ∧ x.length = 1 ∧ Q (.int (x.cps.getD 0 0 : Nat)) H
theorem g_ord : CallR X (.builtin "ord") gOrd := call_ord
theorem g_all (hc : X.calm = true) {K : PySem.W.Frag} (hK : X.K = K := by rfl) : CallR X (.builtin "all") (rAll K) := by subst hK; exact cr_all hc
theorem g_any (hc : X.calm = true) {K : PySem.W.Frag} (hK : X.K = K := by rfl) : CallR X (.builtin "any") (rAny K) := by subst hK; exact cr_any hc
def gJoin (K : PySem.W.Frag) : V → List V → Hp → VK → Prop := fun x xs H Q => ∃ a p, ∃ ys : List Str, x = .str a ∧ xs = [.ref p] ∧ (SqL K H p (ys.map V.str) ∨ SqT K H p (ys.map V.str)) ∧ (ys.map (·.length)).sum + ys.length * a.length ≤ 16777216 ∧ Q (.str (Txt.join a ys)) H
theorem g_join {K : PySem.W.Frag} (hK : X.K = K := by rfl) : MtR X "str.join" (gJoin K) := by subst hK; exact mt_join
def gSplit : V → List V → Hp → VK → Prop := fun x xs H Q => ∃ a b, x = .str a ∧ xs = [.str b] ∧ (b.length == 0) = false ∧ a.length + 2 ≤ sizeLine ∧ rNewStrs (Txt.split a b) H Q
theorem g_split : MtR X "str.split" gSplit := mt_split
def gIsi (K : PySem.W.Frag) : List V → Hp → VK → Prop := fun xs H Q => rIsi K xs H Q ∨ rIsiT K xs H Q
theorem g_isi {K : PySem.W.Frag} (hK : X.K = K := by rfl) : CallR X (.builtin "isinstance") (gIsi K) := by subst hK; exact call_isi.or call_isiT
end

section
variable {X : Cx} {K : PySem.W.Frag} {a b : Expr} {ta tb : TE} {rest : List Expr} {pos : Pos}
theorem g_andT (ha : PE X a ta) (hb : PE X (.BoolOp .And (b :: rest) pos) tb) (hK : X.K = K := by rfl) : PE X (.BoolOp .And (a :: b :: rest) pos) (tAndT K ta tb) := by subst hK; exact pe_andT ha hb
theorem g_orT (ha : PE X a ta) (hb : PE X (.BoolOp .Or (b :: rest) pos) tb) (hK : X.K = K := by rfl) : PE X (.BoolOp .Or (a :: b :: rest) pos) (tOrT K ta tb) := by subst hK; exact pe_orT ha hb
theorem g_notT (ha : PE X a ta) (hK : X.K = K := by rfl) : PE X (.UnaryOp .Not a pos) (tNotT K ta) := by subst hK; exact pe_notT ha
theorem bm_K {X : Cx} {K : PySem.W.Frag} {T : String} {e : Expr} {to : TE} {t : TA} {r : V → List V → Hp → VK → Prop} (h : PE X e (tBM X.K T r to t)) (hK : X.K = K := by rfl) : PE X e (tBM K T r to t) := by subst hK; exact h
theorem bm0_K {X : Cx} {K : PySem.W.Frag} {T : String} {e : Expr} {to : TE} {r : V → List V → Hp → VK → Prop} (h : PE X e (tBM0 X.K T r to)) (hK : X.K = K := by rfl) : PE X e (tBM0 K T r to) := by subst hK; exact h
theorem ptup_K {X : Cx} {K : PySem.W.Frag} {e : Expr} {t : TGs} {n : Nat} (h : PG X e (gTup X.K n t)) (hK : X.K = K := by rfl) : PG X e (gTup K n t) := by subst hK; exact h
theorem fld_K {X : Cx} {K : PySem.W.Frag} {e : Expr} {ta : TE} {f : Str} (h : PE X e (tFld X.K ta f)) (hK : X.K = K := by rfl) : PE X e (tFld K ta f) := by subst hK; exact h
theorem sfld_K {X : Cx} {K : PySem.W.Frag} {st : Stmt} {ta tv : TE} {f : Str} (h : PS X st (sFld X.K ta tv f)) (hK : X.K = K := by rfl) : PS X st (sFld K ta tv f) := by subst hK; exact h
def tTr (K : PySem.W.Frag) (ta : TE) : TT := fun σ H Q => ta σ H fun x H' => ∃ k, TruV K x H' k ∧ Q k H'
theorem g_truth (ha : PE X a ta) (he : ∀ whole, isTrue a X.env whole = (do let v ← whole; standAt a.pos; holding [v] (truthy v))) (hK : X.K = K := by rfl) : PT X a (tTr K ta) := by subst hK; exact pt_truth ha he
end
/-! ### a cut behind a statement: a word of the slots and the heap -/
def tCut (t u : TS) : TS := fun D σ H => ∃ W : L2.St → Hp → Prop, t { D with nx := W } σ H ∧ ∀ σ' H', W σ' H' → u D σ' H'
theorem pss_cut {X : Cx} {st : Stmt} {rest : List Stmt} {t u : TS} (h1 : PS X st t) (h2 : PSs X rest u) : PSs X (st :: rest) (tCut t u) := by
  constructor
  intro pins s σ H D I ⟨W, a, b⟩
  apply wpAny_execs_cons
  apply thn (h1.run pins s σ H _ I a)
  intro f s1 q
  cases f with
  | next =>
    obtain ⟨σ', H', I', q⟩ := q
    exact h2.run pins s1 σ' H' D I' (b σ' H' q)
  | ret v => exact q
  | brk => exact q
  | cont => exact q

theorem kit_N_tuple : kitB "NoneType" "tuple" = some false := by decide +kernel
theorem kit_N_list : kitB "NoneType" "list" = some false := by decide +kernel
theorem kit_N_bool : kitB "NoneType" "bool" = some false := by decide +kernel
theorem kit_N_int : kitB "NoneType" "int" = some false := by decide +kernel
theorem kit_N_str : kitB "NoneType" "str" = some false := by decide +kernel
theorem kit_B_tuple : kitB "bool" "tuple" = some false := by decide +kernel
theorem kit_B_list : kitB "bool" "list" = some false := by decide +kernel
theorem kit_B_bool : kitB "bool" "bool" = some true := by decide +kernel
theorem kit_B_int : kitB "bool" "int" = some true := by decide +kernel
theorem kit_B_str : kitB "bool" "str" = some false := by decide +kernel
theorem kit_I_tuple : kitB "int" "tuple" = some false := by decide +kernel
theorem kit_I_list : kitB "int" "list" = some false := by decide +kernel
theorem kit_I_bool : kitB "int" "bool" = some false := by decide +kernel
theorem kit_I_int : kitB "int" "int" = some true := by decide +kernel
theorem kit_I_str : kitB "int" "str" = some false := by decide +kernel
theorem kit_S_tuple : kitB "str" "tuple" = some false := by decide +kernel
theorem kit_S_list : kitB "str" "list" = some false := by decide +kernel
theorem kit_S_bool : kitB "str" "bool" = some false := by decide +kernel
theorem kit_S_int : kitB "str" "int" = some false := by decide +kernel
theorem kit_S_str : kitB "str" "str" = some true := by decide +kernel
theorem kit_L_tuple : kitB "list" "tuple" = some false := by decide +kernel
theorem kit_L_list : kitB "list" "list" = some true := by decide +kernel
theorem kit_L_bool : kitB "list" "bool" = some false := by decide +kernel
theorem kit_L_int : kitB "list" "int" = some false := by decide +kernel
theorem kit_L_str : kitB "list" "str" = some false := by decide +kernel
theorem kit_T_tuple : kitB "tuple" "tuple" = some true := by decide +kernel
theorem kit_T_list : kitB "tuple" "list" = some false := by decide +kernel
theorem kit_T_bool : kitB "tuple" "bool" = some false := by decide +kernel
theorem kit_T_int : kitB "tuple" "int" = some false := by decide +kernel
theorem kit_T_str : kitB "tuple" "str" = some false := by decide +kernel

theorem line_val : sizeLine = 16777216 := by decide
theorem slen_app (a b : Str) : (a ++ b).length = a.length + b.length := by
  rw [TL.len_tl, TL.tl_append, List.length_append, ← TL.len_tl, ← TL.len_tl]
theorem slen_one (c : Nat) : (⟨#[c]⟩ : Str).length = 1 := rfl
theorem log_ok {i : Int} (h0 : 0 ≤ i) (h1 : i < 18446744073709551616) : i.natAbs.log2 < 1920 := by
  have h : i.natAbs < 2 ^ 64 := by omega
  by_cases z : i.natAbs = 0
  · rw [z]; decide
  · exact Nat.lt_of_lt_of_le ((Nat.log2_lt z).mpr h) (by decide)
/-! ### steps of a reading -/
section
variable {K : PySem.W.Frag} {σ σ' : L2.St} {H : Hp} {Q : VK} {D : Ends} {ta tb tc te : TE} {t u : TT} {ts tu tw : TS} {x y v w : V} {i j : Int} {p q : Addr} {xs : List V} {r r' : R2} {b : Bool} {g : TG} {tr : TA}
theorem r_seq (h : tu { D with nx := tw D } σ H) : tSeq tu tw D σ H := h
theorem r_cut0 (h : tu { D with nx := tw D } σ H) : tCut tu tw D σ H := ⟨tw D, h, fun _ _ q => q⟩
theorem r_cut (W : L2.St → Hp → Prop) (h : tu { D with nx := W } σ H) (k : ∀ σ' H', W σ' H' → tw D σ' H') : tCut tu tw D σ H := ⟨W, h, k⟩
theorem r_tr {Q : Bool → Hp → Prop} (h : te σ H fun x H' => ∃ k, TruV K x H' k ∧ Q k H') : tTr K te σ H Q := h
theorem r_nx (h : D.nx σ H) : tNext D σ H := h
theorem r_asg (h : te σ H fun x H1 => g x σ H1 D.nx) : tAsg te g D σ H := h
theorem r_drop (h : te σ H fun _ H1 => D.nx σ H1) : tDrop te D σ H := h
theorem r_ret (h : te σ H D.rt) : tRet te D σ H := h
/-- what is left of a for, of a comprehension, when its walk is known -/
def ForIs (J : It) (H : Hp) (g : TG) (tb : TS) (D : Ends) (σ : L2.St) : Prop := ∃ W : Nat → Nat → L2.St → Hp → Prop, (∃ m, W 0 m σ H) ∧ ∀ i m σ H, W i m σ H →
      (J.stop i H ∧ D.nx σ H) ∨ (J.go i H ∧ ∃ N : L2.St → Hp → Prop, (∀ σ' H', N σ' H' → ∃ m', m' < m ∧ W (i + 1) m' σ' H') ∧ ∀ x H', J.yld i H x H' → g x σ H' fun σ2 H2 => tb { D with nx := N, ct := N, bk := D.nx } σ2 H2)
def LcIs (J : It) (H1 : Hp) (g : TG) (tt : TT) (te : TE) (vs : List Nat) (σ : L2.St) (Q : VK) : Prop := ∀ D, H1 D = none → ∃ W : Nat → Nat → Hp → Prop, (∃ m, W 0 m (upd H1 D (.lst []))) ∧ ∀ i m H, W i m H →
  (J.stop i H ∧ Q (.ref D) H) ∨ (J.go i H ∧ ∃ Nx : Hp → Prop, (∀ H', Nx H' → ∃ m', m' < m ∧ W (i + 1) m' H') ∧ ∀ x H', J.yld i H x H' → g x (wipe σ vs) H' fun σ2 H2 => wipe σ2 vs = wipe σ vs ∧ tt σ2 H2 fun b H3 =>
    if b = true then te σ2 H3 fun y H4 => ∃ acc, H4 D = some (.lst acc) ∧ acc.length < sizeLine ∧ Nx (upd H4 D (.lst (acc ++ [y]))) else Nx H3)
theorem r_for {wi : TI} (h : wi σ H fun J H1 => ForIs J H1 g tu D σ) : tFor wi g tu D σ H := h
theorem r_lc {wi : TI} {tt : TT} {vs : List Nat} (h : wi σ H fun J H1 => LcIs J H1 g tt te vs σ Q) : tLc wi g tt te vs σ H Q := h
theorem w_rng1 {n : Int} {R : Int → Prop} (h : 0 ≤ n ∧ n < 2 ^ 62) (k : R n) : ∃ j : Int, [V.int n] = [.int j] ∧ -(2 ^ 62) ≤ j ∧ j < 2 ^ 62 ∧ R j := ⟨n, rfl, by omega, h.2, k⟩
theorem w_rng2 {m n : Int} {R : Int → Int → Prop} (h : (-(2 ^ 62) ≤ m ∧ m < 2 ^ 62) ∧ -(2 ^ 62) ≤ n ∧ n < 2 ^ 62) (k : R m n) : ∃ i j : Int, [V.int m, V.int n] = [.int i, .int j] ∧ (-(2 ^ 62) ≤ i ∧ i < 2 ^ 62 ∧ -(2 ^ 62) ≤ j ∧ j < 2 ^ 62) ∧ R i j := ⟨m, n, rfl, ⟨h.1.1, h.1.2, h.2.1, h.2.2⟩, k⟩
theorem w_tup {R : Addr → Prop} {xs : List V} (h : SqT K H p xs) (k : R p) : ∃ a, V.ref p = .ref a ∧ (∃ xs, SqT K H a xs) ∧ R a := ⟨p, rfl, ⟨xs, h⟩, k⟩
theorem w_itL {R R' : Addr → Prop} {S : Str → Prop} {xs : List V} (h : SqL K H p xs) (k : R p) : (∃ a, V.ref p = .ref a ∧ (∃ xs, SqL K H a xs) ∧ R a) ∨ (∃ a, V.ref p = .ref a ∧ (∃ xs, SqT K H a xs) ∧ R' a) ∨ ∃ z, V.ref p = .str z ∧ S z := .inl ⟨p, rfl, ⟨xs, h⟩, k⟩
theorem w_itT {R R' : Addr → Prop} {S : Str → Prop} {xs : List V} (h : SqT K H p xs) (k : R' p) : (∃ a, V.ref p = .ref a ∧ (∃ xs, SqL K H a xs) ∧ R a) ∨ (∃ a, V.ref p = .ref a ∧ (∃ xs, SqT K H a xs) ∧ R' a) ∨ ∃ z, V.ref p = .str z ∧ S z := .inr (.inl ⟨p, rfl, ⟨xs, h⟩, k⟩)
theorem w_itS {R R' : Addr → Prop} {S : Str → Prop} {z : Str} (k : S z) : (∃ a, V.str z = .ref a ∧ (∃ xs, SqL K H a xs) ∧ R a) ∨ (∃ a, V.str z = .ref a ∧ (∃ xs, SqT K H a xs) ∧ R' a) ∨ ∃ y, V.str z = .str y ∧ S y := .inr (.inr ⟨z, rfl, k⟩)
theorem r_iRng1 {R : It → Hp → Prop} (h : tr σ H fun vs H1 => ∃ j : Int, vs = [.int j] ∧ -(2 ^ 62) ≤ j ∧ j < 2 ^ 62 ∧ R (Itr 0 j.toNat) H1) : iRng1 tr σ H R := h
theorem r_iRng2 {R : It → Hp → Prop} (h : tr σ H fun vs H1 => ∃ i j : Int, vs = [.int i, .int j] ∧ (-(2 ^ 62) ≤ i ∧ i < 2 ^ 62 ∧ -(2 ^ 62) ≤ j ∧ j < 2 ^ 62) ∧ R (Itr i (j - i).toNat) H1) : iRng2 tr σ H R := h
theorem r_iTup {R : It → Hp → Prop} (h : te σ H fun x H1 => ∃ a, x = .ref a ∧ (∃ xs, SqT K H1 a xs) ∧ R (Itt K a) H1) : iTup K te σ H R := h
/-- for i in range(n): a word of the turn, the slots and the heap -/
theorem l_range {n : Int} (W : Nat → L2.St → Hp → Prop) (w0 : W 0 σ H)
    (ws : ∀ (i : Nat) σ' H', (i : Int) < n → W i σ' H' → g (.int (i : Int)) σ' H' fun σ2 H2 => tu { D with nx := W (i + 1), ct := W (i + 1), bk := D.nx } σ2 H2) (wd : ∀ σ' H', W n.toNat σ' H' → D.nx σ' H') :
    ForIs (Itr 0 n.toNat) H g tu D σ := for_range (lo := 0) (n := n.toNat) W w0 (fun i σ' H' hi q => by rw [Int.zero_add]; exact ws i σ' H' (by omega) q) wd
/-- for i in range(m, n) -/
theorem l_range2 {m n : Int} (W : Nat → L2.St → Hp → Prop) (w0 : W 0 σ H)
    (ws : ∀ (i : Nat) σ' H', m + (i : Int) < n → W i σ' H' → g (.int (m + (i : Int))) σ' H' fun σ2 H2 => tu { D with nx := W (i + 1), ct := W (i + 1), bk := D.nx } σ2 H2) (wd : ∀ σ' H', W (n - m).toNat σ' H' → D.nx σ' H') :
    ForIs (Itr m (n - m).toNat) H g tu D σ := for_range (lo := m) (n := (n - m).toNat) W w0 (fun i σ' H' hi q => ws i σ' H' (by omega) q) wd
/-- for x in t (a tuple), in l (a list); hl: it stands still -/
theorem l_tup (W : Nat → L2.St → Hp → Prop) (w0 : W 0 σ H) (hl : ∀ i σ H, W i σ H → SqT K H p xs)
    (ws : ∀ (i : Nat) x σ' H', xs[i]? = some x → W i σ' H' → g x σ' H' fun σ2 H2 => tu { D with nx := W (i + 1), ct := W (i + 1), bk := D.nx } σ2 H2) (wd : ∀ σ' H', W xs.length σ' H' → D.nx σ' H') :
    ForIs (Itt K p) H g tu D σ := for_tup (xs := xs) W w0 (fun i σ H _ => hl i σ H) ws wd
theorem l_list (W : Nat → L2.St → Hp → Prop) (w0 : W 0 σ H) (hl : ∀ i σ H, W i σ H → SqL K H p xs)
    (ws : ∀ (i : Nat) x σ' H', xs[i]? = some x → W i σ' H' → g x σ' H' fun σ2 H2 => tu { D with nx := W (i + 1), ct := W (i + 1), bk := D.nx } σ2 H2) (wd : ∀ σ' H', W xs.length σ' H' → D.nx σ' H') :
    ForIs (Itl K p) H g tu D σ := for_list (xs := xs) W w0 (fun i σ H _ => hl i σ H) ws wd
theorem l_str {z : Str} (W : Nat → L2.St → Hp → Prop) (w0 : W 0 σ H)
    (ws : ∀ (i : Nat) c σ' H', (TL.tl z)[i]? = some c → W i σ' H' → g (.str ⟨#[c]⟩) σ' H' fun σ2 H2 => tu { D with nx := W (i + 1), ct := W (i + 1), bk := D.nx } σ2 H2) (wd : ∀ σ' H', W z.length σ' H' → D.nx σ' H') :
    ForIs (Its z) H g tu D σ := for_it walk_str W w0 (fun _ _ _ _ _ => trivial) (by
      rintro i x σ' H1 H2 _ q ⟨rfl, c, hc, rfl⟩
      exact ws i c σ' _ (by simpa using hc) q) wd
theorem r_retN (h : D.rt .non H) : tRetN D σ H := h
theorem r_ifS (h : t σ H fun b H1 => if b = true then tu D σ H1 else tw D σ H1) : tIfS t tu tw D σ H := h
theorem r_var {i : Nat} (h : σ[i]? = some (some v)) (k : Q v H) : tVar i σ H Q := ⟨v, h, k⟩
theorem r_c (k : Q v H) : tC v σ H Q := k
theorem r_op (h : ta σ H fun x H1 => tb σ H1 fun y H2 => r x y H2 Q) : tOp r ta tb σ H Q := h
theorem r_un {r : V → Hp → VK → Prop} (h : ta σ H fun x H1 => r x H1 Q) : tUn r ta σ H Q := h
theorem r_nil {Q : List V → Hp → Prop} (k : Q [] H) : tNil σ H Q := k
theorem r_cons {Q : List V → Hp → Prop} (h : ta σ H fun x H1 => tr σ H1 fun xs H2 => Q (x :: xs) H2) : tCons ta tr σ H Q := h
theorem r_cb {r : List V → Hp → VK → Prop} (h : tr σ H fun vs H1 => r vs H1 Q) : tCB r tr σ H Q := h
theorem r_call {sp : Sp} {dvs : List V} {E : XK} (h : tr σ H fun vs H1 => sp (vs ++ dvs) H1 Q E) : tCall sp dvs E tr σ H Q := h
theorem r_bm {T : String} {r : V → List V → Hp → VK → Prop} (h : te σ H fun x H1 => tyV K T x H1 ∧ tr σ H1 fun xs H2 => r x xs H2 Q) : tBM K T r te tr σ H Q := h
theorem r_bm0 {T : String} {r : V → List V → Hp → VK → Prop} (h : te σ H fun x H1 => tyV K T x H1 ∧ r x [] H1 Q) : tBM0 K T r te σ H Q := h
theorem r_tup (h : tr σ H fun xs H1 => xs.length ≤ sizeLine ∧ ∀ p, H1 p = none → Q (.ref p) (upd H1 p (.tup xs))) : tTup tr σ H Q := h
theorem r_lst (h : tr σ H fun xs H1 => xs.length ≤ sizeLine ∧ ∀ p, H1 p = none → Q (.ref p) (upd H1 p (.lst xs))) : tLst tr σ H Q := h
theorem r_name {i : Nat} {Q : L2.St → Hp → Prop} (h : Q (σ.set i (some v)) H) : gName i v σ H Q := h
theorem r_sub {s : TSet} {Q : L2.St → Hp → Prop} (h : ta σ H fun o H1 => tb σ H1 fun i H2 => s o i v H2 fun H3 => Q σ H3) : gSub ta tb s v σ H Q := h
theorem r_test {Q : Bool → Hp → Prop} (h : te σ H fun x H1 => ∃ k, x = .bl k ∧ Q k H1) : tTest te σ H Q := h
theorem r_tB {Q : Bool → Hp → Prop} (h : te σ H fun x H1 => ∃ k, x = .bl k ∧ Q k H1) : tB te σ H Q := h
theorem r_exbl {Q : Bool → Hp → Prop} (h : Q b H) : ∃ k, V.bl b = .bl k ∧ Q k H := ⟨b, rfl, h⟩
theorem r_exbl' {P : Bool → Prop} (h : P b) : ∃ k, V.bl b = .bl k ∧ P k := ⟨b, rfl, h⟩
theorem r_and {Q : Bool → Hp → Prop} (h : t σ H fun c H1 => if c = true then u σ H1 Q else Q false H1) : tAnd t u σ H Q := h
theorem r_or {Q : Bool → Hp → Prop} (h : t σ H fun c H1 => if c = true then Q true H1 else u σ H1 Q) : tOr t u σ H Q := h
theorem r_not {Q : Bool → Hp → Prop} (h : t σ H fun c H1 => Q (!c) H1) : tNot t σ H Q := h
theorem r_if (h : t σ H fun c H1 => if c = true then ta σ H1 Q else tb σ H1 Q) : tIf t ta tb σ H Q := h
theorem r_chain (h : ta σ H fun x H1 => tb σ H1 fun y H2 => r x y H2 fun z H3 => ∃ k, z = .bl k ∧ (if k = true then tc σ H3 fun w' H4 => r' y w' H4 Q else Q (.bl false) H3)) : tChain r r' ta tb tc σ H Q := h
theorem r_orT (h : ta σ H fun x H1 => ∃ k, TruV K x H1 k ∧ if k = true then Q x H1 else tb σ H1 Q) : tOrT K ta tb σ H Q := h
theorem r_andT (h : ta σ H fun x H1 => ∃ k, TruV K x H1 k ∧ if k = true then tb σ H1 Q else Q x H1) : tAndT K ta tb σ H Q := h
theorem r_notT (h : ta σ H fun x H1 => ∃ k, TruV K x H1 k ∧ Q (.bl (!k)) H1) : tNotT K ta σ H Q := h
theorem r_sl {r : V → Option Int → Option Int → Hp → VK → Prop} {tl th : TO} (h : te σ H fun x H1 => tl σ H1 fun l H2 => th σ H2 fun u H3 => r x l u H3 Q) : tSl r te tl th σ H Q := h
theorem r_nopart {Q : Option Int → Hp → Prop} (h : Q none H) : tNoPart σ H Q := h
theorem r_part {Q : Option Int → Hp → Prop} (h : te σ H fun x H1 => ∃ i, x = .int i ∧ Q (some i) H1) : tPart te σ H Q := h
theorem r_exint {R : Int → Prop} (h : R i) : ∃ k, V.int i = .int k ∧ R k := ⟨i, rfl, h⟩
theorem r_yes {Q : Bool → Hp → Prop} (h : Q true H) : tYes σ H Q := h
/-- what an item y asks, what one that is left out -/
def LcNx (W : Addr → Nat → List V → Hp → Prop) (D : Addr) (k : Nat) (y : V) (H : Hp) : Prop := ∃ acc, H D = some (.lst acc) ∧ acc.length < sizeLine ∧ ∃ a, upd H D (.lst (acc ++ [y])) D = some (.lst a) ∧ W D k a (upd H D (.lst (acc ++ [y])))
def LcSk (W : Addr → Nat → List V → Hp → Prop) (D : Addr) (k : Nat) (H : Hp) : Prop := ∃ a, H D = some (.lst a) ∧ W D k a H
/-- a list made in a comprehension, over any walk: W by the list's place, the turn, what is made, the heap -/
theorem l_lc {J : It} {n : Nat} {G : Hp → Prop} {Y : Nat → Hp → V → Hp → Prop} (w : Walk J n G Y) {tt : TT} {vs : List Nat} (W : Addr → Nat → List V → Hp → Prop) (w0 : ∀ D, H D = none → W D 0 [] (upd H D (.lst [])))
    (hG : ∀ D i acc H', H D = none → W D i acc H' → G H')
    (ws : ∀ D i acc x H1 H2, H D = none → i < n → W D i acc H1 → H1 D = some (.lst acc) → Y i H1 x H2 → g x (wipe σ vs) H2 fun σ2 H2 => wipe σ2 vs = wipe σ vs ∧ tt σ2 H2 fun b H3 =>
      if b = true then te σ2 H3 fun y H4 => LcNx W D (i + 1) y H4 else LcSk W D (i + 1) H3)
    (wd : ∀ D acc H', H D = none → W D n acc H' → H' D = some (.lst acc) → Q (.ref D) H') :
    LcIs J H g tt te vs σ Q := fun D hD =>
  lc_it w (fun i H' => ∃ acc, H' D = some (.lst acc) ∧ W D i acc H') ⟨[], upd_same, w0 D hD⟩ (fun i H' _ ⟨acc, _, q⟩ => hG D i acc H' hD q) (fun i x H1 H2 hi ⟨acc, e, q⟩ y => ws D i acc x H1 H2 hD hi q e y) fun H' ⟨acc, e, q⟩ => wd D acc H' hD q e
theorem lc_next {W : Addr → Nat → List V → Hp → Prop} {D : Addr} {k : Nat} {acc : List V} (h : H D = some (.lst acc)) (l : acc.length < sizeLine) (q : W D k (acc ++ [y]) (upd H D (.lst (acc ++ [y])))) : LcNx W D k y H := ⟨acc, h, l, _, upd_same, q⟩
theorem lc_skip {W : Addr → Nat → List V → Hp → Prop} {D : Addr} {k : Nat} {acc : List V} (h : H D = some (.lst acc)) (q : W D k acc H) : LcSk W D k H := ⟨acc, h, q⟩
/-- a for over any walk -/
theorem l_for {J : It} {n : Nat} {G : Hp → Prop} {Y : Nat → Hp → V → Hp → Prop} (w : Walk J n G Y) (W : Nat → L2.St → Hp → Prop) (w0 : W 0 σ H) (hG : ∀ i σ H, W i σ H → G H)
    (ws : ∀ (i : Nat) x σ' H1 H2, i < n → W i σ' H1 → Y i H1 x H2 → g x σ' H2 fun σ2 H2 => tu { D with nx := W (i + 1), ct := W (i + 1), bk := D.nx } σ2 H2) (wd : ∀ σ' H', W n σ' H' → D.nx σ' H') :
    ForIs J H g tu D σ :=
  for_it w W w0 (fun i σ H _ => hG i σ H) ws wd
/-! values -/
theorem b_lst {R : Prop} {xs : List V} (h : H p = some (.lst xs)) (k : R) : tyV K "list" (.ref p) H ∧ R := ⟨.inl ⟨rfl, xs, SqL.of h⟩, k⟩
theorem b_str {R : Prop} {z : Str} (k : R) : tyV K "str" (.str z) H ∧ R := ⟨rfl, k⟩
theorem v_append (h : H p = some (.lst xs)) (l : xs.length < sizeLine) (k : Q .non (upd H p (.lst (xs ++ [v])))) : rAppend (.ref p) [v] H Q := ⟨p, xs, v, rfl, rfl, h, l, k⟩
theorem v_extend {ys : List V} (h : H p = some (.lst xs)) (h2 : H q = some (.lst ys)) (l : xs.length + ys.length ≤ sizeLine) (k : Q .non (upd H p (.lst (xs ++ ys)))) : rExtend (.ref p) [.ref q] H Q := ⟨p, q, xs, ys, rfl, rfl, h, h2, l, k⟩
theorem v_join {a : Str} {ys : List Str} (h : H p = some (.lst (ys.map V.str))) (l : (ys.map (·.length)).sum + ys.length * a.length ≤ 16777216) (k : Q (.str (Txt.join a ys)) H) : gJoin K (.str a) [.ref p] H Q := ⟨a, p, ys, rfl, rfl, .inl (SqL.of h), l, k⟩
theorem v_split {a b : Str} (hb : (b.length == 0) = false) (l : a.length + 2 ≤ sizeLine) (k : ∀ p, H p = none → Q (.ref p) (upd H p (.lst ((Txt.split a b).map V.str)))) : gSplit (.str a) [.str b] H Q := ⟨a, b, rfl, rfl, hb, l, k⟩
theorem v_slL {lo hi : Option Int} (h : H p = some (.lst xs)) (k : ∀ l, H l = none → Q (.ref l) (upd H l (.lst (cutV xs lo hi)))) : gSl K (.ref p) lo hi H Q := .inl ⟨p, xs, rfl, SqL.of h, k⟩
theorem v_slS {lo hi : Option Int} {z : Str} (l : z.length ≤ sizeLine) (k : Q (.str (cutS z lo hi)) H) : gSl K (.str z) lo hi H Q := .inr (.inr ⟨z, rfl, l, k⟩)
theorem v_inS {c : Nat} {z : Str} (k : Q (.bl (decide (c ∈ z.cps.toList))) H) : gIn K (.str ⟨#[c]⟩) (.str z) H Q := .inr ⟨c, z, rfl, rfl, k⟩
theorem v_notinS {c : Nat} {z : Str} (k : Q (.bl (!decide (c ∈ z.cps.toList))) H) : gNotIn K (.str ⟨#[c]⟩) (.str z) H Q := .inr ⟨c, z, rfl, rfl, k⟩
theorem v_all {bs : List Bool} (h : H p = some (.lst (bs.map V.bl))) (k : Q (.bl (bs.all id)) H) : rAll K [.ref p] H Q := ⟨p, bs, rfl, SqL.of h, k⟩
theorem v_any {bs : List Bool} (h : H p = some (.lst (bs.map V.bl))) (k : Q (.bl (bs.any id)) H) : rAny K [.ref p] H Q := ⟨p, bs, rfl, SqL.of h, k⟩
theorem v_ord {c : Nat} (k : Q (.int (c : Nat)) H) : gOrd [.str ⟨#[c]⟩] H Q := ⟨⟨#[c]⟩, rfl, rfl, k⟩
theorem v_intS {z : Str} (e : PySem.intText? z = some i) (l : z.length ≤ 640) (k : Q (.int i) H) : gInt [.str z] H Q := .inr ⟨z, i, rfl, e, l, k⟩
theorem v_addI (k : Q (.int (i + j)) H) : gAdd K (.int i) (.int j) H Q := .inl ⟨i, j, rfl, rfl, k⟩
theorem v_addS {a b : Str} (h : a.length + b.length ≤ sizeLine) (k : Q (.str (a ++ b)) H) : gAdd K (.str a) (.str b) H Q := .inr (.inl ⟨a, b, rfl, rfl, h, k⟩)
theorem v_addL {xs ys : List V} (h1 : H p = some (.lst xs)) (h2 : H q = some (.lst ys)) (h : xs.length + ys.length ≤ sizeLine) (k : ∀ l, H l = none → Q (.ref l) (upd H l (.lst (xs ++ ys)))) : gAdd K (.ref p) (.ref q) H Q :=
  .inr (.inr (.inl ⟨p, q, xs, ys, rfl, rfl, h1, h2, h, k⟩))
theorem v_sub (k : Q (.int (i - j)) H) : gSubI (.int i) (.int j) H Q := ⟨i, j, rfl, rfl, k⟩
theorem v_mul (h : CMul i j) (k : Q (.int (i * j)) H) : gMul (.int i) (.int j) H Q := ⟨i, j, rfl, rfl, h, k⟩
theorem v_div (h : CDiv i j) (k : Q (.int (i / j)) H) : gDiv (.int i) (.int j) H Q := ⟨i, j, rfl, rfl, h, k⟩
theorem v_mod (h : 0 < j) (k : Q (.int (i % j)) H) : gMod (.int i) (.int j) H Q := ⟨i, j, rfl, rfl, h, k⟩
theorem v_pow (h : CPow i j) (k : Q (.int (i ^ j.toNat)) H) : gPow (.int i) (.int j) H Q := ⟨i, j, rfl, rfl, h, k⟩
theorem v_ltI (k : Q (.bl (decide (i < j))) H) : gLt (.int i) (.int j) H Q := .inl ⟨i, j, rfl, rfl, k⟩
theorem v_leI (k : Q (.bl (decide (i ≤ j))) H) : gLe (.int i) (.int j) H Q := .inl ⟨i, j, rfl, rfl, k⟩
theorem v_ltS {a b : Str} (k : Q (.bl (decide (a.cps.toList < b.cps.toList))) H) : gLt (.str a) (.str b) H Q := .inr ⟨a, b, rfl, rfl, k⟩
theorem v_leS {a b : Str} (k : Q (.bl (!decide (b.cps.toList < a.cps.toList))) H) : gLe (.str a) (.str b) H Q := .inr ⟨a, b, rfl, rfl, k⟩
theorem v_gt (k : Q (.bl (decide (j < i))) H) : gGt (.int i) (.int j) H Q := ⟨i, j, rfl, rfl, k⟩
theorem v_ge (k : Q (.bl (decide (j ≤ i))) H) : gGe (.int i) (.int j) H Q := ⟨i, j, rfl, rfl, k⟩
theorem v_eqI (k : Q (.bl (decide (i = j))) H) : rEq (.int i) (.int j) H Q := ⟨rfl, by
  have e : decide (V.int i = V.int j) = decide (i = j) := by
    by_cases h : i = j
    · subst h; simp
    · rw [decide_eq_false h, decide_eq_false (fun q => h (V.int.inj q))]
  rw [e]; exact k⟩
theorem v_eqS {a b : Str} (k : Q (.bl (decide (a = b))) H) : rEq (.str a) (.str b) H Q := ⟨rfl, by
  have e : decide (V.str a = V.str b) = decide (a = b) := by
    by_cases h : a = b
    · subst h; simp
    · rw [decide_eq_false h, decide_eq_false (fun q => h (V.str.inj q))]
  rw [e]; exact k⟩
theorem v_eqB {a b : Bool} (k : Q (.bl (decide (a = b))) H) : rEq (.bl a) (.bl b) H Q := ⟨rfl, by
  have e : decide (V.bl a = V.bl b) = decide (a = b) := by cases a <;> cases b <;> rfl
  rw [e]; exact k⟩
theorem v_neI (k : Q (.bl (!decide (i = j))) H) : rNe (.int i) (.int j) H Q := ⟨rfl, by
  have e : decide (V.int i = V.int j) = decide (i = j) := by
    by_cases h : i = j
    · subst h; simp
    · rw [decide_eq_false h, decide_eq_false (fun q => h (V.int.inj q))]
  rw [e]; exact k⟩
theorem v_neS {a b : Str} (k : Q (.bl (!decide (a = b))) H) : rNe (.str a) (.str b) H Q := ⟨rfl, by
  have e : decide (V.str a = V.str b) = decide (a = b) := by
    by_cases h : a = b
    · subst h; simp
    · rw [decide_eq_false h, decide_eq_false (fun q => h (V.str.inj q))]
  rw [e]; exact k⟩
theorem v_neB {a b : Bool} (k : Q (.bl (!decide (a = b))) H) : rNe (.bl a) (.bl b) H Q := ⟨rfl, by
  have e : decide (V.bl a = V.bl b) = decide (a = b) := by cases a <;> cases b <;> rfl
  rw [e]; exact k⟩
theorem v_is (k : Q (.bl (decide (x = .non))) H) : gIs x .non H Q := ⟨rfl, k⟩
theorem v_isnot (k : Q (.bl (!decide (x = .non))) H) : gIsNot x .non H Q := ⟨rfl, k⟩
theorem v_isN (k : Q (.bl true) H) : gIs .non .non H Q := ⟨rfl, k⟩
theorem v_isB {c : Bool} (k : Q (.bl false) H) : gIs (.bl c) .non H Q := ⟨rfl, k⟩
theorem v_isI (k : Q (.bl false) H) : gIs (.int i) .non H Q := ⟨rfl, k⟩
theorem v_isS {z : Str} (k : Q (.bl false) H) : gIs (.str z) .non H Q := ⟨rfl, k⟩
theorem v_isR (k : Q (.bl false) H) : gIs (.ref p) .non H Q := ⟨rfl, k⟩
theorem v_isnotN (k : Q (.bl false) H) : gIsNot .non .non H Q := ⟨rfl, k⟩
theorem v_isnotB {c : Bool} (k : Q (.bl true) H) : gIsNot (.bl c) .non H Q := ⟨rfl, k⟩
theorem v_isnotI (k : Q (.bl true) H) : gIsNot (.int i) .non H Q := ⟨rfl, k⟩
theorem v_isnotS {z : Str} (k : Q (.bl true) H) : gIsNot (.str z) .non H Q := ⟨rfl, k⟩
theorem v_isnotR (k : Q (.bl true) H) : gIsNot (.ref p) .non H Q := ⟨rfl, k⟩
theorem v_eqN (k : Q (.bl true) H) : rEq .non .non H Q := ⟨rfl, k⟩
theorem v_neN (k : Q (.bl false) H) : rNe .non .non H Q := ⟨rfl, k⟩
theorem v_lenLs (h : SqL K H p xs) (k : Q (.int (xs.length : Nat)) H) : gLen K [.ref p] H Q := ⟨.ref p, _, rfl, .inl ⟨xs, h, rfl⟩, k⟩
theorem v_lenTs (h : SqT K H p xs) (k : Q (.int (xs.length : Nat)) H) : gLen K [.ref p] H Q := ⟨.ref p, _, rfl, .inr ⟨xs, h, rfl⟩, k⟩
theorem v_ixLs (h : SqL K H p xs) (e : atI xs i = some v) (k : Q v H) : rIx K (.ref p) (.int i) H Q := .inl ⟨p, xs, i, v, rfl, rfl, h, e, k⟩
theorem v_ixTs (h : SqT K H p xs) (e : atI xs i = some v) (k : Q v H) : rIx K (.ref p) (.int i) H Q := .inr (.inl ⟨p, xs, i, v, rfl, rfl, h, e, k⟩)
theorem v_ixL (h : H p = some (.lst xs)) (e : atI xs i = some v) (k : Q v H) : rIx K (.ref p) (.int i) H Q := .inl ⟨p, xs, i, v, rfl, rfl, SqL.of h, e, k⟩
theorem v_ixT (h : H p = some (.tup xs)) (e : atI xs i = some v) (k : Q v H) : rIx K (.ref p) (.int i) H Q := .inr (.inl ⟨p, xs, i, v, rfl, rfl, SqT.of h, e, k⟩)
theorem v_ixS {z : Str} {c : Nat} (h : z.length ≤ sizeLine) (e : atI z.cps.toList i = some c) (k : Q (.str ⟨#[c]⟩) H) : rIx K (.str z) (.int i) H Q := .inr (.inr ⟨z, i, c, rfl, rfl, h, e, k⟩)
theorem v_setL {R : Hp → Prop} {n : Nat} (h : H p = some (.lst xs)) (e : ixN xs.length i = some n) (k : R (upd H p (.lst (xs.set n v)))) : rSetL (.ref p) (.int i) v H R := ⟨p, xs, i, n, rfl, rfl, h, e, k⟩
theorem v_lenL (h : H p = some (.lst xs)) (k : Q (.int (xs.length : Nat)) H) : gLen K [.ref p] H Q := ⟨.ref p, _, rfl, .inl ⟨xs, SqL.of h, rfl⟩, k⟩
theorem v_lenT (h : H p = some (.tup xs)) (k : Q (.int (xs.length : Nat)) H) : gLen K [.ref p] H Q := ⟨.ref p, _, rfl, .inr ⟨xs, SqT.of h, rfl⟩, k⟩
theorem v_lenS {z : Str} (h : z.length ≤ sizeLine) (k : Q (.int (z.length : Nat)) H) : gLen K [.str z] H Q := ⟨.str z, _, rfl, ⟨h, rfl⟩, k⟩
theorem v_intI (k : Q (.int i) H) : gInt [.int i] H Q := .inl (.inl ⟨i, rfl, k⟩)
theorem v_intB (k : Q (.int (if b then 1 else 0)) H) : gInt [.bl b] H Q := .inl (.inr ⟨b, rfl, k⟩)
theorem v_min (k : Q (.int (if j < i then j else i)) H) : gMin [.int i, .int j] H Q := ⟨i, j, rfl, k⟩
theorem v_listL (h : H p = some (.lst xs)) (k : ∀ l, H l = none → Q (.ref l) (upd H l (.lst xs))) : gList K [.ref p] H Q := ⟨p, xs, rfl, .inl (SqL.of h), k⟩
theorem v_isi {a T : String} (ht : TyX K H x (.type a)) (hk : kitB a T = some b) (k : Q (.bl b) H) : gIsi K [x, .ty T] H Q := .inl ⟨x, .ty T, _, _, b, rfl, .ty T, ht, kit_ty hk, k⟩
theorem v_isiI {T : String} (hk : kitB "int" T = some b) (k : Q (.bl b) H) : gIsi K [.int i, .ty T] H Q := v_isi (.base (.int i)) hk k
theorem v_isiB {c : Bool} {T : String} (hk : kitB "bool" T = some b) (k : Q (.bl b) H) : gIsi K [.bl c, .ty T] H Q := v_isi (.base (.bl c)) hk k
theorem v_isiS {z : Str} {T : String} (hk : kitB "str" T = some b) (k : Q (.bl b) H) : gIsi K [.str z, .ty T] H Q := v_isi (.base (.str z)) hk k
theorem v_isiN {T : String} (hk : kitB "NoneType" T = some b) (k : Q (.bl b) H) : gIsi K [.non, .ty T] H Q := v_isi (.base .non) hk k
theorem tyx_l (h : SqL K H p xs) : TyX K H (.ref p) (.type "list") := by
  rcases h with (h | ⟨o, h⟩) | ⟨o, its, n, hk, hc, _⟩
  · exact .base (.lst h)
  · exact .base (.frz h)
  · exact .kList hk hc
theorem tyx_t (h : SqT K H p xs) : TyX K H (.ref p) (.type "tuple") := by
  rcases h with (h | ⟨o, h⟩) | ⟨o, its, n, hk, hc, _⟩
  · exact .base (.tup h)
  · exact .fTuple h
  · exact .kTuple hk hc
theorem v_isiL {T : String} (h : SqL K H p xs) (hk : kitB "list" T = some b) (k : Q (.bl b) H) : gIsi K [.ref p, .ty T] H Q := v_isi (tyx_l h) hk k
theorem v_isiT {T : String} (h : SqT K H p xs) (hk : kitB "tuple" T = some b) (k : Q (.bl b) H) : gIsi K [.ref p, .ty T] H Q := v_isi (tyx_t h) hk k
theorem v_str (h : i.natAbs.log2 < 1920) (k : Q (.str (toString i)) H) : gStr [.int i] H Q := ⟨i, rfl, h, k⟩
/-! tests -/
theorem i_t {A B : Prop} (h : A) : if true = true then A else B := by rw [if_pos rfl]; exact h
theorem i_f {A B : Prop} (h : B) : if false = true then A else B := by rw [if_neg Bool.false_ne_true]; exact h
theorem i_nt {A B : Prop} (h : B) : if (!true) = true then A else B := by rw [if_neg (by decide)]; exact h
theorem i_nf {A B : Prop} (h : A) : if (!false) = true then A else B := by show (if true = true then A else B); rw [if_pos rfl]; exact h
theorem i_d {c A B : Prop} [Decidable c] (h1 : c → A) (h2 : ¬ c → B) : if decide c = true then A else B := by
  by_cases h : c
  · rw [decide_eq_true h]; exact i_t (h1 h)
  · rw [decide_eq_false h]; exact i_f (h2 h)
theorem i_nd {c A B : Prop} [Decidable c] (h1 : ¬ c → A) (h2 : c → B) : if (!decide c) = true then A else B := by
  by_cases h : c
  · rw [decide_eq_true h]; exact i_f (h2 h)
  · rw [decide_eq_false h]; exact i_t (h1 h)
theorem i_dt {c A B : Prop} [Decidable c] (h : c) (k : A) : if decide c = true then A else B := by rw [decide_eq_true h]; exact i_t k
theorem i_df {c A B : Prop} [Decidable c] (h : ¬ c) (k : B) : if decide c = true then A else B := by rw [decide_eq_false h]; exact i_f k
theorem i_ndt {c A B : Prop} [Decidable c] (h : ¬ c) (k : A) : if (!decide c) = true then A else B := by rw [decide_eq_false h]; exact i_t k
theorem i_ndf {c A B : Prop} [Decidable c] (h : c) (k : B) : if (!decide c) = true then A else B := by rw [decide_eq_true h]; exact i_f k
theorem i_nn {c : Bool} {A B : Prop} (h : if c = true then A else B) : if (!!c) = true then A else B := by rw [Bool.not_not]; exact h
theorem i_b {c : Bool} {A B : Prop} (h1 : c = true → A) (h2 : c = false → B) : if c = true then A else B := by
  cases c with
  | true => exact i_t (h1 rfl)
  | false => exact i_f (h2 rfl)
end
section
variable {K : PySem.W.Frag} {H : Hp} {Q : Bool → Hp → Prop}
theorem t_bl {R : Bool → Prop} {b : Bool} (h : R b) : ∃ k, TruV K (.bl b) H k ∧ R k := ⟨b, rfl, h⟩
theorem t_non {R : Bool → Prop} (h : R false) : ∃ k, TruV K .non H k ∧ R k := ⟨_, rfl, h⟩
theorem t_int {R : Bool → Prop} {i : Int} (h : R (i != 0)) : ∃ k, TruV K (.int i) H k ∧ R k := ⟨_, rfl, h⟩
theorem t_str {R : Bool → Prop} {z : Str} (l : z.length ≤ sizeLine) (h : R ((z.length : Int) != 0)) : ∃ k, TruV K (.str z) H k ∧ R k := ⟨_, ⟨l, rfl⟩, h⟩
theorem t_lst {R : Bool → Prop} {p : Addr} {xs : List V} (l : H p = some (.lst xs)) (h : R (!xs.isEmpty)) : ∃ k, TruV K (.ref p) H k ∧ R k := ⟨_, .inl ⟨xs, SqL.of l, rfl⟩, h⟩
end
/-! ### a walk over a list, a tuple or a text -/
def gIt (K : PySem.W.Frag) (tl : TE) : TI := fun σ H R => tl σ H fun x H1 => (∃ a, x = .ref a ∧ (∃ xs, SqL K H1 a xs) ∧ R (Itl K a) H1) ∨ (∃ a, x = .ref a ∧ (∃ xs, SqT K H1 a xs) ∧ R (Itt K a) H1) ∨ ∃ z, x = .str z ∧ R (Its z) H1
theorem g_it {X : Cx} {K : PySem.W.Frag} {tg l : Expr} {tl : TE} (hl : PE X l tl) (hK : X.K = K := by rfl) : PI X tg l (gIt K tl) := by
  subst hK
  constructor
  intro pins s σ H R I h
  apply thn (hl.run pins s σ H _ I h)
  rintro v s1 ⟨x, H1, I1, r1, q1⟩
  rcases q1 with ⟨a, e, ⟨xs, hq⟩, q⟩ | ⟨a, e, ⟨xs, hq⟩, q⟩ | ⟨z, e, q⟩
  · subst e; cases r1
    obtain ⟨its, rv, pl, hz⟩ := I1.list hq
    apply wpAny_pyIter_list pl.isList
    refine ⟨s1.heap.objs.size, [s1.heap.objs.size], _, _, H1, rfl, I1.kept (t' := s1.toks) fun b o eo => Heap.get?_push_of_some _ eo, turn_list a _, ⟨_, Heap.get?_push_size _ rfl, rfl, rfl⟩, ?_, q⟩
    intro b hb
    obtain rfl : b = s1.heap.objs.size := by simpa using hb
    exact I1.fpOk (Nat.le_refl _) (I1.hok.fresh (Nat.le_refl _))
  · subst e; cases r1
    obtain ⟨its, rv, pl, hz⟩ := I1.tuple hq
    apply wpAny_pyIter_tuple (show s1.heap.IsTuple a its.toArray from pl)
    refine ⟨s1.heap.objs.size, [s1.heap.objs.size], _, _, H1, rfl, I1.kept (t' := s1.toks) fun b o eo => Heap.get?_push_of_some _ eo, turn_tuple a _, ⟨_, Heap.get?_push_size _ rfl, rfl, rfl⟩, ?_, q⟩
    intro b hb
    obtain rfl : b = s1.heap.objs.size := by simpa using hb
    exact I1.fpOk (Nat.le_refl _) (I1.hok.fresh (Nat.le_refl _))
  · subst e
    obtain ⟨t, rfl⟩ := r1
    cases ha : z.cps.all (· < 128)
    · exact wpAny_pyIter_wide ha (pi_one (tk := s1.toks) I1 _ (turn_str _ z t "str_iterator" (.inr rfl)) ⟨_, Heap.get?_push_size _ rfl, rfl, rfl⟩ q)
    · exact wpAny_pyIter_ascii ha (pi_one (tk := s1.toks) I1 _ (turn_str _ z t "str_ascii_iterator" (.inl rfl)) ⟨_, Heap.get?_push_size _ rfl, rfl, rfl⟩ q)

theorem r_gIt {K : PySem.W.Frag} {te : TE} {σ : L2.St} {H : Hp} {R : It → Hp → Prop} (h : te σ H fun x H1 => (∃ a, x = .ref a ∧ (∃ xs, SqL K H1 a xs) ∧ R (Itl K a) H1) ∨ (∃ a, x = .ref a ∧ (∃ xs, SqT K H1 a xs) ∧ R (Itt K a) H1) ∨ ∃ z, x = .str z ∧ R (Its z) H1) : gIt K te σ H R := h

/-! ### defs of the text: where they stand, what they promise -/
/-- the def st stands under the module's name x -/
def FunAt (K : PySem.W.Frag) (mg : Str → Option Value) (x qual : Str) (st : Stmt) : Prop := ∃ f fd, mg x = some (.ref f) ∧ Fun K x qual st f fd
/-- the def under the name x keeps the promise sp -/
structure Cal (P : Program) (w : World) (K : PySem.W.Frag) (mg : Str → Option Value) (base : Heap) (CX : CXT) (k : Nat) (x : Str) (ps : List Str) (sp : Sp) : Prop where
  ex : ∃ f fd, mg x = some (.ref f) ∧ PySem.W.keepIn K (.ref f) = true ∧ (∃ oc od sl, K.lookup f = some ⟨oc, od, .func fd, sl⟩) ∧ Binds K fd ps [] ∧ FnOk P w K mg base CX k f fd ps sp
section
variable {P : Program} {w : World} {K : PySem.W.Frag} {mg : Str → Option Value} {base : Heap} {CX : CXT} {j k : Nat} {x qual : Str} {ps N : List Str} {sp sp' : Sp} {st : Stmt}
theorem Cal.mono (C : Cal P w K mg base CX j x ps sp) (h : j ≤ k) : Cal P w K mg base CX k x ps sp := by
  obtain ⟨f, fd, m, kp, lk, b, F⟩ := C.ex
  exact ⟨f, fd, m, kp, lk, b, F.mono h⟩
theorem Cal.imp (C : Cal P w K mg base CX k x ps sp) (h : ∀ vs H Q E, sp' vs H Q E → sp vs H Q E) : Cal P w K mg base CX k x ps sp' := by
  obtain ⟨f, fd, m, kp, lk, b, F⟩ := C.ex
  exact ⟨f, fd, m, kp, lk, b, F.imp h⟩
/-- THE RULE: a def of the text that lets no exception out -/
theorem def_ok (F : FunAt K mg x qual st) (S : FnScope N ps (defScope st))
    (hb : ∀ (kV doc pm : Value) (an : Option Addr) (cdv ct : Value) (us : List Value), us.length = ps.length → bindArgs (PySem.W.fnOf x qual (defArgs st) (defBody st) (defScope st) .none kV doc pm an cdv ct) ⟨us, []⟩ = pure (ps.zip us))
    (len : ∀ vs H Q E, sp vs H Q E → vs.length = ps.length)
    (body : ∀ (f : Addr) (cdv : Value) (A : Around) (outer : List Env) (s : Shared) (H : Hp) (vs : List V) (Q : VK) (E : XK), Room k (A.deeper (envOfC qual (defScope st) s.heap.objs.size f cdv)) → sp vs H Q E →
      ∃ t, PSs (cxOf CX0 P w K mg base N qual (defScope st) f cdv A outer s H E).nox (defBody st) t ∧ t { nx := fun _ H' => Q .non H', rt := Q } (start N vs) H) : Cal P w K mg base CX0 (k + 1) x ps sp := by
  obtain ⟨f, fd, m, G⟩ := F
  have lk : ∃ oc od sl, K.lookup f = some ⟨oc, od, .func fd, sl⟩ := by
    obtain ⟨oc, od, _, _, _, _, _, _, sl, _, lk, _⟩ := G.ex
    exact ⟨oc, od, sl, lk⟩
  exact ⟨f, fd, m, G.kp, lk, G.binds hb, G.ok S len fun cdv A outer s H vs Q E hr h => body f cdv A outer s H vs Q E hr h⟩
end
/-- the law's own def, at the place where the top has left it -/
theorem Cal.at_ {P : Program} {w : World} {K : PySem.W.Frag} {mg : Str → Option Value} {base : Heap} {CX : CXT} {k : Nat} {x qual : Str} {ps : List Str} {sp : Sp} {st : Stmt} {f : Addr} {fd : FuncData} (C : Cal P w K mg base CX k x ps sp) (m : mg x = some (.ref f)) (F : Fun K x qual st f fd) : FnOk P w K mg base CX k f fd ps sp := by
  obtain ⟨f', fd', m', kp, ⟨oc, od, sl, lk⟩, b, G⟩ := C.ex
  obtain rfl : f' = f := by
    rw [m] at m'
    injection m' with e
    injection e with e
    exact e.symm
  obtain ⟨oc', od', _, _, _, _, _, _, sl', _, lk', _⟩ := F.ex
  rw [lk] at lk'
  injection lk' with e
  injection e with _ _ e _
  injection e with e
  subst e
  exact G
/-- of a promise that asks what cannot be -/
theorem def_none {P : Program} {w : World} {K : PySem.W.Frag} {mg : Str → Option Value} {base : Heap} {CX : CXT} {k : Nat} {x qual : Str} {ps : List Str} {sp : Sp} {st : Stmt} (F : FunAt K mg x qual st)
    (hb : ∀ (kV doc pm : Value) (an : Option Addr) (cdv ct : Value) (us : List Value), us.length = ps.length → bindArgs (PySem.W.fnOf x qual (defArgs st) (defBody st) (defScope st) .none kV doc pm an cdv ct) ⟨us, []⟩ = pure (ps.zip us))
    (no : ∀ vs H Q E, ¬ sp vs H Q E) : Cal P w K mg base CX k x ps sp := by
  obtain ⟨f, fd, m, G⟩ := F
  have lk : ∃ oc od sl, K.lookup f = some ⟨oc, od, .func fd, sl⟩ := by
    obtain ⟨oc, od, _, _, _, _, _, _, sl, _, lk, _⟩ := G.ex
    exact ⟨oc, od, sl, lk⟩
  exact ⟨f, fd, m, G.kp, lk, G.binds hb, ⟨fun vs H Q E h => (no vs H Q E h).elim, fun _ _ _ H _ _ vs Q E _ _ _ _ h => (no vs H Q E h).elim⟩⟩
section
variable {X : Cx} {CX : CXT} {k : Nat} {x : Str} {ps : List Str} {sp : Sp} {E : XK} {p pos : Pos} {e : Expr} {es : List Expr} {t : TA}
/-- a call of such a def -/
theorem g_call (C : Cal X.prog X.w X.K X.mg X.base CX k x ps sp) (hr : Room k X.A) (hg : Gl X x) (hx : Passes CX X E) (ha : PA X (e :: es) t) (hdb : (x == ("__debug__" : Str)) = false := by decide)
    (he : starEach (e :: es) X.env = (false, eval e X.env) :: starEach es X.env := by rfl) (hpl : (backTo pos (starEach es X.env)).any (·.1) = false := by rfl) : PE X (.Call (.Name x p) (e :: es) [] pos) (tCall sp [] E t) := by
  obtain ⟨f, fd, m, kp, lk, b, F⟩ := C.ex
  exact pe_call F hr hg m kp b .nil hx ha hdb he hpl
theorem g_call0 (C : Cal X.prog X.w X.K X.mg X.base CX k x ps sp) (hr : Room k X.A) (hg : Gl X x) (hx : Passes CX X E) (hdb : (x == ("__debug__" : Str)) = false := by decide) : PE X (.Call (.Name x p) [] [] pos) (tCall sp [] E tNil) := by
  obtain ⟨f, fd, m, kp, lk, b, F⟩ := C.ex
  exact pe_call0 F hr hg m kp b .nil hx hdb
/-- a module's number or text -/
theorem g_const {v : V} {u : Value} (hg : Gl X x) (hm : X.mg x = some u) (r : RelV v u) (hd : (x == ("__debug__" : Str)) = false := by decide) : PE X (.Name x pos) (tC v) := pe_glob hg hm r hd
theorem g_cint {i : Int} (hm : ∃ t, X.mg x = some (.int i t)) (hg : Gl X x) (hd : (x == ("__debug__" : Str)) = false := by decide) : PE X (.Name x pos) (tC (.int i)) := by
  obtain ⟨t, m⟩ := hm
  exact pe_glob hg m ⟨t, rfl⟩ hd
theorem g_cstr {z : Str} (hm : ∃ t, X.mg x = some (.str z t)) (hg : Gl X x) (hd : (x == ("__debug__" : Str)) = false := by decide) : PE X (.Name x pos) (tC (.str z)) := by
  obtain ⟨t, m⟩ := hm
  exact pe_glob hg m ⟨t, rfl⟩ hd
end
/-- the heap behind a store -/
theorem upd_at {H : Hp} {a b : Addr} {o : HO} : upd H a o b = if b = a then some o else H b := rfl
/-- what was there before the new object p -/
theorem _root_.L2.Same.laid {H H' : Hp} {p : Addr} {o : HO} (s : Same H H') (n : H' p = none) : Same H (upd H' p o) := fun b u e => by
  rw [upd_ne (ne_of_none (s b u e) n)]; exact s b u e
end G

local macro_rules | `(tactic| walk_at "kit") => `(tactic| with_reducible first | exact G.kit_N_tuple | exact G.kit_N_list | exact G.kit_N_bool | exact G.kit_N_int | exact G.kit_N_str | exact G.kit_B_tuple | exact G.kit_B_list | exact G.kit_B_bool | exact G.kit_B_int | exact G.kit_B_str | exact G.kit_I_tuple | exact G.kit_I_list | exact G.kit_I_bool | exact G.kit_I_int | exact G.kit_I_str | exact G.kit_S_tuple | exact G.kit_S_list | exact G.kit_S_bool | exact G.kit_S_int | exact G.kit_S_str | exact G.kit_L_tuple | exact G.kit_L_list | exact G.kit_L_bool | exact G.kit_L_int | exact G.kit_L_str | exact G.kit_T_tuple | exact G.kit_T_list | exact G.kit_T_bool | exact G.kit_T_int | exact G.kit_T_str)
local macro_rules | `(tactic| walk_at "ne") => `(tactic| first | assumption | (apply Ne.symm; assumption) | exact L2.ne_of_none (by assumption) (by assumption) | exact (L2.ne_of_none (by assumption) (by assumption)).symm)
local macro_rules | `(tactic| walk_at "hp") => `(tactic| first | assumption | exact L2.upd_same | (refine' Eq.trans (L2.upd_ne ?k8) ?k9; (case k8 => walk_at "ne"); (case k9 => walk_at "hp")))
local macro_rules | `(tactic| walk_at "sz") => `(tactic| first | assumption | decide | omega | (simp only [G.line_val, G.slen_app, G.slen_one, List.length_cons, List.length_nil, List.length_append, List.length_map, List.length_set]; first | decide | omega))
local macro_rules | `(tactic| walk_at "r1") => `(tactic| first
  | with_reducible refine G.r_seq ?_
  | with_reducible refine G.r_asg ?_
  | with_reducible refine G.r_op ?_
  | ((with_reducible refine' G.r_var ?k1 ?_); (case k1 => rfl))
  | with_reducible refine G.r_c ?_
  | with_reducible refine G.r_cons ?_
  | with_reducible refine G.r_nil ?_
  | ((with_reducible refine G.r_name ?_); dsimp only [List.set_cons_succ, List.set_cons_zero, L2.start, List.map, List.replicate, List.length, Nat.reduceSub, Nat.reduceAdd, List.cons_append, List.nil_append, List.append_nil])
  | with_reducible refine G.r_sub ?_
  | (with_reducible refine G.r_ret ?_)
  | with_reducible refine G.r_ifS ?_
  | with_reducible refine G.r_cb ?_
  | (with_reducible refine G.r_call ?_)
  | with_reducible refine G.r_test ?_
  | with_reducible refine G.r_and ?_
  | with_reducible refine G.r_or ?_
  | with_reducible refine G.r_not ?_
  | with_reducible refine G.r_if ?_
  | with_reducible refine G.r_drop ?_
  | with_reducible refine G.r_bm ?_
  | with_reducible refine G.r_bm0 ?_
  | with_reducible refine G.r_tup ?_
  | with_reducible refine G.r_lst ?_
  | with_reducible refine G.r_un ?_
  | with_reducible refine G.r_tB ?_
  | with_reducible refine G.r_exbl ?_
  | with_reducible refine G.r_exbl' ?_
  | with_reducible refine G.r_chain ?_
  | with_reducible refine G.r_orT ?_
  | with_reducible refine G.r_andT ?_
  | with_reducible refine G.r_notT ?_
  | with_reducible refine G.r_nx ?_
  | with_reducible refine G.r_tr ?_
  | with_reducible refine G.r_for ?_
  | with_reducible refine G.r_iRng1 ?_
  | with_reducible refine G.r_iRng2 ?_
  | with_reducible refine G.r_iTup ?_
  | with_reducible refine G.r_gIt ?_
  | ((with_reducible refine' G.w_rng1 ?k1 ?_); (case k1 => first | decide | omega | (simp only [List.length_map]; omega)))
  | ((with_reducible refine' G.w_rng2 ?k1 ?_); (case k1 => first | decide | omega | (simp only [List.length_map]; omega)))
  | ((with_reducible refine' G.w_tup ?k1 ?_); (case k1 => first | assumption | exact L2.SqT.of (by walk_at "hp")))
  | ((with_reducible refine' G.w_itL ?k1 ?_); (case k1 => first | assumption | exact L2.SqL.of (by walk_at "hp")))
  | ((with_reducible refine' G.w_itT ?k1 ?_); (case k1 => first | assumption | exact L2.SqT.of (by walk_at "hp")))
  | with_reducible refine G.w_itS ?_
  | with_reducible refine G.r_retN ?_
  | with_reducible refine G.r_sl ?_
  | with_reducible refine G.r_nopart ?_
  | with_reducible refine G.r_part ?_
  | with_reducible refine G.r_exint ?_
  | with_reducible refine G.r_yes ?_
  | with_reducible refine G.r_lc ?_
  | with_reducible refine G.b_str ?_
  | ((with_reducible refine' G.b_lst ?k1 ?_); (case k1 => walk_at "hp"))
  | with_reducible refine G.t_bl ?_
  | with_reducible refine G.t_int ?_
  | with_reducible refine G.t_non ?_
  | ((with_reducible refine' G.t_str ?k1 ?_); (case k1 => walk_at "sz"))
  | ((with_reducible refine' G.t_lst ?k1 ?_); (case k1 => walk_at "hp"))
  | walk_at "v1"
  | walk_at "i1")
local macro_rules | `(tactic| walk_at "v1") => `(tactic| first
  | with_reducible refine G.v_addI ?_
  | ((with_reducible refine' G.v_addS ?k1 ?_); (case k1 => walk_at "sz"))
  | with_reducible refine G.v_sub ?_
  | ((with_reducible refine' G.v_mul ?k1 ?_); (case k1 => first | exact Or.inr (by decide) | exact Or.inl (by decide) | (unfold L2.CMul; omega)))
  | ((with_reducible refine' G.v_div ?k1 ?_); (case k1 => first | exact ⟨by decide, by decide⟩ | exact ⟨by omega, by omega⟩))
  | ((with_reducible refine' G.v_mod ?k1 ?_); (case k1 => first | decide | omega))
  | ((with_reducible refine' G.v_pow ?k1 ?_); (case k1 => exact ⟨by decide, by decide, by decide⟩))
  | with_reducible refine G.v_ltI ?_
  | with_reducible refine G.v_leI ?_
  | with_reducible refine G.v_gt ?_
  | with_reducible refine G.v_ge ?_
  | with_reducible refine G.v_eqI ?_
  | with_reducible refine G.v_eqS ?_
  | with_reducible refine G.v_eqB ?_
  | with_reducible refine G.v_neI ?_
  | with_reducible refine G.v_neS ?_
  | with_reducible refine G.v_neB ?_
  | with_reducible refine G.v_eqN ?_
  | with_reducible refine G.v_neN ?_
  | with_reducible refine G.v_isN ?_
  | with_reducible refine G.v_isB ?_
  | with_reducible refine G.v_isI ?_
  | with_reducible refine G.v_isS ?_
  | with_reducible refine G.v_isR ?_
  | with_reducible refine G.v_isnotN ?_
  | with_reducible refine G.v_isnotB ?_
  | with_reducible refine G.v_isnotI ?_
  | with_reducible refine G.v_isnotS ?_
  | with_reducible refine G.v_isnotR ?_
  | ((with_reducible refine' G.v_ixLs ?k1 ?k2 ?_); (case k1 => assumption); (case k2 => first | rfl | assumption))
  | ((with_reducible refine' G.v_ixTs ?k1 ?k2 ?_); (case k1 => assumption); (case k2 => first | rfl | assumption))
  | ((with_reducible refine' G.v_lenLs ?k1 ?_); (case k1 => assumption))
  | ((with_reducible refine' G.v_lenTs ?k1 ?_); (case k1 => assumption))
  | ((with_reducible refine' G.v_ixL ?k1 ?k2 ?_); (case k1 => walk_at "hp"); (case k2 => first | rfl | assumption))
  | ((with_reducible refine' G.v_ixT ?k1 ?k2 ?_); (case k1 => walk_at "hp"); (case k2 => first | rfl | assumption))
  | ((with_reducible refine' G.v_ixS ?k1 ?k2 ?_); (case k1 => walk_at "sz"); (case k2 => first | rfl | assumption))
  | ((with_reducible refine' G.v_setL ?k1 ?k2 ?_); (case k1 => walk_at "hp"); (case k2 => first | rfl | assumption); dsimp only [Int.reduceToNat, List.set_cons_succ, List.set_cons_zero])
  | ((with_reducible refine' G.v_lenL ?k1 ?_); (case k1 => walk_at "hp"))
  | ((with_reducible refine' G.v_lenT ?k1 ?_); (case k1 => walk_at "hp"))
  | ((with_reducible refine' G.v_lenS ?k1 ?_); (case k1 => walk_at "sz"))
  | with_reducible refine G.v_intI ?_
  | with_reducible refine G.v_intB ?_
  | with_reducible refine G.v_min ?_
  | ((with_reducible refine' G.v_append ?k1 ?k2 ?_); (case k1 => walk_at "hp"); (case k2 => walk_at "sz"))
  | ((with_reducible refine' G.v_extend ?k1 ?k2 ?k3 ?_); (case k1 => walk_at "hp"); (case k2 => walk_at "hp"); (case k3 => walk_at "sz"))
  | ((with_reducible refine' G.v_split ?k1 ?k2 ?_); (case k1 => rfl); (case k2 => walk_at "sz"))
  | ((with_reducible refine' G.v_slL ?k1 ?_); (case k1 => walk_at "hp"))
  | ((with_reducible refine' G.v_slS ?k1 ?_); (case k1 => walk_at "sz"))
  | with_reducible refine G.v_inS ?_
  | with_reducible refine G.v_notinS ?_
  | with_reducible refine G.v_ord ?_
  | ((with_reducible refine' G.v_all ?k1 ?_); (case k1 => walk_at "hp"))
  | ((with_reducible refine' G.v_any ?k1 ?_); (case k1 => walk_at "hp"))
  | ((with_reducible refine' G.v_str ?k1 ?_); (case k1 => first | assumption | exact G.log_ok (by omega) (by omega)))
  | ((with_reducible refine' G.v_intS ?k1 ?k2 ?_); (case k1 => assumption); (case k2 => walk_at "sz"))
  | ((with_reducible refine' G.v_join ?k1 ?k2 ?_); (case k1 => walk_at "hp"); (case k2 => walk_at "sz"))
  | ((with_reducible refine' G.v_isiI ?k1 ?_); (case k1 => walk_at "kit"))
  | ((with_reducible refine' G.v_isiB ?k1 ?_); (case k1 => walk_at "kit"))
  | ((with_reducible refine' G.v_isiS ?k1 ?_); (case k1 => walk_at "kit"))
  | ((with_reducible refine' G.v_isiN ?k1 ?_); (case k1 => walk_at "kit"))
  | ((with_reducible refine' G.v_isiL ?k1 ?k2 ?_); (case k1 => assumption); (case k2 => walk_at "kit"))
  | ((with_reducible refine' G.v_isiT ?k1 ?k2 ?_); (case k1 => assumption); (case k2 => walk_at "kit"))
  | with_reducible refine G.v_ltS ?_
  | with_reducible refine G.v_leS ?_)
local macro_rules | `(tactic| walk_at "i1") => `(tactic| first
  | with_reducible refine G.i_t ?_
  | with_reducible refine G.i_f ?_
  | with_reducible refine G.i_nt ?_
  | with_reducible refine G.i_nf ?_
  | with_reducible refine G.i_nn ?_
  | ((with_reducible refine' G.i_dt ?k1 ?_); (case k1 => first | assumption | omega | decide))
  | ((with_reducible refine' G.i_df ?k1 ?_); (case k1 => first | assumption | omega | decide))
  | ((with_reducible refine' G.i_ndt ?k1 ?_); (case k1 => first | assumption | omega | decide))
  | ((with_reducible refine' G.i_ndf ?k1 ?_); (case k1 => first | assumption | omega | decide)))
local macro_rules | `(tactic| walk_at "rd") => `(tactic| repeat walk_at "r1")
local macro_rules | `(tactic| walk_at "if") => `(tactic| first
  | with_reducible refine G.i_d ?_ ?_
  | with_reducible refine G.i_nd ?_ ?_
  | with_reducible refine G.i_b ?_ ?_)

namespace L
open PySem L2 G TL

def top (i : Nat) : Stmt := PySem.Challenge.pw_blameless_k01_words_and_numbers.main.body.getD i (.Pass ⟨0, 0, 0, 0⟩)
abbrev s_split_words : Stmt := top 4
theorem sc_split_words : FnScope ["text"] ["text"] (defScope s_split_words) := ⟨rfl, rfl, rfl, by decide +kernel, rfl, by decide +kernel, by decide +kernel⟩
abbrev s_number_of : Stmt := top 5
theorem sc_number_of : FnScope ["word", "number"] ["word"] (defScope s_number_of) := ⟨rfl, rfl, rfl, by decide +kernel, rfl, by decide +kernel, by decide +kernel⟩
abbrev s_is_digits : Stmt := top 6
theorem sc_is_digits : FnScope ["word", "letter"] ["word"] (defScope s_is_digits) := ⟨rfl, rfl, rfl, by decide +kernel, rfl, by decide +kernel, by decide +kernel⟩
abbrev s_l_pool : Stmt := top 8
theorem sc_l_pool : FnScope ["script", "budget"] ["script", "budget"] (defScope s_l_pool) := ⟨rfl, rfl, rfl, by decide +kernel, rfl, by decide +kernel, by decide +kernel⟩
abbrev s_l_draw : Stmt := top 9
theorem sc_l_draw : FnScope ["pool", "size", "cell", "value"] ["pool", "size"] (defScope s_l_draw) := ⟨rfl, rfl, rfl, by decide +kernel, rfl, by decide +kernel, by decide +kernel⟩
abbrev s_l_spend : Stmt := top 10
theorem sc_l_spend : FnScope ["pool"] ["pool"] (defScope s_l_spend) := ⟨rfl, rfl, rfl, by decide +kernel, rfl, by decide +kernel, by decide +kernel⟩
abbrev s_l_few : Stmt := top 11
theorem sc_l_few : FnScope ["pool", "most", "few"] ["pool", "most"] (defScope s_l_few) := ⟨rfl, rfl, rfl, by decide +kernel, rfl, by decide +kernel, by decide +kernel⟩
abbrev s_l_number : Stmt := top 12
theorem sc_l_number : FnScope ["pool"] ["pool"] (defScope s_l_number) := ⟨rfl, rfl, rfl, by decide +kernel, rfl, by decide +kernel, by decide +kernel⟩
abbrev s_l_same : Stmt := top 13
theorem sc_l_same : FnScope ["actual", "due", "k"] ["actual", "due"] (defScope s_l_same) := ⟨rfl, rfl, rfl, by decide +kernel, rfl, by decide +kernel, by decide +kernel⟩
abbrev s_l_char : Stmt := top 14
theorem sc_l_char : FnScope ["pool", "chars"] ["pool"] (defScope s_l_char) := ⟨rfl, rfl, rfl, by decide +kernel, rfl, by decide +kernel, by decide +kernel⟩
abbrev s_l_split : Stmt := top 15
theorem sc_l_split : FnScope ["text", "words", "char"] ["text"] (defScope s_l_split) := ⟨rfl, rfl, rfl, by decide +kernel, rfl, by decide +kernel, by decide +kernel⟩
abbrev s_l_word : Stmt := top 16
theorem sc_l_word : FnScope ["pool", "k", "number", "word", "place"] ["pool"] (defScope s_l_word) := ⟨rfl, rfl, rfl, by decide +kernel, rfl, by decide +kernel, by decide +kernel⟩
abbrev s_l_number_of : Stmt := top 17
theorem sc_l_number_of : FnScope ["word", "number", "char"] ["word"] (defScope s_l_number_of) := ⟨rfl, rfl, rfl, by decide +kernel, rfl, by decide +kernel, by decide +kernel⟩
abbrev s_law : Stmt := top 18
theorem sc_law : FnScope ["script", "pool", "text", "k", "word"] ["script"] (defScope s_law) := ⟨rfl, rfl, rfl, by decide +kernel, rfl, by decide +kernel, by decide +kernel⟩
structure Top (K : PySem.W.Frag) (mg : Str → Option Value) : Prop where
  f_split_words : FunAt K mg "split_words" "split_words" s_split_words
  f_number_of : FunAt K mg "number_of" "number_of" s_number_of
  f_is_digits : FunAt K mg "is_digits" "is_digits" s_is_digits
  f_l_pool : FunAt K mg "_law_pool" "_law_pool" s_l_pool
  f_l_draw : FunAt K mg "_law_draw" "_law_draw" s_l_draw
  f_l_spend : FunAt K mg "_law_spend" "_law_spend" s_l_spend
  f_l_few : FunAt K mg "_law_few" "_law_few" s_l_few
  f_l_number : FunAt K mg "_law_number" "_law_number" s_l_number
  f_l_same : FunAt K mg "_law_same" "_law_same" s_l_same
  f_l_char : FunAt K mg "_law_char" "_law_char" s_l_char
  f_l_split : FunAt K mg "_law_split" "_law_split" s_l_split
  f_l_word : FunAt K mg "_law_word" "_law_word" s_l_word
  f_l_number_of : FunAt K mg "_law_number_of" "_law_number_of" s_l_number_of
  f_law : FunAt K mg "law" "law" s_law
  c_WORD_COUNT : ∃ t, mg "WORD_COUNT" = some (.int 65536 t)
  c_DIGITS : ∃ t, mg "DIGITS" = some (.str "0123456789" t)
  c_MOST_DIGITS : ∃ t, mg "MOST_DIGITS" = some (.int 5 t)
  b_all : mg "all" = none
  b_bool : mg "bool" = none
  b_int : mg "int" = none
  b_isinstance : mg "isinstance" = none
  b_len : mg "len" = none
  b_list : mg "list" = none
  b_min : mg "min" = none
  b_ord : mg "ord" = none
  b_range : mg "range" = none
  b_str : mg "str" = none
  b_tuple : mg "tuple" = none
/-! ### the pool of draws: it stands at p, its list of the script's numbers somewhere -/
def PoolAt (H : Hp) (p sc : Addr) : Prop := ∃ (a b c d e : Int) (ns : List Int), H p = some (.lst [.ref sc, .int a, .int b, .int c, .int d, .int e]) ∧ H sc = some (.lst (ns.map V.int)) ∧ 0 ≤ a
theorem PoolAt.upd {H : Hp} {p sc q : Addr} {o : HO} (h : PoolAt H p sc) (n1 : q ≠ p) (n2 : q ≠ sc) : PoolAt (upd H q o) p sc := by
  obtain ⟨a, b, c, d, e, ns, hp, hs, ha⟩ := h
  exact ⟨a, b, c, d, e, ns, by rw [upd_ne n1.symm]; exact hp, by rw [upd_ne n2.symm]; exact hs, ha⟩
theorem PoolAt.ne {H : Hp} {p sc q : Addr} (h : PoolAt H p sc) (n : H q = none) : p ≠ q := by
  obtain ⟨a, b, c, d, e, ns, hp, hs, ha⟩ := h
  exact ne_of_none hp n
theorem PoolAt.ne' {H : Hp} {p sc q : Addr} (h : PoolAt H p sc) (n : H q = none) : sc ≠ q := by
  obtain ⟨a, b, c, d, e, ns, hp, hs, ha⟩ := h
  exact ne_of_none hs n
theorem PoolAt.laid {H : Hp} {p sc q : Addr} {o : HO} (h : PoolAt H p sc) (n : H q = none) : PoolAt (L2.upd H q o) p sc := h.upd (h.ne n).symm (h.ne' n).symm
theorem PoolAt.same {H H' : Hp} {p sc : Addr} (h : PoolAt H p sc) (s : Same H H') : PoolAt H' p sc := by
  obtain ⟨a, b, c, d, e, ns, hp, hs, ha⟩ := h
  exact ⟨a, b, c, d, e, ns, s _ _ hp, s _ _ hs, ha⟩
/-- all but the object p stays -/
def But (p : Addr) (H H' : Hp) : Prop := ∀ b, b ≠ p → H' b = H b
theorem But.refl (p : Addr) (H : Hp) : But p H H := fun _ _ => rfl
theorem But.trans {p : Addr} {H H1 H2 : Hp} (a : But p H H1) (b : But p H1 H2) : But p H H2 := fun q h => (b q h).trans (a q h)
theorem But.upd {p : Addr} {H H' : Hp} {o : HO} (a : But p H H') : But p H (upd H' p o) := fun q h => (upd_ne h).trans (a q h)
def sp_l_pool (K : PySem.W.Frag) : Sp := fun vs H Q _ => ∃ (a : Addr) (ns : List Int) (n : Int), vs = [.ref a, .int n] ∧ SqL K H a (ns.map V.int) ∧ ∀ p sc H', H p = none → H sc = none → Same H H' → PoolAt H' p sc → Q (.ref p) H'
def sp_l_draw : Sp := fun vs H Q _ => ∃ (p sc : Addr) (n : Int), vs = [.ref p, .int n] ∧ PoolAt H p sc ∧ (0 < n ∧ n < 1073741824) ∧ ∀ r H', PoolAt H' p sc → But p H H' → 0 ≤ r → r < n → Q (.int r) H'
def sp_l_few : Sp := fun vs H Q _ => ∃ (p sc : Addr) (n : Int), vs = [.ref p, .int n] ∧ PoolAt H p sc ∧ (0 ≤ n ∧ n < 1073741823) ∧ ∀ r H', PoolAt H' p sc → But p H H' → 0 ≤ r → r ≤ n → Q (.int r) H'
def sp_l_number : Sp := fun vs H Q _ => ∃ (p sc : Addr), vs = [.ref p] ∧ PoolAt H p sc ∧ ∀ r H', PoolAt H' p sc → But p H H' → 0 ≤ r → r < 65536 → Q (.int r) H'
def sp_l_spend : Sp := fun vs H Q _ => ∃ (p sc : Addr), vs = [.ref p] ∧ PoolAt H p sc ∧ ∀ b H', PoolAt H' p sc → But p H H' → Q (.bl b) H'
inductive Da (K : PySem.W.Frag) (H : Hp) : Nat → V → V → Prop
  | non {n : Nat} : Da K H (n + 1) .non .non
  | bl {n : Nat} (b : Bool) : Da K H (n + 1) (.bl b) (.bl b)
  | int {n : Nat} (i : Int) : Da K H (n + 1) (.int i) (.int i)
  | str {n : Nat} (z : Str) : Da K H (n + 1) (.str z) (.str z)
  | lst {n : Nat} {a b : Addr} {xs ys : List V} : SqL K H a xs → SqL K H b ys → xs.length = ys.length → xs.length ≤ 1000000 → (∀ (i : Nat) x y, xs[i]? = some x → ys[i]? = some y → Da K H n x y) → Da K H (n + 1) (.ref a) (.ref b)
  | tup {n : Nat} {a b : Addr} {xs ys : List V} : SqT K H a xs → SqT K H b ys → xs.length = ys.length → xs.length ≤ 1000000 → (∀ (i : Nat) x y, xs[i]? = some x → ys[i]? = some y → Da K H n x y) → Da K H (n + 1) (.ref a) (.ref b)
def sp_l_same (K : PySem.W.Frag) (n : Nat) : Sp := fun vs H Q _ => ∃ x y, vs = [x, y] ∧ Da K H n x y ∧ Q (.bl true) H
theorem ne_pool {H : Hp} {sc p : Addr} {ns : List Int} {q : Addr} {vs : List V} (hs : H sc = some (.lst (ns.map V.int))) (hp : H p = some (.lst (.ref q :: vs))) : sc ≠ p := ne_of hs hp (by
  intro q
  injection q with q
  cases ns with
  | nil => cases q
  | cons z zs =>
    rw [List.map_cons] at q
    injection q with q1 _
    cases q1)
theorem atI_int {ns : List Int} {i : Int} (h0 : 0 ≤ i) (h : i < ((ns.map V.int).length : Int)) : ∃ z, atI (ns.map V.int) i = some (.int z) := by
  have hl : i.toNat < ns.length := by rw [List.length_map] at h; omega
  refine ⟨ns[i.toNat], ?_⟩
  have q : atI (ns.map V.int) ((i.toNat : Nat) : Int) = some (.int ns[i.toNat]) := atI_nat (by rw [List.getElem?_map, List.getElem?_eq_getElem hl]; rfl)
  rwa [Int.toNat_of_nonneg h0] at q
section
variable {P : Program} {w : World} {K : PySem.W.Frag} {mg : Str → Option Value} {base : Heap}
theorem ok_l_pool (T : Top K mg) : Cal P w K mg base CX0 1 "_law_pool" ["script", "budget"] (sp_l_pool K) := by
  refine def_ok T.f_l_pool sc_l_pool (fun _ _ _ _ _ _ us hl => match us, hl with | [_, _], _ => rfl) (fun vs H Q E h => ?_) (fun f cdv A outer s H vs Q E hr h => ?_)
  · obtain ⟨a, ns, n, rfl, _⟩ := h
    rfl
  · obtain ⟨a, ns, n, rfl, hS, k⟩ := h
    refine ⟨_, (pss_one (ps_ret (pe_lst (pa_cons (pe_callTy (g_list (K := K)) (by rfl) T.b_list (by decide +kernel) (pa_cons (pv 0) pa_nil)) (pa_cons pe_int (pa_cons pe_int (pa_cons pe_int (pa_cons pe_int (pa_cons (pv 1) pa_nil))))))))), ?_⟩
    walk_at "rd"
    refine ⟨a, _, rfl, .inl hS, fun l hl => ?_⟩
    walk_at "rd"
    refine ⟨by walk_at "sz", fun p hp => ?_⟩
    have npl : l ≠ p := ne_of_none upd_same hp
    have hp0 : H p = none := by rw [upd_ne npl.symm] at hp; exact hp
    refine k p l _ hp0 hl ?_ ⟨0, 0, 1, 0, n, ns, upd_same, by rw [upd_ne npl, upd_same], by decide⟩
    exact Same.laid (Same.laid (Same.refl H) hl) hp
theorem ok_l_draw (T : Top K mg) : Cal P w K mg base CX0 1 "_law_draw" ["pool", "size"] sp_l_draw := by
  refine def_ok T.f_l_draw sc_l_draw (fun _ _ _ _ _ _ us hl => match us, hl with | [_, _], _ => rfl) (fun vs H Q E h => ?_) (fun f cdv A outer s H vs Q E hr h => ?_)
  · obtain ⟨p, sc, n, rfl, _⟩ := h
    rfl
  · obtain ⟨p, sc, n, rfl, ⟨a, b, c, d, e, ns, hp, hs, ha⟩, ⟨hn, hn2⟩, k⟩ := h
    have nsp : sc ≠ p := ne_pool hs hp
    refine ⟨_, (pss_cut (ps_if (PW.pt (pw_and (pt_cmpR g_le (pe_ix (g_ix (K := K)) (pv 0) pe_int (fun _ _ => rfl)) pe_int (nomark _)) (pw_and (pt_cmpR g_le (pe_ix (g_ix (K := K)) (pv 0) pe_int (fun _ _ => rfl)) pe_int (nomark _)) (pw_and1 (pt_cmpR g_lt (pe_ix (g_ix (K := K)) (pv 0) pe_int (fun _ _ => rfl)) (pe_callB (g_len (K := K)) (by rfl) T.b_len PySem.boot_len (pa_cons (pe_ix (g_ix (K := K)) (pv 0) pe_int (fun _ _ => rfl)) pa_nil)) (nomark _))))))
  (pss_cons (ps_set (i := 2) sc_l_draw.nd rfl (by first | exact Or.inl rfl | exact Or.inr rfl) (pe_ix (g_ix (K := K)) (pe_ix (g_ix (K := K)) (pv 0) pe_int (fun _ _ => rfl)) (pe_ix (g_ix (K := K)) (pv 0) pe_int (fun _ _ => rfl)) (fun _ _ => rfl)))
    (pss_cons (ps_asg (pe_op (g_add (K := K)) (pe_ix (g_ix (K := K)) (pv 0) pe_int (fun _ _ => rfl)) pe_int) (pg_sub (pv 0) pe_int set_list))
    (pss_cons (ps_asg (pe_op g_mod (pe_callTy g_int (by rfl) T.b_int (by decide +kernel) (pa_cons (pe_op (g_add (K := K)) (pe_op g_mul (pe_ix (g_ix (K := K)) (pv 0) pe_int (fun _ _ => rfl)) pe_int) (pv 2)) pa_nil)) pe_int) (pg_sub (pv 0) pe_int set_list))
    (pss_cons (ps_asg pe_int (pg_sub (pv 0) pe_int set_list))
    (pss_one (ps_if (pt_cmpR g_ge (pv 2) (pe_op g_pow pe_int pe_int) (nomark _))
    (pss_one (ps_asg (pv 2) (pg_sub (pv 0) pe_int set_list)))
    pss_nil))))))
  pss_nil)
  (pss_cons (ps_if (pt_cmpR g_gt (pe_ix (g_ix (K := K)) (pv 0) pe_int (fun _ _ => rfl)) pe_int (nomark _))
  (pss_cons (ps_set (i := 3) sc_l_draw.nd rfl (by first | exact Or.inl rfl | exact Or.inr rfl) (pe_op g_mod (pe_callTy g_int (by rfl) T.b_int (by decide +kernel) (pa_cons (pe_ix (g_ix (K := K)) (pv 0) pe_int (fun _ _ => rfl)) pa_nil)) (pv 1)))
    (pss_cons (ps_asg (pe_op g_div (pe_ix (g_ix (K := K)) (pv 0) pe_int (fun _ _ => rfl)) (pv 1)) (pg_sub (pv 0) pe_int set_list))
    (pss_cons (ps_asg pe_int (pg_sub (pv 0) pe_int set_list))
    (pss_one (ps_ret (pv 3))))))
  pss_nil)
  (pss_cons (ps_asg (pe_op g_sub (pe_ix (g_ix (K := K)) (pv 0) pe_int (fun _ _ => rfl)) pe_int) (pg_sub (pv 0) pe_int set_list))
  (pss_cons (ps_asg (pe_op g_mod (pe_callTy g_int (by rfl) T.b_int (by decide +kernel) (pa_cons (pe_op (g_add (K := K)) (pe_op g_mul (pe_ix (g_ix (K := K)) (pv 0) pe_int (fun _ _ => rfl)) pe_int) pe_int) pa_nil)) pe_int) (pg_sub (pv 0) pe_int set_list))
  (pss_one (ps_ret (pe_op g_mod (pe_op g_mod (pe_callTy g_int (by rfl) T.b_int (by decide +kernel) (pa_cons (pe_op (g_add (K := K)) (pe_op g_mul (pe_ix (g_ix (K := K)) (pv 0) pe_int (fun _ _ => rfl)) pe_int) pe_int) pa_nil)) pe_int) (pv 1)))))))), ?_⟩
    refine G.r_cut (fun σ H2 => ∃ v2, σ = [some (.ref p), some (.int n), v2, none] ∧ PoolAt H2 p sc ∧ But p H H2) ?_ ?_
    · have skip : ∃ v2, ([some (.ref p), some (.int n), none, none] : L2.St) = [some (.ref p), some (.int n), v2, none] ∧ PoolAt H p sc ∧ But p H H := ⟨none, rfl, ⟨a, b, c, d, e, ns, hp, hs, ha⟩, But.refl p H⟩
      walk_at "rd"
      refine G.i_d (fun h1 => ?_) (fun h1 => ?_)
      · walk_at "rd"
        refine G.i_d (fun h2 => ?_) (fun h2 => ?_)
        · walk_at "rd"
          refine G.i_d (fun h3 => ?_) (fun h3 => ?_)
          · obtain ⟨z, hz⟩ := atI_int ha h3
            walk_at "rd"
            refine G.i_d (fun h4 => ?_) (fun h4 => ?_)
            · walk_at "rd"
              exact ⟨_, rfl, ⟨_, _, _, _, _, ns, upd_same, by rw [upd_ne nsp, upd_ne nsp, upd_ne nsp, upd_ne nsp]; exact hs, by omega⟩, (((But.refl p H).upd.upd).upd).upd⟩
            · walk_at "rd"
              exact ⟨_, rfl, ⟨_, _, _, _, _, ns, upd_same, by rw [upd_ne nsp, upd_ne nsp, upd_ne nsp]; exact hs, by omega⟩, (((But.refl p H).upd.upd).upd)⟩
          · walk_at "rd"; exact skip
        · walk_at "rd"; exact skip
      · walk_at "rd"; exact skip
    · rintro σ H2 ⟨v2, rfl, ⟨a, b, c, d, e, ns, hp, hs, ha⟩, hb⟩
      have nsp : sc ≠ p := ne_pool hs hp
      walk_at "rd"
      refine G.i_d (fun h1 => ?_) (fun h1 => ?_)
      · walk_at "rd"
        exact k _ _ ⟨_, _, _, _, _, ns, upd_same, by rw [upd_ne nsp, upd_ne nsp]; exact hs, ha⟩ hb.upd.upd (Int.emod_nonneg _ (by omega)) (Int.emod_lt_of_pos _ hn)
      · walk_at "rd"
        exact k _ _ ⟨_, _, _, _, _, ns, upd_same, by rw [upd_ne nsp, upd_ne nsp]; exact hs, ha⟩ hb.upd.upd (Int.emod_nonneg _ (by omega)) (Int.emod_lt_of_pos _ hn)
theorem ok_l_few (T : Top K mg) : Cal P w K mg base CX0 2 "_law_few" ["pool", "most"] sp_l_few := by
  refine def_ok T.f_l_few sc_l_few (fun _ _ _ _ _ _ us hl => match us, hl with | [_, _], _ => rfl) (fun vs H Q E h => ?_) (fun f cdv A outer s H vs Q E hr h => ?_)
  · obtain ⟨p, sc, n, rfl, _⟩ := h
    rfl
  · obtain ⟨p, sc, n, rfl, hp, ⟨hn, hn2⟩, k⟩ := h
    refine ⟨_, (pss_cons (ps_set (i := 2) sc_l_few.nd rfl (by first | exact Or.inl rfl | exact Or.inr rfl) (g_call (ok_l_draw T) (hr.mono (by decide)) (by rfl) pass0 (pa_cons (pv 0) (pa_cons pe_int pa_nil))))
  (pss_cons (ps_if (pt_cmpR g_eq (pv 2) pe_int (nomark _))
  (pss_one (ps_ret (g_call (ok_l_draw T) (hr.mono (by decide)) (by rfl) pass0 (pa_cons (pv 0) (pa_cons (pe_op (g_add (K := K)) (pv 1) pe_int) pa_nil)))))
  pss_nil)
  (pss_one (ps_ret (pe_callB (g_min rfl) (by rfl) T.b_min (by decide +kernel) (pa_cons (pv 2) (pa_cons (pv 1) pa_nil))))))), ?_⟩
    walk_at "rd"
    refine ⟨p, sc, 4, rfl, hp, by decide, fun r H1 p1 b1 r0 r1 => ?_⟩
    walk_at "rd"
    refine G.i_d (fun h1 => ?_) (fun h1 => ?_)
    · walk_at "rd"
      exact ⟨p, sc, _, rfl, p1, by omega, fun r' H2 p2 b2 r0' r1' => k _ _ p2 (b1.trans b2) r0' (by omega)⟩
    · walk_at "rd"
      refine k _ _ p1 b1 ?_ ?_ <;> split <;> omega
theorem ok_l_number (T : Top K mg) : Cal P w K mg base CX0 2 "_law_number" ["pool"] sp_l_number := by
  refine def_ok T.f_l_number sc_l_number (fun _ _ _ _ _ _ us hl => match us, hl with | [_], _ => rfl) (fun vs H Q E h => ?_) (fun f cdv A outer s H vs Q E hr h => ?_)
  · obtain ⟨p, sc, rfl, _⟩ := h
    rfl
  · obtain ⟨p, sc, rfl, hp, k⟩ := h
    refine ⟨_, (pss_cons (ps_if (pt_cmpR g_eq (g_call (ok_l_draw T) (hr.mono (by decide)) (by rfl) pass0 (pa_cons (pv 0) (pa_cons pe_int pa_nil))) pe_int (nomark _))
  (pss_one (ps_ret (g_call (ok_l_draw T) (hr.mono (by decide)) (by rfl) pass0 (pa_cons (pv 0) (pa_cons pe_int pa_nil)))))
  pss_nil)
  (pss_one (ps_ret (g_call (ok_l_draw T) (hr.mono (by decide)) (by rfl) pass0 (pa_cons (pv 0) (pa_cons pe_int pa_nil)))))), ?_⟩
    walk_at "rd"
    refine ⟨p, sc, 3, rfl, hp, by decide, fun r H1 p1 b1 r0 r1 => ?_⟩
    walk_at "rd"
    refine G.i_d (fun h1 => ?_) (fun h1 => ?_)
    · walk_at "rd"
      exact ⟨p, sc, _, rfl, p1, by decide, fun r' H2 p2 b2 r0' r1' => k _ _ p2 (b1.trans b2) r0' (by omega)⟩
    · walk_at "rd"
      exact ⟨p, sc, _, rfl, p1, by decide, fun r' H2 p2 b2 r0' r1' => k _ _ p2 (b1.trans b2) r0' (by omega)⟩
theorem ok_l_spend (T : Top K mg) : Cal P w K mg base CX0 1 "_law_spend" ["pool"] sp_l_spend := by
  refine def_ok T.f_l_spend sc_l_spend (fun _ _ _ _ _ _ us hl => match us, hl with | [_], _ => rfl) (fun vs H Q E h => ?_) (fun f cdv A outer s H vs Q E hr h => ?_)
  · obtain ⟨p, sc, rfl, _⟩ := h
    rfl
  · obtain ⟨p, sc, rfl, ⟨a, b, c, d, e, ns, hp, hs, ha⟩, k⟩ := h
    have nsp : sc ≠ p := ne_pool hs hp
    refine ⟨_, (pss_cons (ps_asg (pe_op g_sub (pe_ix (g_ix (K := K)) (pv 0) pe_int (fun _ _ => rfl)) pe_int) (pg_sub (pv 0) pe_int set_list))
  (pss_one (ps_ret (pe_cmpR g_ge (pe_ix (g_ix (K := K)) (pv 0) pe_int (fun _ _ => rfl)) pe_int (nomark _))))), ?_⟩
    walk_at "rd"
    exact k _ _ ⟨_, _, _, _, _, ns, upd_same, by rw [upd_ne nsp]; exact hs, ha⟩ (But.refl p H).upd
/-! ### two values that are the same data, to the depth n -/
theorem ok_l_same (T : Top K mg) : ∀ n, Cal P w K mg base CX0 n "_law_same" ["actual", "due"] (sp_l_same K n)
  | 0 => def_none T.f_l_same (fun _ _ _ _ _ _ us hl => match us, hl with | [_, _], _ => rfl) fun vs H Q E ⟨x, y, _, h, _⟩ => by cases h
  | n + 1 => by
    have IH := ok_l_same T n
    refine def_ok T.f_l_same sc_l_same (fun _ _ _ _ _ _ us hl => match us, hl with | [_, _], _ => rfl) (fun vs H Q E h => ?_) (fun f cdv A outer s H vs Q E hr h => ?_)
    · obtain ⟨x, y, rfl, _⟩ := h
      rfl
    · obtain ⟨x, y, rfl, h, k⟩ := h
      refine ⟨_, (pss_cons (ps_if (PW.pt (pw_or (g_truth (K := K) (pe_callB (g_isi (K := K)) (by rfl) T.b_isinstance (by decide +kernel) (pa_cons (pv 1) (pa_cons (pe_bltn (v := .ty "tuple") (by rfl) T.b_tuple (by decide +kernel) rfl) pa_nil))) (by intro _; rfl)) (pw_or1 (g_truth (K := K) (pe_callB (g_isi (K := K)) (by rfl) T.b_isinstance (by decide +kernel) (pa_cons (pv 1) (pa_cons (pe_bltn (v := .ty "list") (by rfl) T.b_list (by decide +kernel) rfl) pa_nil))) (by intro _; rfl)))))
  (pss_cons (ps_if (PW.pt (pw_or (pt_cmpR g_ne (pe_callB (g_isi (K := K)) (by rfl) T.b_isinstance (by decide +kernel) (pa_cons (pv 1) (pa_cons (pe_bltn (v := .ty "tuple") (by rfl) T.b_tuple (by decide +kernel) rfl) pa_nil))) (pe_callB (g_isi (K := K)) (by rfl) T.b_isinstance (by decide +kernel) (pa_cons (pv 0) (pa_cons (pe_bltn (v := .ty "tuple") (by rfl) T.b_tuple (by decide +kernel) rfl) pa_nil))) (nomark _)) (pw_or1 (pt_cmpR g_ne (pe_callB (g_isi (K := K)) (by rfl) T.b_isinstance (by decide +kernel) (pa_cons (pv 1) (pa_cons (pe_bltn (v := .ty "list") (by rfl) T.b_list (by decide +kernel) rfl) pa_nil))) (pe_callB (g_isi (K := K)) (by rfl) T.b_isinstance (by decide +kernel) (pa_cons (pv 0) (pa_cons (pe_bltn (v := .ty "list") (by rfl) T.b_list (by decide +kernel) rfl) pa_nil))) (nomark _)))))
    (pss_one (ps_ret pe_bl))
    pss_nil)
    (pss_cons (ps_if (pt_cmpR g_ne (pe_callB (g_len (K := K)) (by rfl) T.b_len PySem.boot_len (pa_cons (pv 0) pa_nil)) (pe_callB (g_len (K := K)) (by rfl) T.b_len PySem.boot_len (pa_cons (pv 1) pa_nil)) (nomark _))
    (pss_one (ps_ret pe_bl))
    pss_nil)
    (pss_cons (ps_for PassesOwn.never rfl (pi_range1 rfl T.b_range (pa_cons (pe_callB (g_len (K := K)) (by rfl) T.b_len PySem.boot_len (pa_cons (pv 1) pa_nil)) pa_nil)) (pg_name (i := 2) sc_l_same.nd rfl (by first | exact Or.inl rfl | exact Or.inr rfl))
    (pss_one (ps_if (pt_not (g_truth (K := K) (g_call IH hr (by rfl) pass0 (pa_cons (pe_ix (g_ix (K := K)) (pv 0) (pv 2) (fun _ _ => rfl)) (pa_cons (pe_ix (g_ix (K := K)) (pv 1) (pv 2) (fun _ _ => rfl)) pa_nil))) (by intro _; rfl)))
      (pss_one (ps_ret pe_bl))
      pss_nil)))
    (pss_one (ps_ret pe_bl)))))
  pss_nil)
  (pss_cons (ps_if (PW.pt (pw_or (pt_cmpR g_is (pv 1) pe_non (nomark _)) (pw_or1 (g_truth (K := K) (pe_callB (g_isi (K := K)) (by rfl) T.b_isinstance (by decide +kernel) (pa_cons (pv 1) (pa_cons (pe_bltn (v := .ty "bool") (by rfl) T.b_bool (by decide +kernel) rfl) pa_nil))) (by intro _; rfl)))))
  (pss_one (ps_ret (g_andT (K := K) (pe_cmpR g_eq (pe_cmpR g_is (pv 0) pe_non (nomark _)) (pe_cmpR g_is (pv 1) pe_non (nomark _)) (nomark _)) (g_andT (K := K) (g_orT (K := K) (pe_cmpR g_is (pv 1) pe_non (nomark _)) (pe_one (pe_callB (g_isi (K := K)) (by rfl) T.b_isinstance (by decide +kernel) (pa_cons (pv 0) (pa_cons (pe_bltn (v := .ty "bool") (by rfl) T.b_bool (by decide +kernel) rfl) pa_nil))))) (pe_one (pe_cmpR g_eq (pv 0) (pv 1) (nomark _)))))))
  pss_nil)
  (pss_cons (ps_if (g_truth (K := K) (pe_callB (g_isi (K := K)) (by rfl) T.b_isinstance (by decide +kernel) (pa_cons (pv 1) (pa_cons (pe_bltn (v := .ty "int") (by rfl) T.b_int (by decide +kernel) rfl) pa_nil))) (by intro _; rfl))
  (pss_one (ps_ret (g_andT (K := K) (pe_callB (g_isi (K := K)) (by rfl) T.b_isinstance (by decide +kernel) (pa_cons (pv 0) (pa_cons (pe_bltn (v := .ty "int") (by rfl) T.b_int (by decide +kernel) rfl) pa_nil))) (g_andT (K := K) (g_notT (K := K) (pe_callB (g_isi (K := K)) (by rfl) T.b_isinstance (by decide +kernel) (pa_cons (pv 0) (pa_cons (pe_bltn (v := .ty "bool") (by rfl) T.b_bool (by decide +kernel) rfl) pa_nil)))) (pe_one (pe_cmpR g_eq (pv 0) (pv 1) (nomark _)))))))
  pss_nil)
  (pss_one (ps_ret (g_andT (K := K) (pe_callB (g_isi (K := K)) (by rfl) T.b_isinstance (by decide +kernel) (pa_cons (pv 0) (pa_cons (pe_bltn (v := .ty "str") (by rfl) T.b_str (by decide +kernel) rfl) pa_nil))) (pe_one (pe_cmpR g_eq (pv 0) (pv 1) (nomark _))))))))), ?_⟩
      cases h with
      | non => walk_at "rd"; exact k
      | bl b => walk_at "rd"; simpa using k
      | int i => walk_at "rd"; simpa using k
      | str z => walk_at "rd"; simpa using k
      | @lst _ a b xs ys h1 h2 hl hn hi =>
        walk_at "rd"
        refine G.l_range (fun i σ H' => ∃ v, σ = [some (.ref a), some (.ref b), v] ∧ H' = H) ⟨none, rfl, rfl⟩ ?_ ?_
        · rintro i σ' H' hlt ⟨v, rfl, rfl⟩
          have hx : i < xs.length := by omega
          have hy : i < ys.length := by omega
          have ax : atI xs (i : Int) = some xs[i] := atI_nat (List.getElem?_eq_getElem hx)
          have ay : atI ys (i : Int) = some ys[i] := atI_nat (List.getElem?_eq_getElem hy)
          walk_at "rd"
          refine ⟨_, _, rfl, hi i _ _ (List.getElem?_eq_getElem hx) (List.getElem?_eq_getElem hy), ?_⟩
          walk_at "rd"
          exact ⟨_, rfl, rfl⟩
        · rintro σ' H' ⟨v, rfl, rfl⟩
          walk_at "rd"
          exact k
      | @tup _ a b xs ys h1 h2 hl hn hi =>
        walk_at "rd"
        refine G.l_range (fun i σ H' => ∃ v, σ = [some (.ref a), some (.ref b), v] ∧ H' = H) ⟨none, rfl, rfl⟩ ?_ ?_
        · rintro i σ' H' hlt ⟨v, rfl, rfl⟩
          have hx : i < xs.length := by omega
          have hy : i < ys.length := by omega
          have ax : atI xs (i : Int) = some xs[i] := atI_nat (List.getElem?_eq_getElem hx)
          have ay : atI ys (i : Int) = some ys[i] := atI_nat (List.getElem?_eq_getElem hy)
          walk_at "rd"
          refine ⟨_, _, rfl, hi i _ _ (List.getElem?_eq_getElem hx) (List.getElem?_eq_getElem hy), ?_⟩
          walk_at "rd"
          exact ⟨_, rfl, rfl⟩
        · rintro σ' H' ⟨v, rfl, rfl⟩
          walk_at "rd"
          exact k
end


/-! ### numbers and words, over lists of signs -/
open NumText in
/-- the value of digits with one more -/
theorem val_snoc (l : List Nat) (c : Nat) : digitsVal (l ++ [c]) = digitsVal l * 10 + (c - 48) := by
  unfold digitsVal
  rw [List.foldl_append]
  rfl
open NumText in
theorem num_back : ∀ (n : Nat) (l : List Nat), l.length = n → AllDigits l → l ≠ [] → (l = [48] ∨ l.head? ≠ some 48) → numL (digitsVal l) = l := by
  intro n
  induction n with
  | zero => intro l hl _ hne _; exact absurd (List.length_eq_zero_iff.mp hl) hne
  | succ n ih =>
    intro l hl hd hne hz
    obtain ⟨r, c, rfl⟩ : ∃ r c, l = r ++ [c] := ⟨l.dropLast, l.getLast hne, (List.dropLast_concat_getLast hne).symm⟩
    have hc := hd c (by simp)
    have hr : AllDigits r := fun d h => hd d (by simp [h])
    rw [List.length_append, List.length_singleton] at hl
    rw [val_snoc]
    by_cases e : r = []
    · subst e
      have e0 : digitsVal [] = 0 := rfl
      rw [e0, numL_lt (by omega)]
      show [48 + (0 * 10 + (c - 48))] = [c]
      congr 1
      omega
    · have h1 : r.head? ≠ some 48 := by
        rcases hz with h | h
        · exfalso
          have := congrArg List.length h
          rw [List.length_append] at this
          cases r with
          | nil => exact e rfl
          | cons _ _ => simp at this
        · cases r with
          | nil => exact absurd rfl e
          | cons x xs => simpa using h
      have q := ih r (by omega) hr e (.inr h1)
      have nz : digitsVal r ≠ 0 := fun z => by
        rw [z, numL_lt (by decide)] at q
        rw [← q] at h1
        exact h1 rfl
      rw [numL_step (by omega)]
      have a : (digitsVal r * 10 + (c - 48)) / 10 = digitsVal r := by omega
      have b : 48 + (digitsVal r * 10 + (c - 48)) % 10 = c := by omega
      rw [a, b, q]
theorem num_head : ∀ (n : Nat), (numL n).head? = some 48 → n = 0 := by
  intro n
  induction n using Nat.strongRecOn with
  | _ n ih =>
    intro h
    by_cases hn : n < 10
    · rw [numL_lt hn] at h
      simp at h
      exact h
    · rw [numL_step (by omega)] at h
      have e : (numL (n / 10)).head? = some 48 := by
        cases q : numL (n / 10) with
        | nil => exact absurd q (numL_ne _)
        | cons x xs => rw [q] at h; simpa using h
      have := ih (n / 10) (by omega) e
      omega
theorem one_eq (c : Nat) : (⟨#[c]⟩ : Str) = "0" ↔ c = 48 := by
  constructor
  · intro h
    have e := congrArg tl h
    have e2 : tl ("0" : Str) = [48] := by decide +kernel
    rw [e2] at e
    have e3 : [c] = [48] := e
    injection e3
  · rintro rfl
    exact ext_tl (by decide +kernel)
theorem eq_zero (z : Str) : z = "0" ↔ tl z = [48] := by
  have e2 : tl ("0" : Str) = [48] := by decide +kernel
  constructor
  · rintro rfl
    exact e2
  · intro h
    exact ext_tl (by rw [h, e2])
theorem atS {z : Str} {i : Int} (h0 : 0 ≤ i) (h : i < (z.length : Int)) : ∃ c, atI z.cps.toList i = some c := by
  have hl : i.toNat < (tl z).length := by rw [← len_tl]; omega
  have q : atI (tl z) ((i.toNat : Nat) : Int) = some (tl z)[i.toNat] := atI_nat (List.getElem?_eq_getElem hl)
  rw [Int.toNat_of_nonneg h0] at q
  exact ⟨_, q⟩
theorem ixN_lt {n j : Nat} (hj : j < n) : ixN n (j : Int) = some j := by
  unfold ixN
  rw [if_pos (Int.natCast_nonneg j), if_pos (by omega), Int.toNat_natCast]
theorem lt_one (c : Nat) (z : Str) (n : Nat) (h : tl z = [n]) : (⟨#[c]⟩ : Str).cps.toList < z.cps.toList ↔ c < n := by
  have e : z.cps.toList = [n] := h
  rw [e]
  show [c] < [n] ↔ _
  rw [List.cons_lt_cons_iff]
  simp
theorem one_lt (c : Nat) (z : Str) (n : Nat) (h : tl z = [n]) : z.cps.toList < (⟨#[c]⟩ : Str).cps.toList ↔ n < c := by
  have e : z.cps.toList = [n] := h
  rw [e]
  show [n] < [c] ↔ _
  rw [List.cons_lt_cons_iff]
  simp
theorem val_lt : ∀ (n : Nat) (l : List Nat), l.length = n → NumText.AllDigits l → NumText.digitsVal l < 10 ^ n := by
  intro n
  induction n with
  | zero => intro l hl _; rw [List.length_eq_zero_iff.mp hl]; decide
  | succ n ih =>
    intro l hl hd
    have hne : l ≠ [] := fun e => by rw [e] at hl; cases hl
    obtain ⟨r, c, rfl⟩ : ∃ r c, l = r ++ [c] := ⟨l.dropLast, l.getLast hne, (List.dropLast_concat_getLast hne).symm⟩
    have hc := hd c (by simp)
    have hr : NumText.AllDigits r := fun d h => hd d (by simp [h])
    rw [List.length_append, List.length_singleton] at hl
    have q := ih r (by omega) hr
    rw [val_snoc, Nat.pow_succ]
    omega
theorem sum_ones : ∀ ys : List Str, (∀ y ∈ ys, y.length = 1) → (ys.map (·.length)).sum = ys.length
  | [], _ => rfl
  | y :: ys, h => by
    rw [List.map_cons, List.sum_cons, sum_ones ys (fun z hz => h z (by simp [hz])), h y (by simp), List.length_cons]
    omega
theorem len_join (ys : List Str) : (Txt.join "" ys).length = (ys.map (·.length)).sum := by
  rw [join_eq, len_tl, tl_join]
  have e : tl ("" : Str) = [] := rfl
  rw [e]
  induction ys with
  | nil => rfl
  | cons y ys ih =>
    cases ys with
    | nil => simp [joinL, len_tl]
    | cons z zs =>
      rw [List.map_cons, List.map_cons, joinL, List.length_append, List.nil_append]
      rw [List.map_cons] at ih
      have e2 : ((y :: z :: zs).map (·.length)).sum = y.length + ((z :: zs).map (·.length)).sum := List.sum_cons
      rw [ih, e2, len_tl y]
def digs (l : List Nat) : Bool := l.all fun c => decide (48 ≤ c) && decide (c ≤ 57)
theorem digs_iff (l : List Nat) : digs l = true ↔ NumText.AllDigits l := by
  unfold digs NumText.AllDigits
  simp
def optV : Option Nat → V
  | none => .non
  | some n => .int n
/-- the number that a word writes -/
def nof (z : Str) : Option Nat := if digs (tl z) = true ∧ numL (NumText.digitsVal (tl z)) = tl z ∧ NumText.digitsVal (tl z) ≤ 65535 then some (NumText.digitsVal (tl z)) else none
/-- the parts between single spaces -/
def parts (z : Str) : List Str := if z = "" then [] else Txt.split z " "
def sp_isdig : Sp := fun vs H Q _ => ∃ z : Str, vs = [.str z] ∧ z.length ≤ 1000 ∧ ∀ H', Same H H' → Q (.bl (decide (1 ≤ z.length ∧ z.length ≤ 5 ∧ digs (tl z) = true))) H'
def sp_nof : Sp := fun vs H Q _ => ∃ z : Str, vs = [.str z] ∧ z.length ≤ 40 ∧ ∀ H', Same H H' → Q (optV (nof z)) H'
def sp_parts : Sp := fun vs H Q _ => ∃ z : Str, vs = [.str z] ∧ z.length ≤ 1000 ∧ ∀ p H', H p = none → Same H H' → H' p = some (.lst ((parts z).map V.str)) → Q (.ref p) H'
def sp_char : Sp := fun vs H Q _ => ∃ (p sc : Addr), vs = [.ref p] ∧ PoolAt H p sc ∧ ∀ c H', PoolAt H' p sc → But p H H' → Q (.str ⟨#[c]⟩) H'
def sp_word : Sp := fun vs H Q _ => ∃ (p sc : Addr), vs = [.ref p] ∧ PoolAt H p sc ∧ ∀ (z : Str) H', z.length ≤ 40 → PoolAt H' p sc → Q (.str z) H'
def sp_law (K : PySem.W.Frag) : Sp := fun vs H Q _ => ∃ (a : Addr) (ns : List Int), vs = [.ref a] ∧ SqL K H a (ns.map V.int) ∧ ns.length ≤ 63 ∧ ∀ H', Q (.bl true) H'

section
variable {P : Program} {w : World} {K : PySem.W.Frag} {mg : Str → Option Value} {base : Heap}
theorem ok_is_digits (T : Top K mg) : Cal P w K mg base CX0 1 "is_digits" ["word"] sp_isdig := by
  refine def_ok T.f_is_digits sc_is_digits (fun _ _ _ _ _ _ us hl => match us, hl with | [_], _ => rfl) (fun vs H Q E h => ?_) (fun f cdv A outer s H vs Q E hr h => ?_)
  · obtain ⟨z, rfl, _⟩ := h
    rfl
  · obtain ⟨z, rfl, hl, k⟩ := h
    refine ⟨_, (pss_cons (ps_if (pt_not (pt_chain g_le g_le pe_int (pe_callB (g_len (K := K)) (by rfl) T.b_len PySem.boot_len (pa_cons (pv 0) pa_nil)) (g_cint T.c_MOST_DIGITS rfl)))
  (pss_one (ps_ret pe_bl))
  pss_nil)
  (pss_one (ps_ret (pe_callB (g_all rfl (K := K)) (by rfl) T.b_all (by decide +kernel) (pa_cons (pe_lc (own := [("letter", 1)]) rfl sc_is_digits.nd (g_it (K := K) (pv 0)) (blkOk_by (own := [("letter", 1)]) (N := ["word", "letter"]) (sc := defScope s_is_digits) (by decide +kernel)) (fun _ _ _ _ _ => (pg_name (i := 1) sc_is_digits.nd rfl (Or.inl rfl))) (fun _ _ _ _ _ => pts_nil) (fun _ _ _ _ _ => (pe_cmpR (g_in (K := K)) (pv 1) (g_cstr T.c_DIGITS rfl) rfl))) pa_nil))))), ?_⟩
    have fin : ∀ {x y : Bool} {H'}, Same H H' → x = y → (∀ H', Same H H' → Q (V.bl x) H') → Q (V.bl y) H' := fun s e q => e ▸ q _ s
    walk_at "rd"
    refine G.i_d (fun h1 => ?_) (fun h1 => ?_)
    · walk_at "rd"
      refine G.i_nd (fun h2 => ?_) (fun h2 => ?_)
      · walk_at "rd"
        exact fin (Same.refl H) (decide_eq_false (by omega)) k
      · walk_at "rd"
        refine G.l_lc walk_str (fun D i acc H' => acc = (((tl z).take i).map fun c => decide (c ∈ tl "0123456789")).map V.bl ∧ H' = upd H D (.lst acc)) (fun D hD => ⟨rfl, rfl⟩) (fun _ _ _ _ _ _ => trivial) ?_ ?_
        · rintro D i acc x H1 H2 hD hi ⟨ea, eH⟩ hL ⟨rfl, c, hc, rfl⟩
          walk_at "rd"
          refine ⟨rfl, ?_⟩
          walk_at "rd"
          have hi' : i < z.length := hi
          have la : acc.length ≤ 1000 := by rw [ea, List.length_map, List.length_map, List.length_take]; omega
          refine G.lc_next hL (by walk_at "sz") ⟨?_, ?_⟩
          · rw [ea]
            have ht : (tl z).take (i + 1) = (tl z).take i ++ [c] := by
              rw [List.take_add_one]
              have : (tl z)[i]? = some c := by simpa using hc
              rw [this]; rfl
            rw [ht, List.map_append, List.map_append]
            rfl
          · rw [eH, upd_upd]
        · rintro D acc H' hD ⟨ea, eH⟩ hL
          walk_at "rd"
          rw [ea] at hL
          refine G.v_all hL ?_
          have ez : (tl z).take z.cps.size = tl z := List.take_of_length_le (by simp)
          refine fin (by rw [eH]; exact (Same.refl H).laid hD) ?_ k
          rw [ez]
          have e2 : ((tl z).map fun c => decide (c ∈ tl "0123456789")).all id = digs (tl z) := by
            unfold digs
            rw [List.all_map]
            congr 1
            funext c
            have e3 : tl "0123456789" = [48, 49, 50, 51, 52, 53, 54, 55, 56, 57] := by decide +kernel
            simp only [Function.comp, id, e3]
            rw [Bool.eq_iff_iff]
            simp
            omega
          rw [e2]
          have h1' : 1 ≤ z.length := by omega
          have h2' : z.length ≤ 5 := by omega
          simp [h1', h2']
    · walk_at "rd"
      exact fin (Same.refl H) (decide_eq_false (by omega)) k
theorem ok_number_of (T : Top K mg) : Cal P w K mg base CX0 2 "number_of" ["word"] sp_nof := by
  refine def_ok T.f_number_of sc_number_of (fun _ _ _ _ _ _ us hl => match us, hl with | [_], _ => rfl) (fun vs H Q E h => ?_) (fun f cdv A outer s H vs Q E hr h => ?_)
  · obtain ⟨z, rfl, _⟩ := h
    rfl
  · obtain ⟨z, rfl, hl, k⟩ := h
    refine ⟨_, (pss_cons (ps_if (pt_not (g_truth (K := K) (g_call (ok_is_digits T) (hr.mono (by decide)) (by rfl) pass0 (pa_cons (pv 0) pa_nil)) (by intro _; rfl)))
  (pss_one (ps_ret pe_non))
  pss_nil)
  (pss_cut (ps_if (PW.pt (pw_and (pt_cmpR g_eq (pe_ix (g_ix (K := K)) (pv 0) pe_int (fun _ _ => rfl)) pe_str (nomark _)) (pw_and1 (pt_cmpR g_ne (pv 0) pe_str (nomark _)))))
  (pss_one (ps_ret pe_non))
  pss_nil)
  (pss_cons (ps_set (i := 1) sc_number_of.nd rfl (by first | exact Or.inl rfl | exact Or.inr rfl) (pe_callTy g_int (by rfl) T.b_int (by decide +kernel) (pa_cons (pv 0) pa_nil)))
  (pss_one (ps_ret (pe_ifExp (pt_cmpR g_lt (pv 1) (g_cint T.c_WORD_COUNT rfl) (nomark _)) (pv 1) pe_non)))))), ?_⟩
    walk_at "rd"
    refine ⟨z, rfl, by omega, fun H1 s1 => ?_⟩
    have fin : ∀ {x : Option Nat} {H'}, Same H H' → x = nof z → Q (optV x) H' := fun s e => e ▸ k _ s
    walk_at "rd"
    refine G.i_nd (fun h1 => ?_) (fun h1 => ?_)
    · walk_at "rd"
      refine fin (x := none) s1 ?_
      unfold nof
      rw [if_neg]
      rintro ⟨h2, h3, h4⟩
      refine h1 ⟨?_, ?_, h2⟩
      · rw [len_tl, ← h3]
        cases e : numL (NumText.digitsVal (tl z)) with
        | nil => exact absurd e (numL_ne _)
        | cons _ _ => simp
      · rw [len_tl, ← h3]
        exact numL_len (by decide) (by omega)
    · obtain ⟨l1, l5, hd⟩ := h1
      have hd' := (digs_iff _).mp hd
      obtain ⟨c, r, ez⟩ : ∃ c r, tl z = c :: r := by
        cases e : tl z with
        | nil => rw [len_tl, e] at l1; simp at l1
        | cons c r => exact ⟨c, r, rfl⟩
      have ix : atI z.cps.toList 0 = some c := by
        show atI (tl z) 0 = some c
        rw [ez]; exact atI_nat (j := 0) rfl
      have hv : PySem.intText? z = some ((NumText.digitsVal (tl z) : Nat) : Int) := intText_digits hd' (by show tl z ≠ []; rw [ez]; simp) (by omega)
      have c0 : (⟨#[c]⟩ : Str) = "0" ↔ c = 48 := one_eq c
      have z0 : z = "0" ↔ tl z = [48] := eq_zero z
      have val : ∀ {H'}, Same H H' → (tl z = [48] ∨ (tl z).head? ≠ some 48) → (∀ n, nof z = n → Q (optV n) H') := fun s _ n e => e ▸ k _ s
      walk_at "rd"
      refine G.r_cut (fun σ H2 => σ = [some (.str z), none] ∧ Same H H2 ∧ (tl z = [48] ∨ (tl z).head? ≠ some 48)) ?_ ?_
      · walk_at "rd"
        refine G.i_d (fun h2 => ?_) (fun h2 => ?_)
        · walk_at "rd"
          refine G.i_nd (fun h3 => ?_) (fun h3 => ?_)
          · walk_at "rd"
            refine fin (x := none) s1 ?_
            unfold nof
            rw [if_neg]
            rintro ⟨_, h4, _⟩
            have e48 := c0.mp h2
            have hh := num_head (NumText.digitsVal (tl z)) (by rw [h4, ez, e48]; rfl)
            rw [hh, numL_lt (by decide)] at h4
            exact h3 (z0.mpr h4.symm)
          · walk_at "rd"
            exact ⟨rfl, s1, .inl (z0.mp h3)⟩
        · walk_at "rd"
          refine ⟨rfl, s1, .inr ?_⟩
          rw [ez]
          simp only [List.head?_cons, ne_eq, Option.some.injEq]
          exact fun h => h2 (c0.mpr h)
      · rintro σ H2 ⟨rfl, s2, hz⟩
        have hb := num_back _ (tl z) rfl hd' (by rw [ez]; simp) hz
        walk_at "rd"
        with_reducible refine G.i_d (fun h4 => ?_) (fun h4 => ?_)
        · walk_at "rd"
          refine fin (x := some (NumText.digitsVal (tl z))) s2 ?_
          unfold nof
          rw [if_pos ⟨hd, hb, by omega⟩]
        · walk_at "rd"
          refine fin (x := none) s2 ?_
          unfold nof
          rw [if_neg (fun q => by omega)]
end

section
variable {P : Program} {w : World} {K : PySem.W.Frag} {mg : Str → Option Value} {base : Heap}
theorem ok_split_words (T : Top K mg) : Cal P w K mg base CX0 1 "split_words" ["text"] sp_parts := by
  refine def_ok T.f_split_words sc_split_words (fun _ _ _ _ _ _ us hl => match us, hl with | [_], _ => rfl) (fun vs H Q E h => ?_) (fun f cdv A outer s H vs Q E hr h => ?_)
  · obtain ⟨z, rfl, _⟩ := h
    rfl
  · obtain ⟨z, rfl, hl, k⟩ := h
    refine ⟨_, (pss_cons (ps_if (pt_cmpR g_eq (pv 0) pe_str (nomark _))
  (pss_one (ps_ret (pe_lst pa_nil)))
  pss_nil)
  (pss_one (ps_ret (bm_K (K := K) (pe_bm PySem.F.plainAttrs_str PySem.F.slot_str_split PySem.F.type_str_split g_split (pv 0) (pa_cons pe_str pa_nil)))))), ?_⟩
    unfold parts at k
    walk_at "rd"
    refine G.i_d (fun h1 => ?_) (fun h1 => ?_)
    · rw [if_pos h1] at k
      walk_at "rd"
      exact ⟨by walk_at "sz", fun p hp => k p _ hp ((Same.refl H).laid hp) upd_same⟩
    · rw [if_neg h1] at k
      walk_at "rd"
      exact fun p hp => k p _ hp ((Same.refl H).laid hp) upd_same
theorem ok_l_char (T : Top K mg) : Cal P w K mg base CX0 2 "_law_char" ["pool"] sp_char := by
  refine def_ok T.f_l_char sc_l_char (fun _ _ _ _ _ _ us hl => match us, hl with | [_], _ => rfl) (fun vs H Q E h => ?_) (fun f cdv A outer s H vs Q E hr h => ?_)
  · obtain ⟨p, sc, rfl, _⟩ := h
    rfl
  · obtain ⟨p, sc, rfl, hp, k⟩ := h
    refine ⟨_, (pss_cons (ps_set (i := 1) sc_l_char.nd rfl (by first | exact Or.inl rfl | exact Or.inr rfl) pe_str)
  (pss_cons (ps_if (pt_cmpR g_eq (g_call (ok_l_draw T) (hr.mono (by decide)) (by rfl) pass0 (pa_cons (pv 0) (pa_cons pe_int pa_nil))) pe_int (nomark _))
  (pss_one (ps_ret pe_str))
  pss_nil)
  (pss_one (ps_ret (pe_ix (g_ix (K := K)) (pv 1) (g_call (ok_l_draw T) (hr.mono (by decide)) (by rfl) pass0 (pa_cons (pv 0) (pa_cons (pe_callB (g_len (K := K)) (by rfl) T.b_len PySem.boot_len (pa_cons (pv 1) pa_nil)) pa_nil))) (fun _ _ => rfl)))))), ?_⟩
    walk_at "rd"
    refine ⟨p, sc, 3, rfl, hp, by decide, fun d H1 hp b1 _ _ => ?_⟩
    walk_at "rd"
    refine G.i_d (fun h1 => ?_) (fun h1 => ?_)
    · walk_at "rd"
      exact k 32 _ hp b1
    · walk_at "rd"
      have hlen : (Str.ofString "!\"#$&'()*+,-./0123456789:;<=>?@ABCDEFGHIJKLMNOPQRSTUVWXYZ[\\]^_`abcdefghijklmnopqrstuvwxyz{|}~").length = 93 := by decide +kernel
      rw [hlen]
      refine ⟨p, sc, 93, rfl, hp, by decide, fun d2 H2 hp b2 d0 dl => ?_⟩
      obtain ⟨c, hc⟩ := atS (z := Str.ofString "!\"#$&'()*+,-./0123456789:;<=>?@ABCDEFGHIJKLMNOPQRSTUVWXYZ[\\]^_`abcdefghijklmnopqrstuvwxyz{|}~") d0 (by rw [hlen]; omega)
      refine G.v_ixS (by rw [hlen]; decide) hc (k c _ hp (b1.trans b2))
theorem ok_l_split (T : Top K mg) : Cal P w K mg base CX0 1 "_law_split" ["text"] sp_parts := by
  refine def_ok T.f_l_split sc_l_split (fun _ _ _ _ _ _ us hl => match us, hl with | [_], _ => rfl) (fun vs H Q E h => ?_) (fun f cdv A outer s H vs Q E hr h => ?_)
  · obtain ⟨z, rfl, _⟩ := h
    rfl
  · obtain ⟨z, rfl, hl, k⟩ := h
    refine ⟨_, (pss_cons (ps_if (pt_cmpR g_eq (pe_callB (g_len (K := K)) (by rfl) T.b_len PySem.boot_len (pa_cons (pv 0) pa_nil)) pe_int (nomark _))
  (pss_one (ps_ret (pe_lst pa_nil)))
  pss_nil)
  (pss_cons (ps_set (i := 1) sc_l_split.nd rfl (by first | exact Or.inl rfl | exact Or.inr rfl) (pe_lst (pa_cons pe_str pa_nil)))
  (pss_cons (ps_for PassesOwn.never rfl (g_it (K := K) (pv 0)) (pg_name (i := 2) sc_l_split.nd rfl (by first | exact Or.inl rfl | exact Or.inr rfl))
  (pss_one (ps_if (pt_cmpR g_eq (pv 2) pe_str (nomark _))
    (pss_one (ps_expr (bm_K (K := K) (pe_bm PySem.F.plainAttrs_list PySem.F.slot_list_append PySem.F.type_list_append mt_append (pv 1) (pa_cons pe_str pa_nil)))))
    (pss_one (ps_asg (pe_op (g_add (K := K)) (pe_ix (g_ix (K := K)) (pv 1) (pe_op g_sub (pe_callB (g_len (K := K)) (by rfl) T.b_len PySem.boot_len (pa_cons (pv 1) pa_nil)) pe_int) (fun _ _ => rfl)) (pv 2)) (pg_sub (pv 1) (pe_op g_sub (pe_callB (g_len (K := K)) (by rfl) T.b_len PySem.boot_len (pa_cons (pv 1) pa_nil)) pe_int) set_list))))))
  (pss_one (ps_ret (pv 1)))))), ?_⟩
    unfold parts at k
    walk_at "rd"
    refine G.i_d (fun h1 => ?_) (fun h1 => ?_)
    · have ez : z = "" := ext_tl (List.length_eq_zero_iff.mp (by rw [← len_tl]; omega))
      rw [if_pos ez] at k
      walk_at "rd"
      exact ⟨by walk_at "sz", fun p hp => k p _ hp ((Same.refl H).laid hp) upd_same⟩
    · rw [if_neg (fun e => h1 (by rw [e]; rfl))] at k
      walk_at "rd"
      refine ⟨by walk_at "sz", fun p hp => ?_⟩
      walk_at "rd"
      have e32 : tl (" " : Str) = [32] := by decide +kernel
      have c32 : ∀ c : Nat, ((⟨#[c]⟩ : Str) = " " ↔ c = 32) := fun c => by
        constructor
        · intro h
          have e := congrArg tl h
          rw [e32] at e
          have e3 : [c] = [32] := e
          injection e3
        · rintro rfl
          exact ext_tl (by decide +kernel)
      refine G.l_str (fun i σ H2 => i ≤ z.length ∧ ∃ (ws : List Str) (last : Str) (v : Option V), σ = [some (.str z), some (.ref p), v] ∧ H2 = upd H p (.lst ((ws ++ [last]).map V.str)) ∧
        ws.map tl ++ spl [32] 0 (tl last) ((tl z).drop i) = spl [32] 0 [] (tl z) ∧ ws.length ≤ i ∧ last.length ≤ i) ⟨Nat.zero_le _, [], "", none, rfl, rfl, rfl, Nat.le_refl _, Nat.le_refl _⟩ ?_ ?_
      · rintro i c σ' H' hc ⟨hi, ws, last, v, rfl, rfl, he, hw, hla⟩
        have hlt : i < (tl z).length := (List.getElem?_eq_some_iff.mp hc).1
        have hz : z.length = (tl z).length := len_tl z
        have hd : (tl z).drop i = c :: (tl z).drop (i + 1) := by
          rw [List.drop_eq_getElem_cons hlt, (List.getElem?_eq_some_iff.mp hc).2]
        rw [hd] at he
        have ll : ((ws ++ [last]).map V.str).length = ws.length + 1 := by simp
        have e1 : atI ((ws ++ [last]).map V.str) (((ws ++ [last]).map V.str).length - 1 : Int) = some (.str last) := by
          have e : (((ws ++ [last]).map V.str).length - 1 : Int) = ((ws.length : Nat) : Int) := by rw [ll]; omega
          rw [e]
          exact atI_nat (by simp)
        have e2 : ixN ((ws ++ [last]).map V.str).length (((ws ++ [last]).map V.str).length - 1 : Int) = some ws.length := by
          have e : (((ws ++ [last]).map V.str).length - 1 : Int) = ((ws.length : Nat) : Int) := by rw [ll]; omega
          rw [e, ll]
          exact ixN_lt (Nat.lt_succ_self _)
        walk_at "rd"
        refine G.i_d (fun h2 => ?_) (fun h2 => ?_)
        · rw [(c32 c).mp h2, spl_hit (show pre [32] (32 :: (tl z).drop (i + 1)) = true from pre_self [32] _)] at he
          walk_at "rd"
          refine ⟨by omega, ws ++ [last], "", _, rfl, ?_, ?_, by simp; omega, Nat.zero_le _⟩
          · rw [upd_upd]; simp
          · rw [List.map_append, List.append_assoc]; exact he
        · have hne : c ≠ 32 := fun e => h2 ((c32 c).mpr e)
          rw [spl_miss (pre_of_head _ _ hne)] at he
          walk_at "rd"
          refine ⟨by omega, ws, last ++ ⟨#[c]⟩, _, rfl, ?_, ?_, by omega, ?_⟩
          · rw [upd_upd]
            congr 1
            rw [List.map_append, List.map_append]
            congr 1
            rw [List.set_append_right _ _ (by simp)]
            simp
          · rw [tl_append]; exact he
          · rw [slen_app, slen_one]; omega
      · rintro σ' H' ⟨_, ws, last, v, rfl, rfl, he, hw, hla⟩
        walk_at "rd"
        refine k p _ hp ((Same.refl H).laid hp) ?_
        rw [upd_same]
        congr 3
        apply map_tl_inj
        rw [split_spl z " " (by rw [e32]; simp) (kind_ok (by decide +kernel)), e32, ← he]
        have hz : z.length = (tl z).length := len_tl z
        rw [hz, List.drop_length, spl_nil, List.map_append]
        rfl
theorem ok_l_number_of (T : Top K mg) : Cal P w K mg base CX0 1 "_law_number_of" ["word"] sp_nof := by
  refine def_ok T.f_l_number_of sc_l_number_of (fun _ _ _ _ _ _ us hl => match us, hl with | [_], _ => rfl) (fun vs H Q E h => ?_) (fun f cdv A outer s H vs Q E hr h => ?_)
  · obtain ⟨z, rfl, _⟩ := h
    rfl
  · obtain ⟨z, rfl, hl, k⟩ := h
    refine ⟨_, (pss_cons (ps_set (i := 1) sc_l_number_of.nd rfl (by first | exact Or.inl rfl | exact Or.inr rfl) pe_int)
  (pss_cons (ps_for PassesOwn.never rfl (g_it (K := K) (pv 0)) (pg_name (i := 2) sc_l_number_of.nd rfl (by first | exact Or.inl rfl | exact Or.inr rfl))
  (pss_cons (ps_if (pt_not (pt_chain g_le g_le pe_str (pv 2) pe_str))
    (pss_one (ps_ret pe_non))
    pss_nil)
    (pss_one (ps_set (i := 1) sc_l_number_of.nd rfl (by first | exact Or.inl rfl | exact Or.inr rfl) (pe_op g_sub (pe_op (g_add (K := K)) (pe_op g_mul (pv 1) pe_int) (pe_callB g_ord (by rfl) T.b_ord (by decide +kernel) (pa_cons (pv 2) pa_nil))) pe_int)))))
  (pss_cons (ps_if (PW.pt (pw_or (pt_cmpR g_ne (pe_callTy g_str (by rfl) T.b_str (by decide +kernel) (pa_cons (pv 1) pa_nil)) (pv 0) (nomark _)) (pw_or1 (pt_cmpR g_gt (pv 1) pe_int (nomark _)))))
  (pss_one (ps_ret pe_non))
  pss_nil)
  (pss_one (ps_ret (pv 1)))))), ?_⟩
    have fin : ∀ {x : Option Nat} {H'}, Same H H' → x = nof z → Q (optV x) H' := fun s e => e ▸ k _ s
    have hz : z.length = (tl z).length := len_tl z
    walk_at "rd"
    refine G.l_str (fun i σ H2 => i ≤ z.length ∧ ∃ v, σ = [some (.str z), some (.int (NumText.digitsVal ((tl z).take i) : Nat)), v] ∧ H2 = H ∧ NumText.AllDigits ((tl z).take i)) ⟨Nat.zero_le _, none, rfl, rfl, fun _ h => by simp at h⟩ ?_ ?_
    · rintro i c σ' H' hc ⟨hi, v, rfl, rfl, hd⟩
      have hlt : i < (tl z).length := (List.getElem?_eq_some_iff.mp hc).1
      have ht : (tl z).take (i + 1) = (tl z).take i ++ [c] := by
        rw [List.take_add_one, hc]; rfl
      have bad : ¬ (48 ≤ c ∧ c ≤ 57) → none = nof z := fun h => by
        unfold nof
        rw [if_neg]
        rintro ⟨h2, _⟩
        exact h ((digs_iff _).mp h2 c (List.mem_of_getElem? hc))
      walk_at "rd"
      refine G.i_nd (fun h1 => ?_) (fun h1 => ?_)
      · walk_at "rd"
        refine G.i_d (fun h2 => ?_) (fun h2 => ?_)
        · walk_at "rd"
          have h2' := (one_lt c "9" 57 (by decide +kernel)).mp h2
          exact fin (x := none) (Same.refl _) (bad (by omega))
        · walk_at "rd"
          have h1' := (not_congr (lt_one c "0" 48 (by decide +kernel))).mp h1
          have h2' := (not_congr (one_lt c "9" 57 (by decide +kernel))).mp h2
          refine ⟨by omega, some (.str ⟨#[c]⟩), ?_, rfl, ?_⟩
          · rw [ht, val_snoc]
            have e : ((NumText.digitsVal ((tl z).take i) : Nat) : Int) * 10 + (c : Int) - 48 = ((NumText.digitsVal ((tl z).take i) * 10 + (c - 48) : Nat) : Int) := by omega
            rw [e]
          · rw [ht]
            intro d hd'
            rcases List.mem_append.mp hd' with q | q
            · exact hd d q
            · rw [List.mem_singleton.mp q]; omega
      · walk_at "rd"
        have h1' := (lt_one c "0" 48 (by decide +kernel)).mp h1
        exact fin (x := none) (Same.refl _) (bad (by omega))
    · rintro σ' H' ⟨_, v, rfl, rfl, hd⟩
      have ez : (tl z).take z.length = tl z := List.take_of_length_le (by omega)
      rw [ez] at hd ⊢
      have hv := val_lt _ (tl z) rfl hd
      have hlog : ((NumText.digitsVal (tl z) : Nat) : Int).natAbs.log2 < 1920 := by
        rw [Int.natAbs_natCast]
        have h2 : NumText.digitsVal (tl z) < 2 ^ 1920 := Nat.lt_of_lt_of_le hv (Nat.le_trans (Nat.pow_le_pow_right (by decide) (show (tl z).length ≤ 40 by omega)) (by decide +kernel))
        by_cases q : NumText.digitsVal (tl z) = 0
        · rw [q]; decide
        · exact (Nat.log2_lt q).mpr h2
      have es : (Str.ofString (toString ((NumText.digitsVal (tl z) : Nat) : Int)) = z) ↔ numL (NumText.digitsVal (tl z)) = tl z := by
        constructor
        · intro h
          have := congrArg tl h
          rwa [tl_num] at this
        · intro h
          exact ext_tl (by rw [tl_num]; exact h)
      walk_at "rd"
      refine G.i_nd (fun h1 => ?_) (fun h1 => ?_)
      · walk_at "rd"
        refine fin (x := none) (Same.refl _) ?_
        unfold nof
        rw [if_neg]
        rintro ⟨_, h3, _⟩
        exact h1 (es.mpr h3)
      · walk_at "rd"
        with_reducible refine G.i_d (fun h2 => ?_) (fun h2 => ?_)
        · walk_at "rd"
          refine fin (x := none) (Same.refl _) ?_
          unfold nof
          rw [if_neg]
          rintro ⟨_, _, h3⟩
          omega
        · walk_at "rd"
          refine fin (x := some (NumText.digitsVal (tl z))) (Same.refl _) ?_
          unfold nof
          rw [if_pos ⟨(digs_iff _).mpr hd, es.mp h1, by omega⟩]
theorem ok_l_word (T : Top K mg) : Cal P w K mg base CX0 3 "_law_word" ["pool"] sp_word := by
  refine def_ok T.f_l_word sc_l_word (fun _ _ _ _ _ _ us hl => match us, hl with | [_], _ => rfl) (fun vs H Q E h => ?_) (fun f cdv A outer s H vs Q E hr h => ?_)
  · obtain ⟨p, sc, rfl, _⟩ := h
    rfl
  · obtain ⟨p, sc, rfl, hp, k⟩ := h
    refine ⟨_, (pss_cons (ps_if (pt_cmpR g_eq (g_call (ok_l_draw T) (hr.mono (by decide)) (by rfl) pass0 (pa_cons (pv 0) (pa_cons pe_int pa_nil))) pe_int (nomark _))
  (pss_one (ps_ret (bm_K (K := K) (pe_bm PySem.F.plainAttrs_str PySem.F.slot_str_join PySem.F.type_str_join (g_join (K := K)) pe_str (pa_cons (pe_lc (own := [("k", 1)]) rfl sc_l_word.nd (pi_range1 rfl T.b_range (pa_cons (g_call (ok_l_draw T) (hr.mono (by decide)) (by rfl) pass0 (pa_cons (pv 0) (pa_cons pe_int pa_nil))) pa_nil)) (blkOk_by (own := [("k", 1)]) (N := ["pool", "k", "number", "word", "place"]) (sc := defScope s_l_word) (by decide +kernel)) (fun _ _ _ _ _ => (pg_name (i := 1) sc_l_word.nd rfl (Or.inl rfl))) (fun _ _ _ _ _ => pts_nil) (fun _ _ _ _ _ => (g_call (ok_l_char T) (hr.mono (by decide)) (by rfl) pass0 (pa_cons (pv 0) pa_nil)))) pa_nil)))))
  pss_nil)
  (pss_cons (ps_set (i := 2) sc_l_word.nd rfl (by first | exact Or.inl rfl | exact Or.inr rfl) (g_call (ok_l_draw T) (hr.mono (by decide)) (by rfl) pass0 (pa_cons (pv 0) (pa_cons pe_int pa_nil))))
  (pss_cut (ps_if (pt_cmpR g_eq (g_call (ok_l_draw T) (hr.mono (by decide)) (by rfl) pass0 (pa_cons (pv 0) (pa_cons pe_int pa_nil))) pe_int (nomark _))
  (pss_one (ps_set (i := 2) sc_l_word.nd rfl (by first | exact Or.inl rfl | exact Or.inr rfl) (pe_ix (g_ix (K := K)) (pe_tup (pa_cons pe_int (pa_cons pe_int (pa_cons pe_int (pa_cons pe_int (pa_cons pe_int (pa_cons pe_int (pa_cons pe_int (pa_cons pe_int pa_nil))))))))) (g_call (ok_l_draw T) (hr.mono (by decide)) (by rfl) pass0 (pa_cons (pv 0) (pa_cons pe_int pa_nil))) (fun _ _ => rfl))))
  pss_nil)
  (pss_cons (ps_set (i := 3) sc_l_word.nd rfl (by first | exact Or.inl rfl | exact Or.inr rfl) (pe_op (g_add (K := K)) (pe_ix (g_ix (K := K)) (pe_tup (pa_cons pe_str (pa_cons pe_str (pa_cons pe_str (pa_cons pe_str pa_nil))))) (g_call (ok_l_draw T) (hr.mono (by decide)) (by rfl) pass0 (pa_cons (pv 0) (pa_cons pe_int pa_nil))) (fun _ _ => rfl)) (pe_callTy g_str (by rfl) T.b_str (by decide +kernel) (pa_cons (pv 2) pa_nil))))
  (pss_cons (ps_if (pt_cmpR g_eq (g_call (ok_l_draw T) (hr.mono (by decide)) (by rfl) pass0 (pa_cons (pv 0) (pa_cons pe_int pa_nil))) pe_int (nomark _))
  (pss_cons (ps_set (i := 4) sc_l_word.nd rfl (by first | exact Or.inl rfl | exact Or.inr rfl) (g_call (ok_l_draw T) (hr.mono (by decide)) (by rfl) pass0 (pa_cons (pv 0) (pa_cons (pe_op (g_add (K := K)) (pe_callB (g_len (K := K)) (by rfl) T.b_len PySem.boot_len (pa_cons (pv 3) pa_nil)) pe_int) pa_nil))))
    (pss_one (ps_ret (pe_op (g_add (K := K)) (pe_op (g_add (K := K)) (pe_slice (g_sl (K := K)) (pv 3) po_none (po_some (pv 4))) (g_call (ok_l_char T) (hr.mono (by decide)) (by rfl) pass0 (pa_cons (pv 0) pa_nil))) (pe_slice (g_sl (K := K)) (pv 3) (po_some (pv 4)) po_none)))))
  pss_nil)
  (pss_one (ps_ret (pv 3)))))))), ?_⟩
    walk_at "rd"
    refine ⟨p, sc, 4, rfl, hp, by decide, fun d H1 hp b1 _ _ => ?_⟩
    have npc : p ≠ sc := fun e => by
      obtain ⟨a, b, c, d, e2, ns, h1, h2, _⟩ := hp
      exact ne_pool h2 h1 e.symm
    walk_at "rd"
    refine G.i_d (fun h1 => ?_) (fun h1 => ?_)
    · walk_at "rd"
      refine ⟨p, sc, 7, rfl, hp, by decide, fun d2 H2 hp b2 d20 d21 => ?_⟩
      walk_at "rd"
      refine G.l_lc walk_range (fun D i acc H' => D ≠ p ∧ D ≠ sc ∧ (∃ ys : List Str, acc = ys.map V.str ∧ ys.length = i ∧ ∀ y ∈ ys, y.length = 1) ∧ PoolAt H' p sc) (fun D hD => ⟨(hp.ne hD).symm, (hp.ne' hD).symm, ⟨[], rfl, rfl, by simp⟩, hp.laid hD⟩) (fun _ _ _ _ _ _ => trivial) ?_ ?_
      · rintro D i acc x H3 H4 hD hi ⟨n1, n2, ⟨ys, rfl, rfl, hy⟩, hp⟩ hL ⟨rfl, rfl⟩
        walk_at "rd"
        refine ⟨rfl, ?_⟩
        walk_at "rd"
        refine ⟨p, sc, rfl, hp, fun c H5 hp b5 => ?_⟩
        refine G.lc_next (by rw [b5 D n1]; exact hL) (by rw [List.length_map]; walk_at "sz") ⟨n1, n2, ⟨ys ++ [⟨#[c]⟩], by simp, by simp, ?_⟩, hp.upd n1 n2⟩
        intro y h
        rcases List.mem_append.mp h with q | q
        · exact hy y q
        · rw [List.mem_singleton.mp q]; rfl
      · rintro D acc H' hD ⟨n1, n2, ⟨ys, rfl, hl, hy⟩, hp⟩ hL
        have hs : (ys.map (·.length)).sum = ys.length := sum_ones ys hy
        walk_at "rd"
        refine G.v_join hL (by rw [hs]; show _ + _ * 0 ≤ _; omega) (k _ _ ?_ hp)
        rw [len_join, hs]
        omega
    · walk_at "rd"
      refine ⟨p, sc, 140000, rfl, hp, by decide, fun n H2 hp b2 n0 n1 => ?_⟩
      walk_at "rd"
      refine G.r_cut (fun σ H4 => ∃ m : Int, σ = [some (.ref p), none, some (.int m), none, none] ∧ 0 ≤ m ∧ m < 140000 ∧ PoolAt H4 p sc) ?_ ?_
      · walk_at "rd"
        refine ⟨p, sc, 3, rfl, hp, by decide, fun d3 H3 hp b3 d30 d31 => ?_⟩
        walk_at "rd"
        refine G.i_d (fun h2 => ?_) (fun h2 => ?_)
        · walk_at "rd"
          refine ⟨by walk_at "sz", fun q hq => ?_⟩
          walk_at "rd"
          refine ⟨p, sc, 8, rfl, hp.laid hq, by decide, fun d4 H4 hp4 b4 d40 d41 => ?_⟩
          have h4 := (b4 q (hp.ne hq).symm).trans upd_same
          obtain ⟨y, hy, y0, yl⟩ : ∃ y : Int, atI [V.int 0, V.int 1, V.int 9, V.int 10, V.int 65535, V.int 65536, V.int 99999, V.int 100000] d4 = some (.int y) ∧ 0 ≤ y ∧ y < 140000 := by
            have e : d4 = 0 ∨ d4 = 1 ∨ d4 = 2 ∨ d4 = 3 ∨ d4 = 4 ∨ d4 = 5 ∨ d4 = 6 ∨ d4 = 7 := by omega
            rcases e with rfl | rfl | rfl | rfl | rfl | rfl | rfl | rfl <;> exact ⟨_, rfl, by decide, by decide⟩
          walk_at "rd"
          exact ⟨y, rfl, y0, yl, hp4⟩
        · walk_at "rd"
          exact ⟨n, rfl, n0, n1, hp⟩
      · rintro σ H4 ⟨m, rfl, m0, m1, hp⟩
        walk_at "rd"
        refine ⟨by walk_at "sz", fun q hq => ?_⟩
        walk_at "rd"
        refine ⟨p, sc, 4, rfl, hp.laid hq, by decide, fun d5 H5 hp5 b5 d50 d51 => ?_⟩
        have h5 := (b5 q (hp.ne hq).symm).trans upd_same
        obtain ⟨y, hy, yl⟩ : ∃ y : Str, atI [V.str "", V.str "", V.str "", V.str "0"] d5 = some (.str y) ∧ y.length ≤ 1 := by
          have e : d5 = 0 ∨ d5 = 1 ∨ d5 = 2 ∨ d5 = 3 := by omega
          rcases e with rfl | rfl | rfl | rfl <;> exact ⟨_, rfl, by decide +kernel⟩
        have lm : (Str.ofString (toString m)).length ≤ 6 := by
          obtain ⟨n, rfl⟩ := Int.eq_ofNat_of_zero_le m0
          rw [len_tl, tl_num]
          exact numL_len (by decide) (by omega)
        walk_at "rd"
        refine ⟨p, sc, 5, rfl, hp5, by decide, fun d6 H6 hp6 b6 d60 d61 => ?_⟩
        have lw : (y ++ Str.ofString (toString m)).length ≤ 7 := by rw [slen_app]; omega
        generalize y ++ Str.ofString (toString m) = W at lw ⊢
        walk_at "rd"
        refine G.i_d (fun h2 => ?_) (fun h2 => ?_)
        · walk_at "rd"
          refine ⟨p, sc, _, rfl, hp6, by omega, fun d7 H7 hp7 b7 d70 d71 => ?_⟩
          walk_at "rd"
          refine ⟨p, sc, rfl, hp7, fun c H8 hp8 b8 => ?_⟩
          have l1 := cutS_length W none (some d7)
          have l2 := cutS_length W (some d7) none
          walk_at "rd"
          refine k _ _ ?_ hp8
          rw [slen_app, slen_app, slen_one]
          omega
        · walk_at "rd"
          exact k _ _ (by omega) hp6
end

section
variable {P : Program} {w : World} {K : PySem.W.Frag} {mg : Str → Option Value} {base : Heap}
theorem ok_law (T : Top K mg) : Cal P w K mg base CX0 4 "law" ["script"] (sp_law K) := by
  refine def_ok T.f_law sc_law (fun _ _ _ _ _ _ us hl => match us, hl with | [_], _ => rfl) (fun vs H Q E h => ?_) (fun f cdv A outer s H vs Q E hr h => ?_)
  · obtain ⟨a, ns, rfl, _⟩ := h
    rfl
  · obtain ⟨a, ns, rfl, hS, hl, k⟩ := h
    refine ⟨_, (pss_cons (ps_set (i := 1) sc_law.nd rfl (by first | exact Or.inl rfl | exact Or.inr rfl) (g_call (ok_l_pool T) (hr.mono (by decide)) (by rfl) pass0 (pa_cons (pv 0) (pa_cons pe_int pa_nil))))
  (pss_cons (ps_set (i := 2) sc_law.nd rfl (by first | exact Or.inl rfl | exact Or.inr rfl) (bm_K (K := K) (pe_bm PySem.F.plainAttrs_str PySem.F.slot_str_join PySem.F.type_str_join (g_join (K := K)) pe_str (pa_cons (pe_lc (own := [("k", 3)]) rfl sc_law.nd (pi_range1 rfl T.b_range (pa_cons (g_call (ok_l_draw T) (hr.mono (by decide)) (by rfl) pass0 (pa_cons (pv 1) (pa_cons pe_int pa_nil))) pa_nil)) (blkOk_by (own := [("k", 3)]) (N := ["script", "pool", "text", "k", "word"]) (sc := defScope s_law) (by decide +kernel)) (fun _ _ _ _ _ => (pg_name (i := 3) sc_law.nd rfl (Or.inl rfl))) (fun _ _ _ _ _ => pts_nil) (fun _ _ _ _ _ => (g_call (ok_l_char T) (hr.mono (by decide)) (by rfl) pass0 (pa_cons (pv 1) pa_nil)))) pa_nil))))
  (pss_cons (ps_if (pt_not (g_truth (K := K) (g_call (ok_l_same T 2) (hr.mono (by decide)) (by rfl) pass0 (pa_cons (g_call (ok_split_words T) (hr.mono (by decide)) (by rfl) pass0 (pa_cons (pv 2) pa_nil)) (pa_cons (g_call (ok_l_split T) (hr.mono (by decide)) (by rfl) pass0 (pa_cons (pv 2) pa_nil)) pa_nil))) (by intro _; rfl)))
  (pss_one (ps_ret pe_bl))
  pss_nil)
  (pss_cons (ps_for PassesOwn.never rfl (pi_range1 rfl T.b_range (pa_cons pe_int pa_nil)) (pg_name (i := 3) sc_law.nd rfl (by first | exact Or.inl rfl | exact Or.inr rfl))
  (pss_cons (ps_set (i := 4) sc_law.nd rfl (by first | exact Or.inl rfl | exact Or.inr rfl) (g_call (ok_l_word T) (hr.mono (by decide)) (by rfl) pass0 (pa_cons (pv 1) pa_nil)))
    (pss_one (ps_if (pt_not (g_truth (K := K) (g_call (ok_l_same T 2) (hr.mono (by decide)) (by rfl) pass0 (pa_cons (g_call (ok_number_of T) (hr.mono (by decide)) (by rfl) pass0 (pa_cons (pv 4) pa_nil)) (pa_cons (g_call (ok_l_number_of T) (hr.mono (by decide)) (by rfl) pass0 (pa_cons (pv 4) pa_nil)) pa_nil))) (by intro _; rfl)))
    (pss_one (ps_ret pe_bl))
    pss_nil))))
  (pss_one (ps_ret pe_bl)))))), ?_⟩
    walk_at "rd"
    refine ⟨a, ns, _, rfl, hS, fun p sc H1 p0 _ s1 hp => ?_⟩
    walk_at "rd"
    refine ⟨p, sc, 41, rfl, hp, by decide, fun d2 H2 hp b2 d20 d21 => ?_⟩
    walk_at "rd"
    refine G.l_lc walk_range (fun D i acc H' => D ≠ p ∧ D ≠ sc ∧ (∃ ys : List Str, acc = ys.map V.str ∧ ys.length = i ∧ ∀ y ∈ ys, y.length = 1) ∧ PoolAt H' p sc) (fun D hD => ⟨(hp.ne hD).symm, (hp.ne' hD).symm, ⟨[], rfl, rfl, by simp⟩, hp.laid hD⟩) (fun _ _ _ _ _ _ => trivial) ?_ ?_
    · rintro D i acc x H3 H4 hD hi ⟨n1, n2, ⟨ys, rfl, rfl, hy⟩, hp⟩ hL ⟨rfl, rfl⟩
      walk_at "rd"
      refine ⟨rfl, ?_⟩
      walk_at "rd"
      refine ⟨p, sc, rfl, hp, fun c H5 hp b5 => ?_⟩
      refine G.lc_next (by rw [b5 D n1]; exact hL) (by rw [List.length_map]; walk_at "sz") ⟨n1, n2, ⟨ys ++ [⟨#[c]⟩], by simp, by simp, ?_⟩, hp.upd n1 n2⟩
      intro y h
      rcases List.mem_append.mp h with q | q
      · exact hy y q
      · rw [List.mem_singleton.mp q]; rfl
    · rintro D acc H' hD ⟨n1, n2, ⟨ys, rfl, hl, hy⟩, hp⟩ hL
      have hs : (ys.map (·.length)).sum = ys.length := sum_ones ys hy
      walk_at "rd"
      refine G.v_join hL (by rw [hs]; show _ + _ * 0 ≤ _; omega) ?_
      have lt : (Txt.join "" ys).length ≤ 41 := by rw [len_join, hs]; omega
      generalize Txt.join "" ys = t at lt ⊢
      walk_at "rd"
      refine ⟨t, rfl, by omega, fun q1 H3 f1 s3 h3 => ?_⟩
      walk_at "rd"
      refine ⟨t, rfl, by omega, fun q2 H4 f2 s4 h4 => ?_⟩
      walk_at "rd"
      refine ⟨_, _, rfl, .lst (SqL.of (s4 _ _ h3)) (SqL.of h4) rfl ?_ ?_, ?_⟩
      · rw [List.length_map]
        unfold parts
        split
        · decide
        · have := PyProof.Rows.split_le t " "
          omega
      · intro i x y hx hy
        rw [hx] at hy
        cases hy
        rw [List.getElem?_map] at hx
        cases e : (parts t)[i]? with
        | none => rw [e] at hx; cases hx
        | some z => rw [e] at hx; cases hx; exact .str z
      · have hp4 := (hp.same s3).same s4
        walk_at "rd"
        refine G.l_range (fun i σ H2 => ∃ v3 v4, σ = [some (.ref a), some (.ref p), some (.str t), v3, v4] ∧ PoolAt H2 p sc) ⟨_, _, rfl, hp4⟩ ?_ ?_
        · rintro i σ' H' _ ⟨v3, v4, rfl, hp⟩
          walk_at "rd"
          refine ⟨p, sc, rfl, hp, fun z H5 hz hp5 => ?_⟩
          walk_at "rd"
          refine ⟨z, rfl, hz, fun H6 s6 => ?_⟩
          walk_at "rd"
          refine ⟨z, rfl, hz, fun H7 s7 => ?_⟩
          walk_at "rd"
          refine ⟨_, _, rfl, ?_, ?_⟩
          · cases nof z with
            | none => exact .non
            | some n => exact .int _
          · walk_at "rd"
            exact ⟨_, _, rfl, (hp5.same s6).same s7⟩
        · rintro σ' H' ⟨v3, v4, rfl, hp⟩
          walk_at "rd"
          exact k _
end
theorem top_mk {K : PySem.W.Frag} {h : Heap} {mg : Str → Option Value} (X : K.In h) (G : h.Ns mainGlobals mg)
    {f1 : Addr} {od1 an1 : Option Addr} {sl1 : Array (Option Value)} {oc1 kV1 dc1 pm1 cd1 ct1 : Value}
    (a1 : PySem.W.nsIn K mainGlobals "split_words" = some (some (.ref f1))) (l1 : K.lookup f1 = some ⟨oc1, od1, .func (PySem.W.fnOf "split_words" "split_words" (defArgs s_split_words) (defBody s_split_words) (defScope s_split_words) .none kV1 dc1 pm1 an1 cd1 ct1), sl1⟩) (c1 : PySem.W.codeIn K cd1 "split_words" = true) (k1 : PySem.W.keepIn K (.ref f1) = true)
    {f2 : Addr} {od2 an2 : Option Addr} {sl2 : Array (Option Value)} {oc2 kV2 dc2 pm2 cd2 ct2 : Value}
    (a2 : PySem.W.nsIn K mainGlobals "number_of" = some (some (.ref f2))) (l2 : K.lookup f2 = some ⟨oc2, od2, .func (PySem.W.fnOf "number_of" "number_of" (defArgs s_number_of) (defBody s_number_of) (defScope s_number_of) .none kV2 dc2 pm2 an2 cd2 ct2), sl2⟩) (c2 : PySem.W.codeIn K cd2 "number_of" = true) (k2 : PySem.W.keepIn K (.ref f2) = true)
    {f3 : Addr} {od3 an3 : Option Addr} {sl3 : Array (Option Value)} {oc3 kV3 dc3 pm3 cd3 ct3 : Value}
    (a3 : PySem.W.nsIn K mainGlobals "is_digits" = some (some (.ref f3))) (l3 : K.lookup f3 = some ⟨oc3, od3, .func (PySem.W.fnOf "is_digits" "is_digits" (defArgs s_is_digits) (defBody s_is_digits) (defScope s_is_digits) .none kV3 dc3 pm3 an3 cd3 ct3), sl3⟩) (c3 : PySem.W.codeIn K cd3 "is_digits" = true) (k3 : PySem.W.keepIn K (.ref f3) = true)
    {f4 : Addr} {od4 an4 : Option Addr} {sl4 : Array (Option Value)} {oc4 kV4 dc4 pm4 cd4 ct4 : Value}
    (a4 : PySem.W.nsIn K mainGlobals "_law_pool" = some (some (.ref f4))) (l4 : K.lookup f4 = some ⟨oc4, od4, .func (PySem.W.fnOf "_law_pool" "_law_pool" (defArgs s_l_pool) (defBody s_l_pool) (defScope s_l_pool) .none kV4 dc4 pm4 an4 cd4 ct4), sl4⟩) (c4 : PySem.W.codeIn K cd4 "_law_pool" = true) (k4 : PySem.W.keepIn K (.ref f4) = true)
    {f5 : Addr} {od5 an5 : Option Addr} {sl5 : Array (Option Value)} {oc5 kV5 dc5 pm5 cd5 ct5 : Value}
    (a5 : PySem.W.nsIn K mainGlobals "_law_draw" = some (some (.ref f5))) (l5 : K.lookup f5 = some ⟨oc5, od5, .func (PySem.W.fnOf "_law_draw" "_law_draw" (defArgs s_l_draw) (defBody s_l_draw) (defScope s_l_draw) .none kV5 dc5 pm5 an5 cd5 ct5), sl5⟩) (c5 : PySem.W.codeIn K cd5 "_law_draw" = true) (k5 : PySem.W.keepIn K (.ref f5) = true)
    {f6 : Addr} {od6 an6 : Option Addr} {sl6 : Array (Option Value)} {oc6 kV6 dc6 pm6 cd6 ct6 : Value}
    (a6 : PySem.W.nsIn K mainGlobals "_law_spend" = some (some (.ref f6))) (l6 : K.lookup f6 = some ⟨oc6, od6, .func (PySem.W.fnOf "_law_spend" "_law_spend" (defArgs s_l_spend) (defBody s_l_spend) (defScope s_l_spend) .none kV6 dc6 pm6 an6 cd6 ct6), sl6⟩) (c6 : PySem.W.codeIn K cd6 "_law_spend" = true) (k6 : PySem.W.keepIn K (.ref f6) = true)
    {f7 : Addr} {od7 an7 : Option Addr} {sl7 : Array (Option Value)} {oc7 kV7 dc7 pm7 cd7 ct7 : Value}
    (a7 : PySem.W.nsIn K mainGlobals "_law_few" = some (some (.ref f7))) (l7 : K.lookup f7 = some ⟨oc7, od7, .func (PySem.W.fnOf "_law_few" "_law_few" (defArgs s_l_few) (defBody s_l_few) (defScope s_l_few) .none kV7 dc7 pm7 an7 cd7 ct7), sl7⟩) (c7 : PySem.W.codeIn K cd7 "_law_few" = true) (k7 : PySem.W.keepIn K (.ref f7) = true)
    {f8 : Addr} {od8 an8 : Option Addr} {sl8 : Array (Option Value)} {oc8 kV8 dc8 pm8 cd8 ct8 : Value}
    (a8 : PySem.W.nsIn K mainGlobals "_law_number" = some (some (.ref f8))) (l8 : K.lookup f8 = some ⟨oc8, od8, .func (PySem.W.fnOf "_law_number" "_law_number" (defArgs s_l_number) (defBody s_l_number) (defScope s_l_number) .none kV8 dc8 pm8 an8 cd8 ct8), sl8⟩) (c8 : PySem.W.codeIn K cd8 "_law_number" = true) (k8 : PySem.W.keepIn K (.ref f8) = true)
    {f9 : Addr} {od9 an9 : Option Addr} {sl9 : Array (Option Value)} {oc9 kV9 dc9 pm9 cd9 ct9 : Value}
    (a9 : PySem.W.nsIn K mainGlobals "_law_same" = some (some (.ref f9))) (l9 : K.lookup f9 = some ⟨oc9, od9, .func (PySem.W.fnOf "_law_same" "_law_same" (defArgs s_l_same) (defBody s_l_same) (defScope s_l_same) .none kV9 dc9 pm9 an9 cd9 ct9), sl9⟩) (c9 : PySem.W.codeIn K cd9 "_law_same" = true) (k9 : PySem.W.keepIn K (.ref f9) = true)
    {f10 : Addr} {od10 an10 : Option Addr} {sl10 : Array (Option Value)} {oc10 kV10 dc10 pm10 cd10 ct10 : Value}
    (a10 : PySem.W.nsIn K mainGlobals "_law_char" = some (some (.ref f10))) (l10 : K.lookup f10 = some ⟨oc10, od10, .func (PySem.W.fnOf "_law_char" "_law_char" (defArgs s_l_char) (defBody s_l_char) (defScope s_l_char) .none kV10 dc10 pm10 an10 cd10 ct10), sl10⟩) (c10 : PySem.W.codeIn K cd10 "_law_char" = true) (k10 : PySem.W.keepIn K (.ref f10) = true)
    {f11 : Addr} {od11 an11 : Option Addr} {sl11 : Array (Option Value)} {oc11 kV11 dc11 pm11 cd11 ct11 : Value}
    (a11 : PySem.W.nsIn K mainGlobals "_law_split" = some (some (.ref f11))) (l11 : K.lookup f11 = some ⟨oc11, od11, .func (PySem.W.fnOf "_law_split" "_law_split" (defArgs s_l_split) (defBody s_l_split) (defScope s_l_split) .none kV11 dc11 pm11 an11 cd11 ct11), sl11⟩) (c11 : PySem.W.codeIn K cd11 "_law_split" = true) (k11 : PySem.W.keepIn K (.ref f11) = true)
    {f12 : Addr} {od12 an12 : Option Addr} {sl12 : Array (Option Value)} {oc12 kV12 dc12 pm12 cd12 ct12 : Value}
    (a12 : PySem.W.nsIn K mainGlobals "_law_word" = some (some (.ref f12))) (l12 : K.lookup f12 = some ⟨oc12, od12, .func (PySem.W.fnOf "_law_word" "_law_word" (defArgs s_l_word) (defBody s_l_word) (defScope s_l_word) .none kV12 dc12 pm12 an12 cd12 ct12), sl12⟩) (c12 : PySem.W.codeIn K cd12 "_law_word" = true) (k12 : PySem.W.keepIn K (.ref f12) = true)
    {f13 : Addr} {od13 an13 : Option Addr} {sl13 : Array (Option Value)} {oc13 kV13 dc13 pm13 cd13 ct13 : Value}
    (a13 : PySem.W.nsIn K mainGlobals "_law_number_of" = some (some (.ref f13))) (l13 : K.lookup f13 = some ⟨oc13, od13, .func (PySem.W.fnOf "_law_number_of" "_law_number_of" (defArgs s_l_number_of) (defBody s_l_number_of) (defScope s_l_number_of) .none kV13 dc13 pm13 an13 cd13 ct13), sl13⟩) (c13 : PySem.W.codeIn K cd13 "_law_number_of" = true) (k13 : PySem.W.keepIn K (.ref f13) = true)
    {f14 : Addr} {od14 an14 : Option Addr} {sl14 : Array (Option Value)} {oc14 kV14 dc14 pm14 cd14 ct14 : Value}
    (a14 : PySem.W.nsIn K mainGlobals "law" = some (some (.ref f14))) (l14 : K.lookup f14 = some ⟨oc14, od14, .func (PySem.W.fnOf "law" "law" (defArgs s_law) (defBody s_law) (defScope s_law) .none kV14 dc14 pm14 an14 cd14 ct14), sl14⟩) (c14 : PySem.W.codeIn K cd14 "law" = true) (k14 : PySem.W.keepIn K (.ref f14) = true)
    {t_WORD_COUNT : Tok} (c_WORD_COUNT : PySem.W.nsIn K mainGlobals "WORD_COUNT" = some (some (.int 65536 t_WORD_COUNT)))
    {t_DIGITS : Tok} (c_DIGITS : PySem.W.nsIn K mainGlobals "DIGITS" = some (some (.str "0123456789" t_DIGITS)))
    {t_MOST_DIGITS : Tok} (c_MOST_DIGITS : PySem.W.nsIn K mainGlobals "MOST_DIGITS" = some (some (.int 5 t_MOST_DIGITS)))
    (b_all : PySem.W.nsIn K mainGlobals "all" = some none)
    (b_bool : PySem.W.nsIn K mainGlobals "bool" = some none)
    (b_int : PySem.W.nsIn K mainGlobals "int" = some none)
    (b_isinstance : PySem.W.nsIn K mainGlobals "isinstance" = some none)
    (b_len : PySem.W.nsIn K mainGlobals "len" = some none)
    (b_list : PySem.W.nsIn K mainGlobals "list" = some none)
    (b_min : PySem.W.nsIn K mainGlobals "min" = some none)
    (b_ord : PySem.W.nsIn K mainGlobals "ord" = some none)
    (b_range : PySem.W.nsIn K mainGlobals "range" = some none)
    (b_str : PySem.W.nsIn K mainGlobals "str" = some none)
    (b_tuple : PySem.W.nsIn K mainGlobals "tuple" = some none) : Top K mg :=
  ⟨⟨f1, _, PySem.W.mg_of X G a1, fun_mk (st := s_split_words) l1 c1 k1⟩,
   ⟨f2, _, PySem.W.mg_of X G a2, fun_mk (st := s_number_of) l2 c2 k2⟩,
   ⟨f3, _, PySem.W.mg_of X G a3, fun_mk (st := s_is_digits) l3 c3 k3⟩,
   ⟨f4, _, PySem.W.mg_of X G a4, fun_mk (st := s_l_pool) l4 c4 k4⟩,
   ⟨f5, _, PySem.W.mg_of X G a5, fun_mk (st := s_l_draw) l5 c5 k5⟩,
   ⟨f6, _, PySem.W.mg_of X G a6, fun_mk (st := s_l_spend) l6 c6 k6⟩,
   ⟨f7, _, PySem.W.mg_of X G a7, fun_mk (st := s_l_few) l7 c7 k7⟩,
   ⟨f8, _, PySem.W.mg_of X G a8, fun_mk (st := s_l_number) l8 c8 k8⟩,
   ⟨f9, _, PySem.W.mg_of X G a9, fun_mk (st := s_l_same) l9 c9 k9⟩,
   ⟨f10, _, PySem.W.mg_of X G a10, fun_mk (st := s_l_char) l10 c10 k10⟩,
   ⟨f11, _, PySem.W.mg_of X G a11, fun_mk (st := s_l_split) l11 c11 k11⟩,
   ⟨f12, _, PySem.W.mg_of X G a12, fun_mk (st := s_l_word) l12 c12 k12⟩,
   ⟨f13, _, PySem.W.mg_of X G a13, fun_mk (st := s_l_number_of) l13 c13 k13⟩,
   ⟨f14, _, PySem.W.mg_of X G a14, fun_mk (st := s_law) l14 c14 k14⟩,
   ⟨_, PySem.W.mg_of X G c_WORD_COUNT⟩,
   ⟨_, PySem.W.mg_of X G c_DIGITS⟩,
   ⟨_, PySem.W.mg_of X G c_MOST_DIGITS⟩,
   PySem.W.mg_none_of X G b_all,
   PySem.W.mg_none_of X G b_bool,
   PySem.W.mg_none_of X G b_int,
   PySem.W.mg_none_of X G b_isinstance,
   PySem.W.mg_none_of X G b_len,
   PySem.W.mg_none_of X G b_list,
   PySem.W.mg_none_of X G b_min,
   PySem.W.mg_none_of X G b_ord,
   PySem.W.mg_none_of X G b_range,
   PySem.W.mg_none_of X G b_str,
   PySem.W.mg_none_of X G b_tuple⟩
theorem walk {l : PySem.W.OpenLaw} {q : Program} {loose : List Str} {XP : (Str → Option Value) → Heap → Prop} {YP : World → Heap → Prop} {d : DefRec} {K : Params → PySem.W.Frag} (hn : l.most = some 63) (hdf : d.params.defaults = []) (hd : d.name = "law")
    (hY : ∀ (w : World) (h : Heap), YP w h → (K w.params).In h)
    (F : ∀ (w : World) (mg : Str → Option Value) (h : Heap), (K w.params).In h → h.Ns mainGlobals mg → Top (K w.params) mg) :
    PySem.W.WalkO q loose XP YP l.row.toRowW d [] (fun f vs => PySem.call f vs) :=
  L2.walk_of (n := 63) (k := 4) (x := "script") (CX := fun _ => CX0) (sp := fun w => sp_law (K w.params)) hn (by decide) hdf ⟨rfl, by decide, by decide⟩ hY
    (fun w mg fa h KX G hfa => by
      have T := F w mg h KX G
      obtain ⟨f, fd, m, Fn⟩ := T.f_law
      have e : fa = f := by
        rw [hd, m] at hfa
        injection hfa with e
        injection e with e
        exact e.symm
      subst e
      refine ⟨fd, fun s v => ?_, fun base _ _ => (ok_law (P := l.prog) (w := w) (base := base) T).at_ m Fn⟩
      obtain ⟨oc, od, kV, doc, pm, an, cdv, ct, osl, rfl, _, _⟩ := Fn.ex
      exact .of_eq rfl)
    (fun _ _ a ns hl _ hS => ⟨a, ns, rfl, hS, hl, fun _ => rfl⟩) fun _ _ _ _ _ z => z

end L
open PySem PySem.W PyProof.Rows in
set_option maxRecDepth 100000 in
set_option maxHeartbeats 0 in
theorem PySem.Challenge.cw_blameless_k01_words_and_numbers_holds : PySem.Challenge.rw_blameless_k01_words_and_numbers.Holds := by
  w_on; o_law; k_head; (case hw => w_witness2)
  k_fill
  refine L.walk (l := PySem.Challenge.rw_blameless_k01_words_and_numbers) rfl rfl rfl (fun w h Y => PySem.W.kIn_of Y) ?F
  case F =>
    intro w mg h KX G
    refine' L.top_mk KX G ?a1 ?l1 ?c1 ?k1 ?a2 ?l2 ?c2 ?k2 ?a3 ?l3 ?c3 ?k3 ?a4 ?l4 ?c4 ?k4 ?a5 ?l5 ?c5 ?k5 ?a6 ?l6 ?c6 ?k6 ?a7 ?l7 ?c7 ?k7 ?a8 ?l8 ?c8 ?k8 ?a9 ?l9 ?c9 ?k9 ?a10 ?l10 ?c10 ?k10 ?a11 ?l11 ?c11 ?k11 ?a12 ?l12 ?c12 ?k12 ?a13 ?l13 ?c13 ?k13 ?a14 ?l14 ?c14 ?k14 ?c_WORD_COUNT ?c_DIGITS ?c_MOST_DIGITS ?b_all ?b_bool ?b_int ?b_isinstance ?b_len ?b_list ?b_min ?b_ord ?b_range ?b_str ?b_tuple
    (case a1 => k_is)
    (case l1 => k_is)
    (case c1 => k_is)
    (case k1 => k_is)
    (case a2 => k_is)
    (case l2 => k_is)
    (case c2 => k_is)
    (case k2 => k_is)
    (case a3 => k_is)
    (case l3 => k_is)
    (case c3 => k_is)
    (case k3 => k_is)
    (case a4 => k_is)
    (case l4 => k_is)
    (case c4 => k_is)
    (case k4 => k_is)
    (case a5 => k_is)
    (case l5 => k_is)
    (case c5 => k_is)
    (case k5 => k_is)
    (case a6 => k_is)
    (case l6 => k_is)
    (case c6 => k_is)
    (case k6 => k_is)
    (case a7 => k_is)
    (case l7 => k_is)
    (case c7 => k_is)
    (case k7 => k_is)
    (case a8 => k_is)
    (case l8 => k_is)
    (case c8 => k_is)
    (case k8 => k_is)
    (case a9 => k_is)
    (case l9 => k_is)
    (case c9 => k_is)
    (case k9 => k_is)
    (case a10 => k_is)
    (case l10 => k_is)
    (case c10 => k_is)
    (case k10 => k_is)
    (case a11 => k_is)
    (case l11 => k_is)
    (case c11 => k_is)
    (case k11 => k_is)
    (case a12 => k_is)
    (case l12 => k_is)
    (case c12 => k_is)
    (case k12 => k_is)
    (case a13 => k_is)
    (case l13 => k_is)
    (case c13 => k_is)
    (case k13 => k_is)
    (case a14 => k_is)
    (case l14 => k_is)
    (case c14 => k_is)
    (case k14 => k_is)
    (case c_WORD_COUNT => k_is)
    (case c_DIGITS => k_is)
    (case c_MOST_DIGITS => k_is)
    (case b_all => k_is)
    (case b_bool => k_is)
    (case b_int => k_is)
    (case b_isinstance => k_is)
    (case b_len => k_is)
    (case b_list => k_is)
    (case b_min => k_is)
    (case b_ord => k_is)
    (case b_range => k_is)
    (case b_str => k_is)
    (case b_tuple => k_is)
