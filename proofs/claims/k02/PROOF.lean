import PyProof.Rows.All
import Wide.All
import OpenK.AllK
import Wide.FinOn
import HandS.ForMost
import HandS.IsInst
import HandS.TupAny
import HandS.Flow
import HandS.Walk
import HandS.Comp
import HandS.Exc
import HandS.TryOnly
import HandS.ExcOwn
import HandS.WordsExc
import HandS.ExcInit
import HandS.ExcIs
import HandS.ExcField
import HandS.HotCalls
import HandS.FStr
import HandS.TupSets
import HandS.SetFor
import HandS.Style
import HandS.OwnEq
import HandS.Deep
import HandS.ExcInitHot
import PySem.Challenge.RW_blameless_k02_interfaces
set_option Elab.async false
set_option linter.all false
set_option maxRecDepth 100000
set_option maxHeartbeats 4000000
/-! G: rules by kind of value, and the steps of a reading (own work). -/
namespace G
open PySem PySem.Spec PyProof.Rows L2

/-! ### operators by kind -/
section
variable {X : Cx}
def gAddS : R2 := fun x y H Q => ∃ i j, x = .str i ∧ y = .str j ∧ i.length + j.length ≤ sizeLine ∧ Q (.str (i ++ j)) H
def gAdd (K : PySem.W.Frag) : R2 := fun x y H Q => rI0 (fun i j => .int (i + j)) x y H Q ∨ gAddS x y H Q ∨ rCat x y H Q ∨ rCatA K x y H Q
theorem g_add {K : PySem.W.Frag} (hK : X.K = K := by rfl) : OpR X (binaryOp .Add) (gAdd K) := by subst hK; exact op_add.or (op_add_str.or (op_cat.or op_catA))
def gSubI : R2 := rI0 fun i j => .int (i - j)
theorem g_sub : OpR X (binaryOp .Sub) gSubI := op_sub
def gMul : R2 := rI CMul fun i j => .int (i * j)
theorem g_mul : OpR X (binaryOp .Mult) gMul := op_mul
def gDiv : R2 := rI CDiv fun i j => .int (i / j)
theorem g_div : OpR X (binaryOp .FloorDiv) gDiv := op_fdiv
def gMod : R2 := rI (fun _ j => 0 < j) fun i j => .int (i % j)
theorem g_mod : OpR X (binaryOp .Mod) gMod := op_mod
def gPow : R2 := rI CPow fun i j => .int (i ^ j.toNat)
theorem g_pow : OpR X (binaryOp .Pow) gPow := op_pow
def gLtS : R2 := fun x y H Q => ∃ i j, x = .str i ∧ y = .str j ∧ Q (.bl (decide (i.cps.toList < j.cps.toList))) H
def gLt : R2 := fun x y H Q => rI0 (fun i j => .bl (decide (i < j))) x y H Q ∨ gLtS x y H Q
theorem g_lt : OpR X (compareOp .Lt) gLt := op_lt.or op_lt_str
def gLeS : R2 := fun x y H Q => ∃ i j, x = .str i ∧ y = .str j ∧ Q (.bl (!decide (j.cps.toList < i.cps.toList))) H
def gLe : R2 := fun x y H Q => rI0 (fun i j => .bl (decide (i ≤ j))) x y H Q ∨ gLeS x y H Q
theorem g_le : OpR X (compareOp .LtE) gLe := op_le.or op_le_str
def gGt : R2 := rI0 fun i j => .bl (decide (j < i))
theorem g_gt : OpR X (compareOp .Gt) gGt := op_gt
def gGe : R2 := rI0 fun i j => .bl (decide (j ≤ i))
theorem g_ge : OpR X (compareOp .GtE) gGe := op_ge
theorem g_eq : OpR X (compareOp .Eq) rEq := op_eq
theorem g_ne : OpR X (compareOp .NotEq) rNe := op_ne
def gIs : R2 := fun x y H Q => y = .non ∧ Q (.bl (decide (x = .non))) H
theorem g_is : OpR X (compareOp .Is) gIs := op_isN
def gIsNot : R2 := fun x y H Q => y = .non ∧ Q (.bl (!decide (x = .non))) H
theorem g_isnot : OpR X (compareOp .IsNot) gIsNot := op_notN
def gInS : R2 := fun x y H Q => ∃ (c : Nat) (z : Str), x = .str ⟨#[c]⟩ ∧ y = .str z ∧ Q (.bl (decide (c ∈ z.cps.toList))) H
def gIn (K : PySem.W.Frag) : R2 := fun x y H Q => rIn K false x y H Q ∨ gInS x y H Q
theorem g_in {K : PySem.W.Frag} (hK : X.K = K := by rfl) : OpR X (compareOp .In) (gIn K) := by subst hK; exact op_in_seq.or op_in_sign
def gNotInS : R2 := fun x y H Q => ∃ (c : Nat) (z : Str), x = .str ⟨#[c]⟩ ∧ y = .str z ∧ Q (.bl (!decide (c ∈ z.cps.toList))) H
def gNotIn (K : PySem.W.Frag) : R2 := fun x y H Q => rIn K true x y H Q ∨ gNotInS x y H Q
theorem g_notin {K : PySem.W.Frag} (hK : X.K = K := by rfl) : OpR X (compareOp .NotIn) (gNotIn K) := by subst hK; exact op_notIn_seq.or op_notIn_sign
def gSl (K : PySem.W.Frag) : V → Option Int → Option Int → Hp → VK → Prop := fun x lo hi H Q => rSlL K x lo hi H Q ∨ rSlA K x lo hi H Q ∨ rSlS x lo hi H Q
theorem g_sl {K : PySem.W.Frag} (hK : X.K = K := by rfl) : SlR X (gSl K) := by subst hK; exact sl_list.or (sl_tupA.or sl_str)
theorem g_ix {K : PySem.W.Frag} (hK : X.K = K := by rfl) : IxR X (rIx K) := by subst hK; exact ix_seq
/-! calls -/
def gLen (K : PySem.W.Frag) : List V → Hp → VK → Prop := fun xs H Q => ∃ x n, xs = [x] ∧ LenV K x H n ∧ Q (.int (n : Nat)) H
theorem g_len {K : PySem.W.Frag} (hK : X.K = K := by rfl) : CallR X (.builtin "len") (gLen K) := by subst hK; exact call_len
def gIntN : List V → Hp → VK → Prop := fun xs H Q => (∃ i, xs = [.int i] ∧ Q (.int i) H) ∨ ∃ k, xs = [.bl k] ∧ Q (.int (if k then 1 else 0)) H
def gIntS : List V → Hp → VK → Prop := fun xs H Q => ∃ a n, xs = [.str a] ∧ PySem.intText? a = some n ∧ a.length ≤ 640 ∧ Q (.int n) H
def gInt : List V → Hp → VK → Prop := fun xs H Q => gIntN xs H Q ∨ gIntS xs H Q
theorem g_int : CallR X (.type "int") gInt := call_int1.or call_int_str
def gStr : List V → Hp → VK → Prop := fun xs H Q => ∃ i : Int, xs = [.int i] ∧ i.natAbs.log2 < 1920 ∧ Q (.str (toString i)) H
theorem g_str : CallR X (.type "str") gStr := call_str_int
def gMin : List V → Hp → VK → Prop := fun xs H Q => ∃ i j, xs = [.int i, .int j] ∧ Q (.int (if j < i then j else i)) H
theorem g_min (hc : X.calm = true) : CallR X (.builtin "min") gMin := call_min2 hc
def gList (K : PySem.W.Frag) : List V → Hp → VK → Prop := fun xs H Q => ∃ p ys, xs = [.ref p] ∧ (SqL K H p ys ∨ SqT K H p ys) ∧ ∀ l, H l = none → Q (.ref l) (upd H l (.lst ys))
theorem g_list {K : PySem.W.Frag} (hK : X.K = K := by rfl) : CallR X (.type "list") (gList K) := by subst hK; exact call_list_of
def gTupl (K : PySem.W.Frag) : List V → Hp → VK → Prop := fun xs H Q => ∃ a ys, xs = [.ref a] ∧ ((SqL K H a ys ∧ ∀ l, H l = none → Q (.ref l) (upd H l (.tup ys))) ∨ (SqT K H a ys ∧ Q (.ref a) H))
theorem g_tup {K : PySem.W.Frag} (hK : X.K = K := by rfl) : CallR X (.type "tuple") (gTupl K) := by subst hK; exact call_tuple_of
def gOrd : List V → Hp → VK → Prop := fun xs H Q => ∃ x : Str, xs = [.str x] ∧ x.length = 1 ∧ Q (.int (x.cps.getD 0 0 : Nat)) H
theorem g_ord : CallR X (.builtin "ord") gOrd := call_ord
theorem g_all (hc : X.calm = true) {K : PySem.W.Frag} (hK : X.K = K := by rfl) : CallR X (.builtin "all") (rAll K) := by subst hK; exact cr_all hc
theorem g_any (hc : X.calm = true) {K : PySem.W.Frag} (hK : X.K = K := by rfl) : CallR X (.builtin "any") (rAny K) := by subst hK; exact cr_any hc
def gJoin (K : PySem.W.Frag) : V → List V → Hp → VK → Prop := fun x xs H Q => ∃ a p, ∃ ys : List Str, x = .str a ∧ xs = [.ref p] ∧ (SqL K H p (ys.map V.str) ∨ SqT K H p (ys.map V.str)) ∧ (ys.map (·.length)).sum + ys.length * a.length ≤ 16777216 ∧ Q (.str (Txt.join a ys)) H
theorem g_join {K : PySem.W.Frag} (hK : X.K = K := by rfl) : MtR X "str.join" (gJoin K) := by subst hK; exact mt_join
def gSplit : V → List V → Hp → VK → Prop := fun x xs H Q => ∃ a b, x = .str a ∧ xs = [.str b] ∧ (b.length == 0) = false ∧ a.length + 2 ≤ sizeLine ∧ rNewStrs (Txt.split a b) H Q
theorem g_split : MtR X "str.split" gSplit := mt_split
def gIsi (K : PySem.W.Frag) : List V → Hp → VK → Prop := fun xs H Q => rIsi K xs H Q ∨ rIsiT K xs H Q
theorem g_isi {K : PySem.W.Frag} (hK : X.K = K := by rfl) : CallR X (.builtin "isinstance") (gIsi K) := by subst hK; exact call_isi.or call_isiT
end

section
variable {X : Cx} {K : PySem.W.Frag} {a b : Expr} {ta tb : TE} {rest : List Expr} {pos : Pos}
theorem g_andT (ha : PE X a ta) (hb : PE X (.BoolOp .And (b :: rest) pos) tb) (hK : X.K = K := by rfl) : PE X (.BoolOp .And (a :: b :: rest) pos) (tAndT K ta tb) := by subst hK; exact pe_andT ha hb
theorem g_orT (ha : PE X a ta) (hb : PE X (.BoolOp .Or (b :: rest) pos) tb) (hK : X.K = K := by rfl) : PE X (.BoolOp .Or (a :: b :: rest) pos) (tOrT K ta tb) := by subst hK; exact pe_orT ha hb
theorem g_notT (ha : PE X a ta) (hK : X.K = K := by rfl) : PE X (.UnaryOp .Not a pos) (tNotT K ta) := by subst hK; exact pe_notT ha
theorem bm_K {X : Cx} {K : PySem.W.Frag} {T : String} {e : Expr} {to : TE} {t : TA} {r : V → List V → Hp → VK → Prop} (h : PE X e (tBM X.K T r to t)) (hK : X.K = K := by rfl) : PE X e (tBM K T r to t) := by subst hK; exact h
theorem bm0_K {X : Cx} {K : PySem.W.Frag} {T : String} {e : Expr} {to : TE} {r : V → List V → Hp → VK → Prop} (h : PE X e (tBM0 X.K T r to)) (hK : X.K = K := by rfl) : PE X e (tBM0 K T r to) := by subst hK; exact h
theorem ptup_K {X : Cx} {K : PySem.W.Frag} {e : Expr} {t : TGs} {n : Nat} (h : PG X e (gTup X.K n t)) (hK : X.K = K := by rfl) : PG X e (gTup K n t) := by subst hK; exact h
theorem fld_K {X : Cx} {K : PySem.W.Frag} {e : Expr} {ta : TE} {f : Str} (h : PE X e (tFld X.K ta f)) (hK : X.K = K := by rfl) : PE X e (tFld K ta f) := by subst hK; exact h
theorem sfld_K {X : Cx} {K : PySem.W.Frag} {st : Stmt} {ta tv : TE} {f : Str} (h : PS X st (sFld X.K ta tv f)) (hK : X.K = K := by rfl) : PS X st (sFld K ta tv f) := by subst hK; exact h
def tTr (K : PySem.W.Frag) (ta : TE) : TT := fun σ H Q => ta σ H fun x H' => ∃ k, TruV K x H' k ∧ Q k H'
theorem g_truth (ha : PE X a ta) (he : ∀ whole, isTrue a X.env whole = (do let v ← whole; standAt a.pos; holding [v] (truthy v))) (hK : X.K = K := by rfl) : PT X a (tTr K ta) := by subst hK; exact pt_truth ha he
end
/-! ### a cut behind a statement: a word of the slots and the heap -/
def tCut (t u : TS) : TS := fun D σ H => ∃ W : L2.St → Hp → Prop, t { D with nx := W } σ H ∧ ∀ σ' H', W σ' H' → u D σ' H'
theorem pss_cut {X : Cx} {st : Stmt} {rest : List Stmt} {t u : TS} (h1 : PS X st t) (h2 : PSs X rest u) : PSs X (st :: rest) (tCut t u) := by
  constructor
  intro pins s σ H D I ⟨W, a, b⟩
  apply wpAny_execs_cons
  apply thn (h1.run pins s σ H _ I a)
  intro f s1 q
  cases f with
  | next =>
    obtain ⟨σ', H', I', q⟩ := q
    exact h2.run pins s1 σ' H' D I' (b σ' H' q)
  | ret v => exact q
  | brk => exact q
  | cont => exact q

theorem kit_N_tuple : kitB "NoneType" "tuple" = some false := by decide +kernel
theorem kit_N_list : kitB "NoneType" "list" = some false := by decide +kernel
theorem kit_N_bool : kitB "NoneType" "bool" = some false := by decide +kernel
theorem kit_N_int : kitB "NoneType" "int" = some false := by decide +kernel
theorem kit_N_str : kitB "NoneType" "str" = some false := by decide +kernel
theorem kit_B_tuple : kitB "bool" "tuple" = some false := by decide +kernel
theorem kit_B_list : kitB "bool" "list" = some false := by decide +kernel
theorem kit_B_bool : kitB "bool" "bool" = some true := by decide +kernel
theorem kit_B_int : kitB "bool" "int" = some true := by decide +kernel
theorem kit_B_str : kitB "bool" "str" = some false := by decide +kernel
theorem kit_I_tuple : kitB "int" "tuple" = some false := by decide +kernel
theorem kit_I_list : kitB "int" "list" = some false := by decide +kernel
theorem kit_I_bool : kitB "int" "bool" = some false := by decide +kernel
theorem kit_I_int : kitB "int" "int" = some true := by decide +kernel
theorem kit_I_str : kitB "int" "str" = some false := by decide +kernel
theorem kit_S_tuple : kitB "str" "tuple" = some false := by decide +kernel
theorem kit_S_list : kitB "str" "list" = some false := by decide +kernel
theorem kit_S_bool : kitB "str" "bool" = some false := by decide +kernel
theorem kit_S_int : kitB "str" "int" = some false := by decide +kernel
theorem kit_S_str : kitB "str" "str" = some true := by decide +kernel
theorem kit_L_tuple : kitB "list" "tuple" = some false := by decide +kernel
theorem kit_L_list : kitB "list" "list" = some true := by decide +kernel
theorem kit_L_bool : kitB "list" "bool" = some false := by decide +kernel
theorem kit_L_int : kitB "list" "int" = some false := by decide +kernel
theorem kit_L_str : kitB "list" "str" = some false := by decide +kernel
theorem kit_T_tuple : kitB "tuple" "tuple" = some true := by decide +kernel
theorem kit_T_list : kitB "tuple" "list" = some false := by decide +kernel
theorem kit_T_bool : kitB "tuple" "bool" = some false := by decide +kernel
theorem kit_T_int : kitB "tuple" "int" = some false := by decide +kernel
theorem kit_T_str : kitB "tuple" "str" = some false := by decide +kernel

theorem line_val : sizeLine = 16777216 := by decide
theorem slen_app (a b : Str) : (a ++ b).length = a.length + b.length := by
  rw [TL.len_tl, TL.tl_append, List.length_append, ← TL.len_tl, ← TL.len_tl]
theorem slen_one (c : Nat) : (⟨#[c]⟩ : Str).length = 1 := rfl
theorem log_ok {i : Int} (h0 : 0 ≤ i) (h1 : i < 18446744073709551616) : i.natAbs.log2 < 1920 := by
  have h : i.natAbs < 2 ^ 64 := by omega
  by_cases z : i.natAbs = 0
  · rw [z]; decide
  · exact Nat.lt_of_lt_of_le ((Nat.log2_lt z).mpr h) (by decide)
/-! ### steps of a reading -/
section
variable {K : PySem.W.Frag} {σ σ' : L2.St} {H : Hp} {Q : VK} {D : Ends} {ta tb tc te : TE} {t u : TT} {ts tu tw : TS} {x y v w : V} {i j : Int} {p q : Addr} {xs : List V} {r r' : R2} {b : Bool} {g : TG} {tr : TA}
theorem r_seq (h : tu { D with nx := tw D } σ H) : tSeq tu tw D σ H := h
theorem r_cut0 (h : tu { D with nx := tw D } σ H) : tCut tu tw D σ H := ⟨tw D, h, fun _ _ q => q⟩
theorem r_cut (W : L2.St → Hp → Prop) (h : tu { D with nx := W } σ H) (k : ∀ σ' H', W σ' H' → tw D σ' H') : tCut tu tw D σ H := ⟨W, h, k⟩
theorem r_tr {Q : Bool → Hp → Prop} (h : te σ H fun x H' => ∃ k, TruV K x H' k ∧ Q k H') : tTr K te σ H Q := h
theorem r_nx (h : D.nx σ H) : tNext D σ H := h
theorem r_asg (h : te σ H fun x H1 => g x σ H1 D.nx) : tAsg te g D σ H := h
theorem r_drop (h : te σ H fun _ H1 => D.nx σ H1) : tDrop te D σ H := h
theorem r_ret (h : te σ H D.rt) : tRet te D σ H := h
/-- what is left of a for, of a comprehension, when its walk is known -/
def ForIs (J : It) (H : Hp) (g : TG) (tb : TS) (D : Ends) (σ : L2.St) : Prop := ∃ W : Nat → Nat → L2.St → Hp → Prop, (∃ m, W 0 m σ H) ∧ ∀ i m σ H, W i m σ H →
      (J.stop i H ∧ D.nx σ H) ∨ (J.go i H ∧ ∃ N : L2.St → Hp → Prop, (∀ σ' H', N σ' H' → ∃ m', m' < m ∧ W (i + 1) m' σ' H') ∧ ∀ x H', J.yld i H x H' → g x σ H' fun σ2 H2 => tb { D with nx := N, ct := N, bk := D.nx } σ2 H2)
def LcIs (J : It) (H1 : Hp) (g : TG) (tt : TT) (te : TE) (vs : List Nat) (σ : L2.St) (Q : VK) : Prop := ∀ D, H1 D = none → ∃ W : Nat → Nat → Hp → Prop, (∃ m, W 0 m (upd H1 D (.lst []))) ∧ ∀ i m H, W i m H →
  (J.stop i H ∧ Q (.ref D) H) ∨ (J.go i H ∧ ∃ Nx : Hp → Prop, (∀ H', Nx H' → ∃ m', m' < m ∧ W (i + 1) m' H') ∧ ∀ x H', J.yld i H x H' → g x (wipe σ vs) H' fun σ2 H2 => wipe σ2 vs = wipe σ vs ∧ tt σ2 H2 fun b H3 =>
    if b = true then te σ2 H3 fun y H4 => ∃ acc, H4 D = some (.lst acc) ∧ acc.length < sizeLine ∧ Nx (upd H4 D (.lst (acc ++ [y]))) else Nx H3)
theorem r_for {wi : TI} (h : wi σ H fun J H1 => ForIs J H1 g tu D σ) : tFor wi g tu D σ H := h
theorem r_lc {wi : TI} {tt : TT} {vs : List Nat} (h : wi σ H fun J H1 => LcIs J H1 g tt te vs σ Q) : tLc wi g tt te vs σ H Q := h
theorem w_rng1 {n : Int} {R : Int → Prop} (h : 0 ≤ n ∧ n < 2 ^ 62) (k : R n) : ∃ j : Int, [V.int n] = [.int j] ∧ -(2 ^ 62) ≤ j ∧ j < 2 ^ 62 ∧ R j := ⟨n, rfl, by omega, h.2, k⟩
theorem w_rng2 {m n : Int} {R : Int → Int → Prop} (h : (-(2 ^ 62) ≤ m ∧ m < 2 ^ 62) ∧ -(2 ^ 62) ≤ n ∧ n < 2 ^ 62) (k : R m n) : ∃ i j : Int, [V.int m, V.int n] = [.int i, .int j] ∧ (-(2 ^ 62) ≤ i ∧ i < 2 ^ 62 ∧ -(2 ^ 62) ≤ j ∧ j < 2 ^ 62) ∧ R i j := ⟨m, n, rfl, ⟨h.1.1, h.1.2, h.2.1, h.2.2⟩, k⟩
theorem w_tup {R : Addr → Prop} {xs : List V} (h : SqT K H p xs) (k : R p) : ∃ a, V.ref p = .ref a ∧ (∃ xs, SqT K H a xs) ∧ R a := ⟨p, rfl, ⟨xs, h⟩, k⟩
theorem w_itL {R R' : Addr → Prop} {S : Str → Prop} {xs : List V} (h : SqL K H p xs) (k : R p) : (∃ a, V.ref p = .ref a ∧ (∃ xs, SqL K H a xs) ∧ R a) ∨ (∃ a, V.ref p = .ref a ∧ (∃ xs, SqT K H a xs) ∧ R' a) ∨ ∃ z, V.ref p = .str z ∧ S z := .inl ⟨p, rfl, ⟨xs, h⟩, k⟩
theorem w_itT {R R' : Addr → Prop} {S : Str → Prop} {xs : List V} (h : SqT K H p xs) (k : R' p) : (∃ a, V.ref p = .ref a ∧ (∃ xs, SqL K H a xs) ∧ R a) ∨ (∃ a, V.ref p = .ref a ∧ (∃ xs, SqT K H a xs) ∧ R' a) ∨ ∃ z, V.ref p = .str z ∧ S z := .inr (.inl ⟨p, rfl, ⟨xs, h⟩, k⟩)
theorem w_itS {R R' : Addr → Prop} {S : Str → Prop} {z : Str} (k : S z) : (∃ a, V.str z = .ref a ∧ (∃ xs, SqL K H a xs) ∧ R a) ∨ (∃ a, V.str z = .ref a ∧ (∃ xs, SqT K H a xs) ∧ R' a) ∨ ∃ y, V.str z = .str y ∧ S y := .inr (.inr ⟨z, rfl, k⟩)
theorem r_iRng1 {R : It → Hp → Prop} (h : tr σ H fun vs H1 => ∃ j : Int, vs = [.int j] ∧ -(2 ^ 62) ≤ j ∧ j < 2 ^ 62 ∧ R (Itr 0 j.toNat) H1) : iRng1 tr σ H R := h
theorem r_iRng2 {R : It → Hp → Prop} (h : tr σ H fun vs H1 => ∃ i j : Int, vs = [.int i, .int j] ∧ (-(2 ^ 62) ≤ i ∧ i < 2 ^ 62 ∧ -(2 ^ 62) ≤ j ∧ j < 2 ^ 62) ∧ R (Itr i (j - i).toNat) H1) : iRng2 tr σ H R := h
theorem r_iTup {R : It → Hp → Prop} (h : te σ H fun x H1 => ∃ a, x = .ref a ∧ (∃ xs, SqT K H1 a xs) ∧ R (Itt K a) H1) : iTup K te σ H R := h
/-- for i in range(n): a word of the turn, the slots and the heap -/
theorem l_range {n : Int} (W : Nat → L2.St → Hp → Prop) (w0 : W 0 σ H)
    (ws : ∀ (i : Nat) σ' H', (i : Int) < n → W i σ' H' → g (.int (i : Int)) σ' H' fun σ2 H2 => tu { D with nx := W (i + 1), ct := W (i + 1), bk := D.nx } σ2 H2) (wd : ∀ σ' H', W n.toNat σ' H' → D.nx σ' H') :
    ForIs (Itr 0 n.toNat) H g tu D σ := for_range (lo := 0) (n := n.toNat) W w0 (fun i σ' H' hi q => by rw [Int.zero_add]; exact ws i σ' H' (by omega) q) wd
/-- for i in range(m, n) -/
theorem l_range2 {m n : Int} (W : Nat → L2.St → Hp → Prop) (w0 : W 0 σ H)
    (ws : ∀ (i : Nat) σ' H', m + (i : Int) < n → W i σ' H' → g (.int (m + (i : Int))) σ' H' fun σ2 H2 => tu { D with nx := W (i + 1), ct := W (i + 1), bk := D.nx } σ2 H2) (wd : ∀ σ' H', W (n - m).toNat σ' H' → D.nx σ' H') :
    ForIs (Itr m (n - m).toNat) H g tu D σ := for_range (lo := m) (n := (n - m).toNat) W w0 (fun i σ' H' hi q => ws i σ' H' (by omega) q) wd
/-- for x in t (a tuple), in l (a list); hl: it stands still -/
theorem l_tup (W : Nat → L2.St → Hp → Prop) (w0 : W 0 σ H) (hl : ∀ i σ H, W i σ H → SqT K H p xs)
    (ws : ∀ (i : Nat) x σ' H', xs[i]? = some x → W i σ' H' → g x σ' H' fun σ2 H2 => tu { D with nx := W (i + 1), ct := W (i + 1), bk := D.nx } σ2 H2) (wd : ∀ σ' H', W xs.length σ' H' → D.nx σ' H') :
    ForIs (Itt K p) H g tu D σ := for_tup (xs := xs) W w0 (fun i σ H _ => hl i σ H) ws wd
theorem l_list (W : Nat → L2.St → Hp → Prop) (w0 : W 0 σ H) (hl : ∀ i σ H, W i σ H → SqL K H p xs)
    (ws : ∀ (i : Nat) x σ' H', xs[i]? = some x → W i σ' H' → g x σ' H' fun σ2 H2 => tu { D with nx := W (i + 1), ct := W (i + 1), bk := D.nx } σ2 H2) (wd : ∀ σ' H', W xs.length σ' H' → D.nx σ' H') :
    ForIs (Itl K p) H g tu D σ := for_list (xs := xs) W w0 (fun i σ H _ => hl i σ H) ws wd
theorem l_str {z : Str} (W : Nat → L2.St → Hp → Prop) (w0 : W 0 σ H)
    (ws : ∀ (i : Nat) c σ' H', (TL.tl z)[i]? = some c → W i σ' H' → g (.str ⟨#[c]⟩) σ' H' fun σ2 H2 => tu { D with nx := W (i + 1), ct := W (i + 1), bk := D.nx } σ2 H2) (wd : ∀ σ' H', W z.length σ' H' → D.nx σ' H') :
    ForIs (Its z) H g tu D σ := for_it walk_str W w0 (fun _ _ _ _ _ => trivial) (by
      rintro i x σ' H1 H2 _ q ⟨rfl, c, hc, rfl⟩
      exact ws i c σ' _ (by simpa using hc) q) wd
theorem r_retN (h : D.rt .non H) : tRetN D σ H := h
theorem r_ifS (h : t σ H fun b H1 => if b = true then tu D σ H1 else tw D σ H1) : tIfS t tu tw D σ H := h
theorem r_var {i : Nat} (h : σ[i]? = some (some v)) (k : Q v H) : tVar i σ H Q := ⟨v, h, k⟩
theorem r_c (k : Q v H) : tC v σ H Q := k
theorem r_op (h : ta σ H fun x H1 => tb σ H1 fun y H2 => r x y H2 Q) : tOp r ta tb σ H Q := h
theorem r_un {r : V → Hp → VK → Prop} (h : ta σ H fun x H1 => r x H1 Q) : tUn r ta σ H Q := h
theorem r_nil {Q : List V → Hp → Prop} (k : Q [] H) : tNil σ H Q := k
theorem r_cons {Q : List V → Hp → Prop} (h : ta σ H fun x H1 => tr σ H1 fun xs H2 => Q (x :: xs) H2) : tCons ta tr σ H Q := h
theorem r_cb {r : List V → Hp → VK → Prop} (h : tr σ H fun vs H1 => r vs H1 Q) : tCB r tr σ H Q := h
theorem r_call {sp : Sp} {dvs : List V} {E : XK} (h : tr σ H fun vs H1 => sp (vs ++ dvs) H1 Q E) : tCall sp dvs E tr σ H Q := h
theorem r_bm {T : String} {r : V → List V → Hp → VK → Prop} (h : te σ H fun x H1 => tyV K T x H1 ∧ tr σ H1 fun xs H2 => r x xs H2 Q) : tBM K T r te tr σ H Q := h
theorem r_bm0 {T : String} {r : V → List V → Hp → VK → Prop} (h : te σ H fun x H1 => tyV K T x H1 ∧ r x [] H1 Q) : tBM0 K T r te σ H Q := h
theorem r_tup (h : tr σ H fun xs H1 => xs.length ≤ sizeLine ∧ ∀ p, H1 p = none → Q (.ref p) (upd H1 p (.tup xs))) : tTup tr σ H Q := h
theorem r_lst (h : tr σ H fun xs H1 => xs.length ≤ sizeLine ∧ ∀ p, H1 p = none → Q (.ref p) (upd H1 p (.lst xs))) : tLst tr σ H Q := h
theorem r_name {i : Nat} {Q : L2.St → Hp → Prop} (h : Q (σ.set i (some v)) H) : gName i v σ H Q := h
theorem r_sub {s : TSet} {Q : L2.St → Hp → Prop} (h : ta σ H fun o H1 => tb σ H1 fun i H2 => s o i v H2 fun H3 => Q σ H3) : gSub ta tb s v σ H Q := h
theorem r_test {Q : Bool → Hp → Prop} (h : te σ H fun x H1 => ∃ k, x = .bl k ∧ Q k H1) : tTest te σ H Q := h
theorem r_tB {Q : Bool → Hp → Prop} (h : te σ H fun x H1 => ∃ k, x = .bl k ∧ Q k H1) : tB te σ H Q := h
theorem r_exbl {Q : Bool → Hp → Prop} (h : Q b H) : ∃ k, V.bl b = .bl k ∧ Q k H := ⟨b, rfl, h⟩
theorem r_exbl' {P : Bool → Prop} (h : P b) : ∃ k, V.bl b = .bl k ∧ P k := ⟨b, rfl, h⟩
theorem r_and {Q : Bool → Hp → Prop} (h : t σ H fun c H1 => if c = true then u σ H1 Q else Q false H1) : tAnd t u σ H Q := h
theorem r_or {Q : Bool → Hp → Prop} (h : t σ H fun c H1 => if c = true then Q true H1 else u σ H1 Q) : tOr t u σ H Q := h
theorem r_not {Q : Bool → Hp → Prop} (h : t σ H fun c H1 => Q (!c) H1) : tNot t σ H Q := h
theorem r_if (h : t σ H fun c H1 => if c = true then ta σ H1 Q else tb σ H1 Q) : tIf t ta tb σ H Q := h
theorem r_chain (h : ta σ H fun x H1 => tb σ H1 fun y H2 => r x y H2 fun z H3 => ∃ k, z = .bl k ∧ (if k = true then tc σ H3 fun w' H4 => r' y w' H4 Q else Q (.bl false) H3)) : tChain r r' ta tb tc σ H Q := h
theorem r_orT (h : ta σ H fun x H1 => ∃ k, TruV K x H1 k ∧ if k = true then Q x H1 else tb σ H1 Q) : tOrT K ta tb σ H Q := h
theorem r_andT (h : ta σ H fun x H1 => ∃ k, TruV K x H1 k ∧ if k = true then tb σ H1 Q else Q x H1) : tAndT K ta tb σ H Q := h
theorem r_notT (h : ta σ H fun x H1 => ∃ k, TruV K x H1 k ∧ Q (.bl (!k)) H1) : tNotT K ta σ H Q := h
theorem r_sl {r : V → Option Int → Option Int → Hp → VK → Prop} {tl th : TO} (h : te σ H fun x H1 => tl σ H1 fun l H2 => th σ H2 fun u H3 => r x l u H3 Q) : tSl r te tl th σ H Q := h
theorem r_nopart {Q : Option Int → Hp → Prop} (h : Q none H) : tNoPart σ H Q := h
theorem r_part {Q : Option Int → Hp → Prop} (h : te σ H fun x H1 => ∃ i, x = .int i ∧ Q (some i) H1) : tPart te σ H Q := h
theorem r_exint {R : Int → Prop} (h : R i) : ∃ k, V.int i = .int k ∧ R k := ⟨i, rfl, h⟩
theorem r_yes {Q : Bool → Hp → Prop} (h : Q true H) : tYes σ H Q := h
/-- what an item y asks, what one that is left out -/
def LcNx (W : Addr → Nat → List V → Hp → Prop) (D : Addr) (k : Nat) (y : V) (H : Hp) : Prop := ∃ acc, H D = some (.lst acc) ∧ acc.length < sizeLine ∧ ∃ a, upd H D (.lst (acc ++ [y])) D = some (.lst a) ∧ W D k a (upd H D (.lst (acc ++ [y])))
def LcSk (W : Addr → Nat → List V → Hp → Prop) (D : Addr) (k : Nat) (H : Hp) : Prop := ∃ a, H D = some (.lst a) ∧ W D k a H
/-- a list made in a comprehension, over any walk: W by the list's place, the turn, what is made, the heap -/
theorem l_lc {J : It} {n : Nat} {G : Hp → Prop} {Y : Nat → Hp → V → Hp → Prop} (w : Walk J n G Y) {tt : TT} {vs : List Nat} (W : Addr → Nat → List V → Hp → Prop) (w0 : ∀ D, H D = none → W D 0 [] (upd H D (.lst [])))
    (hG : ∀ D i acc H', H D = none → W D i acc H' → G H')
    (ws : ∀ D i acc x H1 H2, H D = none → i < n → W D i acc H1 → H1 D = some (.lst acc) → Y i H1 x H2 → g x (wipe σ vs) H2 fun σ2 H2 => wipe σ2 vs = wipe σ vs ∧ tt σ2 H2 fun b H3 =>
      if b = true then te σ2 H3 fun y H4 => LcNx W D (i + 1) y H4 else LcSk W D (i + 1) H3)
    (wd : ∀ D acc H', H D = none → W D n acc H' → H' D = some (.lst acc) → Q (.ref D) H') :
    LcIs J H g tt te vs σ Q := fun D hD =>
  lc_it w (fun i H' => ∃ acc, H' D = some (.lst acc) ∧ W D i acc H') ⟨[], upd_same, w0 D hD⟩ (fun i H' _ ⟨acc, _, q⟩ => hG D i acc H' hD q) (fun i x H1 H2 hi ⟨acc, e, q⟩ y => ws D i acc x H1 H2 hD hi q e y) fun H' ⟨acc, e, q⟩ => wd D acc H' hD q e
theorem lc_next {W : Addr → Nat → List V → Hp → Prop} {D : Addr} {k : Nat} {acc : List V} (h : H D = some (.lst acc)) (l : acc.length < sizeLine) (q : W D k (acc ++ [y]) (upd H D (.lst (acc ++ [y])))) : LcNx W D k y H := ⟨acc, h, l, _, upd_same, q⟩
theorem lc_skip {W : Addr → Nat → List V → Hp → Prop} {D : Addr} {k : Nat} {acc : List V} (h : H D = some (.lst acc)) (q : W D k acc H) : LcSk W D k H := ⟨acc, h, q⟩
/-- a for over any walk -/
theorem l_for {J : It} {n : Nat} {G : Hp → Prop} {Y : Nat → Hp → V → Hp → Prop} (w : Walk J n G Y) (W : Nat → L2.St → Hp → Prop) (w0 : W 0 σ H) (hG : ∀ i σ H, W i σ H → G H)
    (ws : ∀ (i : Nat) x σ' H1 H2, i < n → W i σ' H1 → Y i H1 x H2 → g x σ' H2 fun σ2 H2 => tu { D with nx := W (i + 1), ct := W (i + 1), bk := D.nx } σ2 H2) (wd : ∀ σ' H', W n σ' H' → D.nx σ' H') :
    ForIs J H g tu D σ :=
  for_it w W w0 (fun i σ H _ => hG i σ H) ws wd
/-! values -/
theorem b_lst {R : Prop} {xs : List V} (h : H p = some (.lst xs)) (k : R) : tyV K "list" (.ref p) H ∧ R := ⟨.inl ⟨rfl, xs, SqL.of h⟩, k⟩
theorem b_str {R : Prop} {z : Str} (k : R) : tyV K "str" (.str z) H ∧ R := ⟨rfl, k⟩
theorem v_append (h : H p = some (.lst xs)) (l : xs.length < sizeLine) (k : Q .non (upd H p (.lst (xs ++ [v])))) : rAppend (.ref p) [v] H Q := ⟨p, xs, v, rfl, rfl, h, l, k⟩
theorem v_extend {ys : List V} (h : H p = some (.lst xs)) (h2 : H q = some (.lst ys)) (l : xs.length + ys.length ≤ sizeLine) (k : Q .non (upd H p (.lst (xs ++ ys)))) : rExtend (.ref p) [.ref q] H Q := ⟨p, q, xs, ys, rfl, rfl, h, h2, l, k⟩
theorem v_join {a : Str} {ys : List Str} (h : H p = some (.lst (ys.map V.str))) (l : (ys.map (·.length)).sum + ys.length * a.length ≤ 16777216) (k : Q (.str (Txt.join a ys)) H) : gJoin K (.str a) [.ref p] H Q := ⟨a, p, ys, rfl, rfl, .inl (SqL.of h), l, k⟩
theorem v_split {a b : Str} (hb : (b.length == 0) = false) (l : a.length + 2 ≤ sizeLine) (k : ∀ p, H p = none → Q (.ref p) (upd H p (.lst ((Txt.split a b).map V.str)))) : gSplit (.str a) [.str b] H Q := ⟨a, b, rfl, rfl, hb, l, k⟩
theorem v_slL {lo hi : Option Int} (h : H p = some (.lst xs)) (k : ∀ l, H l = none → Q (.ref l) (upd H l (.lst (cutV xs lo hi)))) : gSl K (.ref p) lo hi H Q := .inl ⟨p, xs, rfl, SqL.of h, k⟩
theorem v_slS {lo hi : Option Int} {z : Str} (l : z.length ≤ sizeLine) (k : Q (.str (cutS z lo hi)) H) : gSl K (.str z) lo hi H Q := .inr (.inr ⟨z, rfl, l, k⟩)
theorem v_inS {c : Nat} {z : Str} (k : Q (.bl (decide (c ∈ z.cps.toList))) H) : gIn K (.str ⟨#[c]⟩) (.str z) H Q := .inr ⟨c, z, rfl, rfl, k⟩
theorem v_notinS {c : Nat} {z : Str} (k : Q (.bl (!decide (c ∈ z.cps.toList))) H) : gNotIn K (.str ⟨#[c]⟩) (.str z) H Q := .inr ⟨c, z, rfl, rfl, k⟩
theorem v_all {bs : List Bool} (h : H p = some (.lst (bs.map V.bl))) (k : Q (.bl (bs.all id)) H) : rAll K [.ref p] H Q := ⟨p, bs, rfl, SqL.of h, k⟩
theorem v_any {bs : List Bool} (h : H p = some (.lst (bs.map V.bl))) (k : Q (.bl (bs.any id)) H) : rAny K [.ref p] H Q := ⟨p, bs, rfl, SqL.of h, k⟩
theorem v_ord {c : Nat} (k : Q (.int (c : Nat)) H) : gOrd [.str ⟨#[c]⟩] H Q := ⟨⟨#[c]⟩, rfl, rfl, k⟩
theorem v_intS {z : Str} (e : PySem.intText? z = some i) (l : z.length ≤ 640) (k : Q (.int i) H) : gInt [.str z] H Q := .inr ⟨z, i, rfl, e, l, k⟩
theorem v_addI (k : Q (.int (i + j)) H) : gAdd K (.int i) (.int j) H Q := .inl ⟨i, j, rfl, rfl, k⟩
theorem v_addS {a b : Str} (h : a.length + b.length ≤ sizeLine) (k : Q (.str (a ++ b)) H) : gAdd K (.str a) (.str b) H Q := .inr (.inl ⟨a, b, rfl, rfl, h, k⟩)
theorem v_addL {xs ys : List V} (h1 : H p = some (.lst xs)) (h2 : H q = some (.lst ys)) (h : xs.length + ys.length ≤ sizeLine) (k : ∀ l, H l = none → Q (.ref l) (upd H l (.lst (xs ++ ys)))) : gAdd K (.ref p) (.ref q) H Q :=
  .inr (.inr (.inl ⟨p, q, xs, ys, rfl, rfl, h1, h2, h, k⟩))
theorem v_sub (k : Q (.int (i - j)) H) : gSubI (.int i) (.int j) H Q := ⟨i, j, rfl, rfl, k⟩
theorem v_mul (h : CMul i j) (k : Q (.int (i * j)) H) : gMul (.int i) (.int j) H Q := ⟨i, j, rfl, rfl, h, k⟩
theorem v_div (h : CDiv i j) (k : Q (.int (i / j)) H) : gDiv (.int i) (.int j) H Q := ⟨i, j, rfl, rfl, h, k⟩
theorem v_mod (h : 0 < j) (k : Q (.int (i % j)) H) : gMod (.int i) (.int j) H Q := ⟨i, j, rfl, rfl, h, k⟩
theorem v_pow (h : CPow i j) (k : Q (.int (i ^ j.toNat)) H) : gPow (.int i) (.int j) H Q := ⟨i, j, rfl, rfl, h, k⟩
theorem v_ltI (k : Q (.bl (decide (i < j))) H) : gLt (.int i) (.int j) H Q := .inl ⟨i, j, rfl, rfl, k⟩
theorem v_leI (k : Q (.bl (decide (i ≤ j))) H) : gLe (.int i) (.int j) H Q := .inl ⟨i, j, rfl, rfl, k⟩
theorem v_ltS {a b : Str} (k : Q (.bl (decide (a.cps.toList < b.cps.toList))) H) : gLt (.str a) (.str b) H Q := .inr ⟨a, b, rfl, rfl, k⟩
theorem v_leS {a b : Str} (k : Q (.bl (!decide (b.cps.toList < a.cps.toList))) H) : gLe (.str a) (.str b) H Q := .inr ⟨a, b, rfl, rfl, k⟩
theorem v_gt (k : Q (.bl (decide (j < i))) H) : gGt (.int i) (.int j) H Q := ⟨i, j, rfl, rfl, k⟩
theorem v_ge (k : Q (.bl (decide (j ≤ i))) H) : gGe (.int i) (.int j) H Q := ⟨i, j, rfl, rfl, k⟩
theorem v_eqI (k : Q (.bl (decide (i = j))) H) : rEq (.int i) (.int j) H Q := ⟨rfl, by
  have e : decide (V.int i = V.int j) = decide (i = j) := by
    by_cases h : i = j
    · subst h; simp
    · rw [decide_eq_false h, decide_eq_false (fun q => h (V.int.inj q))]
  rw [e]; exact k⟩
theorem v_eqS {a b : Str} (k : Q (.bl (decide (a = b))) H) : rEq (.str a) (.str b) H Q := ⟨rfl, by
  have e : decide (V.str a = V.str b) = decide (a = b) := by
    by_cases h : a = b
    · subst h; simp
    · rw [decide_eq_false h, decide_eq_false (fun q => h (V.str.inj q))]
  rw [e]; exact k⟩
theorem v_eqB {a b : Bool} (k : Q (.bl (decide (a = b))) H) : rEq (.bl a) (.bl b) H Q := ⟨rfl, by
  have e : decide (V.bl a = V.bl b) = decide (a = b) := by cases a <;> cases b <;> rfl
  rw [e]; exact k⟩
theorem v_neI (k : Q (.bl (!decide (i = j))) H) : rNe (.int i) (.int j) H Q := ⟨rfl, by
  have e : decide (V.int i = V.int j) = decide (i = j) := by
    by_cases h : i = j
    · subst h; simp
    · rw [decide_eq_false h, decide_eq_false (fun q => h (V.int.inj q))]
  rw [e]; exact k⟩
theorem v_neS {a b : Str} (k : Q (.bl (!decide (a = b))) H) : rNe (.str a) (.str b) H Q := ⟨rfl, by
  have e : decide (V.str a = V.str b) = decide (a = b) := by
    by_cases h : a = b
    · subst h; simp
    · rw [decide_eq_false h, decide_eq_false (fun q => h (V.str.inj q))]
  rw [e]; exact k⟩
theorem v_neB {a b : Bool} (k : Q (.bl (!decide (a = b))) H) : rNe (.bl a) (.bl b) H Q := ⟨rfl, by
  have e : decide (V.bl a = V.bl b) = decide (a = b) := by cases a <;> cases b <;> rfl
  rw [e]; exact k⟩
theorem v_is (k : Q (.bl (decide (x = .non))) H) : gIs x .non H Q := ⟨rfl, k⟩
theorem v_isnot (k : Q (.bl (!decide (x = .non))) H) : gIsNot x .non H Q := ⟨rfl, k⟩
theorem v_isN (k : Q (.bl true) H) : gIs .non .non H Q := ⟨rfl, k⟩
theorem v_isB {c : Bool} (k : Q (.bl false) H) : gIs (.bl c) .non H Q := ⟨rfl, k⟩
theorem v_isI (k : Q (.bl false) H) : gIs (.int i) .non H Q := ⟨rfl, k⟩
theorem v_isS {z : Str} (k : Q (.bl false) H) : gIs (.str z) .non H Q := ⟨rfl, k⟩
theorem v_isR (k : Q (.bl false) H) : gIs (.ref p) .non H Q := ⟨rfl, k⟩
theorem v_isnotN (k : Q (.bl false) H) : gIsNot .non .non H Q := ⟨rfl, k⟩
theorem v_isnotB {c : Bool} (k : Q (.bl true) H) : gIsNot (.bl c) .non H Q := ⟨rfl, k⟩
theorem v_isnotI (k : Q (.bl true) H) : gIsNot (.int i) .non H Q := ⟨rfl, k⟩
theorem v_isnotS {z : Str} (k : Q (.bl true) H) : gIsNot (.str z) .non H Q := ⟨rfl, k⟩
theorem v_isnotR (k : Q (.bl true) H) : gIsNot (.ref p) .non H Q := ⟨rfl, k⟩
theorem v_eqN (k : Q (.bl true) H) : rEq .non .non H Q := ⟨rfl, k⟩
theorem v_neN (k : Q (.bl false) H) : rNe .non .non H Q := ⟨rfl, k⟩
theorem v_lenLs (h : SqL K H p xs) (k : Q (.int (xs.length : Nat)) H) : gLen K [.ref p] H Q := ⟨.ref p, _, rfl, .inl ⟨xs, h, rfl⟩, k⟩
theorem v_lenTs (h : SqT K H p xs) (k : Q (.int (xs.length : Nat)) H) : gLen K [.ref p] H Q := ⟨.ref p, _, rfl, .inr ⟨xs, h, rfl⟩, k⟩
theorem v_ixLs (h : SqL K H p xs) (e : atI xs i = some v) (k : Q v H) : rIx K (.ref p) (.int i) H Q := .inl ⟨p, xs, i, v, rfl, rfl, h, e, k⟩
theorem v_ixTs (h : SqT K H p xs) (e : atI xs i = some v) (k : Q v H) : rIx K (.ref p) (.int i) H Q := .inr (.inl ⟨p, xs, i, v, rfl, rfl, h, e, k⟩)
theorem v_ixL (h : H p = some (.lst xs)) (e : atI xs i = some v) (k : Q v H) : rIx K (.ref p) (.int i) H Q := .inl ⟨p, xs, i, v, rfl, rfl, SqL.of h, e, k⟩
theorem v_ixT (h : H p = some (.tup xs)) (e : atI xs i = some v) (k : Q v H) : rIx K (.ref p) (.int i) H Q := .inr (.inl ⟨p, xs, i, v, rfl, rfl, SqT.of h, e, k⟩)
theorem v_ixS {z : Str} {c : Nat} (h : z.length ≤ sizeLine) (e : atI z.cps.toList i = some c) (k : Q (.str ⟨#[c]⟩) H) : rIx K (.str z) (.int i) H Q := .inr (.inr ⟨z, i, c, rfl, rfl, h, e, k⟩)
theorem v_setL {R : Hp → Prop} {n : Nat} (h : H p = some (.lst xs)) (e : ixN xs.length i = some n) (k : R (upd H p (.lst (xs.set n v)))) : rSetL (.ref p) (.int i) v H R := ⟨p, xs, i, n, rfl, rfl, h, e, k⟩
theorem v_lenL (h : H p = some (.lst xs)) (k : Q (.int (xs.length : Nat)) H) : gLen K [.ref p] H Q := ⟨.ref p, _, rfl, .inl ⟨xs, SqL.of h, rfl⟩, k⟩
theorem v_lenT (h : H p = some (.tup xs)) (k : Q (.int (xs.length : Nat)) H) : gLen K [.ref p] H Q := ⟨.ref p, _, rfl, .inr ⟨xs, SqT.of h, rfl⟩, k⟩
theorem v_lenS {z : Str} (h : z.length ≤ sizeLine) (k : Q (.int (z.length : Nat)) H) : gLen K [.str z] H Q := ⟨.str z, _, rfl, ⟨h, rfl⟩, k⟩
theorem v_intI (k : Q (.int i) H) : gInt [.int i] H Q := .inl (.inl ⟨i, rfl, k⟩)
theorem v_intB (k : Q (.int (if b then 1 else 0)) H) : gInt [.bl b] H Q := .inl (.inr ⟨b, rfl, k⟩)
theorem v_min (k : Q (.int (if j < i then j else i)) H) : gMin [.int i, .int j] H Q := ⟨i, j, rfl, k⟩
theorem v_listL (h : H p = some (.lst xs)) (k : ∀ l, H l = none → Q (.ref l) (upd H l (.lst xs))) : gList K [.ref p] H Q := ⟨p, xs, rfl, .inl (SqL.of h), k⟩
theorem v_isi {a T : String} (ht : TyX K H x (.type a)) (hk : kitB a T = some b) (k : Q (.bl b) H) : gIsi K [x, .ty T] H Q := .inl ⟨x, .ty T, _, _, b, rfl, .ty T, ht, kit_ty hk, k⟩
theorem v_isiI {T : String} (hk : kitB "int" T = some b) (k : Q (.bl b) H) : gIsi K [.int i, .ty T] H Q := v_isi (.base (.int i)) hk k
theorem v_isiB {c : Bool} {T : String} (hk : kitB "bool" T = some b) (k : Q (.bl b) H) : gIsi K [.bl c, .ty T] H Q := v_isi (.base (.bl c)) hk k
theorem v_isiS {z : Str} {T : String} (hk : kitB "str" T = some b) (k : Q (.bl b) H) : gIsi K [.str z, .ty T] H Q := v_isi (.base (.str z)) hk k
theorem v_isiN {T : String} (hk : kitB "NoneType" T = some b) (k : Q (.bl b) H) : gIsi K [.non, .ty T] H Q := v_isi (.base .non) hk k
theorem tyx_l (h : SqL K H p xs) : TyX K H (.ref p) (.type "list") := by
  rcases h with (h | ⟨o, h⟩) | ⟨o, its, n, hk, hc, _⟩
  · exact .base (.lst h)
  · exact .base (.frz h)
  · exact .kList hk hc
theorem tyx_t (h : SqT K H p xs) : TyX K H (.ref p) (.type "tuple") := by
  rcases h with (h | ⟨o, h⟩) | ⟨o, its, n, hk, hc, _⟩
  · exact .base (.tup h)
  · exact .fTuple h
  · exact .kTuple hk hc
theorem v_isiL {T : String} (h : SqL K H p xs) (hk : kitB "list" T = some b) (k : Q (.bl b) H) : gIsi K [.ref p, .ty T] H Q := v_isi (tyx_l h) hk k
theorem v_isiT {T : String} (h : SqT K H p xs) (hk : kitB "tuple" T = some b) (k : Q (.bl b) H) : gIsi K [.ref p, .ty T] H Q := v_isi (tyx_t h) hk k
theorem v_str (h : i.natAbs.log2 < 1920) (k : Q (.str (toString i)) H) : gStr [.int i] H Q := ⟨i, rfl, h, k⟩
/-! tests -/
theorem i_t {A B : Prop} (h : A) : if true = true then A else B := by rw [if_pos rfl]; exact h
theorem i_f {A B : Prop} (h : B) : if false = true then A else B := by rw [if_neg Bool.false_ne_true]; exact h
theorem i_nt {A B : Prop} (h : B) : if (!true) = true then A else B := by rw [if_neg (by decide)]; exact h
theorem i_nf {A B : Prop} (h : A) : if (!false) = true then A else B := by show (if true = true then A else B); rw [if_pos rfl]; exact h
theorem i_d {c A B : Prop} [Decidable c] (h1 : c → A) (h2 : ¬ c → B) : if decide c = true then A else B := by
  by_cases h : c
  · rw [decide_eq_true h]; exact i_t (h1 h)
  · rw [decide_eq_false h]; exact i_f (h2 h)
theorem i_nd {c A B : Prop} [Decidable c] (h1 : ¬ c → A) (h2 : c → B) : if (!decide c) = true then A else B := by
  by_cases h : c
  · rw [decide_eq_true h]; exact i_f (h2 h)
  · rw [decide_eq_false h]; exact i_t (h1 h)
theorem i_dt {c A B : Prop} [Decidable c] (h : c) (k : A) : if decide c = true then A else B := by rw [decide_eq_true h]; exact i_t k
theorem i_df {c A B : Prop} [Decidable c] (h : ¬ c) (k : B) : if decide c = true then A else B := by rw [decide_eq_false h]; exact i_f k
theorem i_ndt {c A B : Prop} [Decidable c] (h : ¬ c) (k : A) : if (!decide c) = true then A else B := by rw [decide_eq_false h]; exact i_t k
theorem i_ndf {c A B : Prop} [Decidable c] (h : c) (k : B) : if (!decide c) = true then A else B := by rw [decide_eq_true h]; exact i_f k
theorem i_nn {c : Bool} {A B : Prop} (h : if c = true then A else B) : if (!!c) = true then A else B := by rw [Bool.not_not]; exact h
theorem i_b {c : Bool} {A B : Prop} (h1 : c = true → A) (h2 : c = false → B) : if c = true then A else B := by
  cases c with
  | true => exact i_t (h1 rfl)
  | false => exact i_f (h2 rfl)
end
section
variable {K : PySem.W.Frag} {H : Hp} {Q : Bool → Hp → Prop}
theorem t_bl {R : Bool → Prop} {b : Bool} (h : R b) : ∃ k, TruV K (.bl b) H k ∧ R k := ⟨b, rfl, h⟩
theorem t_non {R : Bool → Prop} (h : R false) : ∃ k, TruV K .non H k ∧ R k := ⟨_, rfl, h⟩
theorem t_int {R : Bool → Prop} {i : Int} (h : R (i != 0)) : ∃ k, TruV K (.int i) H k ∧ R k := ⟨_, rfl, h⟩
theorem t_str {R : Bool → Prop} {z : Str} (l : z.length ≤ sizeLine) (h : R ((z.length : Int) != 0)) : ∃ k, TruV K (.str z) H k ∧ R k := ⟨_, ⟨l, rfl⟩, h⟩
theorem t_lst {R : Bool → Prop} {p : Addr} {xs : List V} (l : H p = some (.lst xs)) (h : R (!xs.isEmpty)) : ∃ k, TruV K (.ref p) H k ∧ R k := ⟨_, .inl ⟨xs, SqL.of l, rfl⟩, h⟩
end
/-! ### a walk over a list, a tuple or a text -/
def gIt (K : PySem.W.Frag) (tl : TE) : TI := fun σ H R => tl σ H fun x H1 => (∃ a, x = .ref a ∧ (∃ xs, SqL K H1 a xs) ∧ R (Itl K a) H1) ∨ (∃ a, x = .ref a ∧ (∃ xs, SqT K H1 a xs) ∧ R (Itt K a) H1) ∨ ∃ z, x = .str z ∧ R (Its z) H1
theorem g_it {X : Cx} {K : PySem.W.Frag} {tg l : Expr} {tl : TE} (hl : PE X l tl) (hK : X.K = K := by rfl) : PI X tg l (gIt K tl) := by
  subst hK
  constructor
  intro pins s σ H R I h
  apply thn (hl.run pins s σ H _ I h)
  rintro v s1 ⟨x, H1, I1, r1, q1⟩
  rcases q1 with ⟨a, e, ⟨xs, hq⟩, q⟩ | ⟨a, e, ⟨xs, hq⟩, q⟩ | ⟨z, e, q⟩
  · subst e; cases r1
    obtain ⟨its, rv, pl, hz⟩ := I1.list hq
    apply wpAny_pyIter_list pl.isList
    refine ⟨s1.heap.objs.size, [s1.heap.objs.size], _, _, H1, rfl, I1.kept (t' := s1.toks) fun b o eo => Heap.get?_push_of_some _ eo, turn_list a _, ⟨_, Heap.get?_push_size _ rfl, rfl, rfl⟩, ?_, q⟩
    intro b hb
    obtain rfl : b = s1.heap.objs.size := by simpa using hb
    exact I1.fpOk (Nat.le_refl _) (I1.hok.fresh (Nat.le_refl _))
  · subst e; cases r1
    obtain ⟨its, rv, pl, hz⟩ := I1.tuple hq
    apply wpAny_pyIter_tuple (show s1.heap.IsTuple a its.toArray from pl)
    refine ⟨s1.heap.objs.size, [s1.heap.objs.size], _, _, H1, rfl, I1.kept (t' := s1.toks) fun b o eo => Heap.get?_push_of_some _ eo, turn_tuple a _, ⟨_, Heap.get?_push_size _ rfl, rfl, rfl⟩, ?_, q⟩
    intro b hb
    obtain rfl : b = s1.heap.objs.size := by simpa using hb
    exact I1.fpOk (Nat.le_refl _) (I1.hok.fresh (Nat.le_refl _))
  · subst e
    obtain ⟨t, rfl⟩ := r1
    cases ha : z.cps.all (· < 128)
    · exact wpAny_pyIter_wide ha (pi_one (tk := s1.toks) I1 _ (turn_str _ z t "str_iterator" (.inr rfl)) ⟨_, Heap.get?_push_size _ rfl, rfl, rfl⟩ q)
    · exact wpAny_pyIter_ascii ha (pi_one (tk := s1.toks) I1 _ (turn_str _ z t "str_ascii_iterator" (.inl rfl)) ⟨_, Heap.get?_push_size _ rfl, rfl, rfl⟩ q)

theorem r_gIt {K : PySem.W.Frag} {te : TE} {σ : L2.St} {H : Hp} {R : It → Hp → Prop} (h : te σ H fun x H1 => (∃ a, x = .ref a ∧ (∃ xs, SqL K H1 a xs) ∧ R (Itl K a) H1) ∨ (∃ a, x = .ref a ∧ (∃ xs, SqT K H1 a xs) ∧ R (Itt K a) H1) ∨ ∃ z, x = .str z ∧ R (Its z) H1) : gIt K te σ H R := h

/-! ### defs of the text: where they stand, what they promise -/
/-- the def st stands under the module's name x -/
def FunAt (K : PySem.W.Frag) (mg : Str → Option Value) (x qual : Str) (st : Stmt) : Prop := ∃ f fd, mg x = some (.ref f) ∧ Fun K x qual st f fd
/-- the def under the name x keeps the promise sp -/
structure Cal (P : Program) (w : World) (K : PySem.W.Frag) (mg : Str → Option Value) (base : Heap) (CX : CXT) (k : Nat) (x : Str) (ps : List Str) (sp : Sp) : Prop where
  ex : ∃ f fd, mg x = some (.ref f) ∧ PySem.W.keepIn K (.ref f) = true ∧ (∃ oc od sl, K.lookup f = some ⟨oc, od, .func fd, sl⟩) ∧ Binds K fd ps [] ∧ FnOk P w K mg base CX k f fd ps sp
section
variable {P : Program} {w : World} {K : PySem.W.Frag} {mg : Str → Option Value} {base : Heap} {CX : CXT} {j k : Nat} {x qual : Str} {ps N : List Str} {sp sp' : Sp} {st : Stmt}
theorem Cal.mono (C : Cal P w K mg base CX j x ps sp) (h : j ≤ k) : Cal P w K mg base CX k x ps sp := by
  obtain ⟨f, fd, m, kp, lk, b, F⟩ := C.ex
  exact ⟨f, fd, m, kp, lk, b, F.mono h⟩
theorem Cal.imp (C : Cal P w K mg base CX k x ps sp) (h : ∀ vs H Q E, sp' vs H Q E → sp vs H Q E) : Cal P w K mg base CX k x ps sp' := by
  obtain ⟨f, fd, m, kp, lk, b, F⟩ := C.ex
  exact ⟨f, fd, m, kp, lk, b, F.imp h⟩
/-- THE RULE: a def of the text that lets no exception out -/
theorem def_ok (F : FunAt K mg x qual st) (S : FnScope N ps (defScope st))
    (hb : ∀ (kV doc pm : Value) (an : Option Addr) (cdv ct : Value) (us : List Value), us.length = ps.length → bindArgs (PySem.W.fnOf x qual (defArgs st) (defBody st) (defScope st) .none kV doc pm an cdv ct) ⟨us, []⟩ = pure (ps.zip us))
    (len : ∀ vs H Q E, sp vs H Q E → vs.length = ps.length)
    (body : ∀ (f : Addr) (cdv : Value) (A : Around) (outer : List Env) (s : Shared) (H : Hp) (vs : List V) (Q : VK) (E : XK), Room k (A.deeper (envOfC qual (defScope st) s.heap.objs.size f cdv)) → sp vs H Q E →
      ∃ t, PSs (cxOf CX0 P w K mg base N qual (defScope st) f cdv A outer s H E).nox (defBody st) t ∧ t { nx := fun _ H' => Q .non H', rt := Q } (start N vs) H) : Cal P w K mg base CX0 (k + 1) x ps sp := by
  obtain ⟨f, fd, m, G⟩ := F
  have lk : ∃ oc od sl, K.lookup f = some ⟨oc, od, .func fd, sl⟩ := by
    obtain ⟨oc, od, _, _, _, _, _, _, sl, _, lk, _⟩ := G.ex
    exact ⟨oc, od, sl, lk⟩
  exact ⟨f, fd, m, G.kp, lk, G.binds hb, G.ok S len fun cdv A outer s H vs Q E hr h => body f cdv A outer s H vs Q E hr h⟩
end
/-- the law's own def, at the place where the top has left it -/
theorem Cal.at_ {P : Program} {w : World} {K : PySem.W.Frag} {mg : Str → Option Value} {base : Heap} {CX : CXT} {k : Nat} {x qual : Str} {ps : List Str} {sp : Sp} {st : Stmt} {f : Addr} {fd : FuncData} (C : Cal P w K mg base CX k x ps sp) (m : mg x = some (.ref f)) (F : Fun K x qual st f fd) : FnOk P w K mg base CX k f fd ps sp := by
  obtain ⟨f', fd', m', kp, ⟨oc, od, sl, lk⟩, b, G⟩ := C.ex
  obtain rfl : f' = f := by
    rw [m] at m'
    injection m' with e
    injection e with e
    exact e.symm
  obtain ⟨oc', od', _, _, _, _, _, _, sl', _, lk', _⟩ := F.ex
  rw [lk] at lk'
  injection lk' with e
  injection e with _ _ e _
  injection e with e
  subst e
  exact G
/-- of a promise that asks what cannot be -/
theorem def_none {P : Program} {w : World} {K : PySem.W.Frag} {mg : Str → Option Value} {base : Heap} {CX : CXT} {k : Nat} {x qual : Str} {ps : List Str} {sp : Sp} {st : Stmt} (F : FunAt K mg x qual st)
    (hb : ∀ (kV doc pm : Value) (an : Option Addr) (cdv ct : Value) (us : List Value), us.length = ps.length → bindArgs (PySem.W.fnOf x qual (defArgs st) (defBody st) (defScope st) .none kV doc pm an cdv ct) ⟨us, []⟩ = pure (ps.zip us))
    (no : ∀ vs H Q E, ¬ sp vs H Q E) : Cal P w K mg base CX k x ps sp := by
  obtain ⟨f, fd, m, G⟩ := F
  have lk : ∃ oc od sl, K.lookup f = some ⟨oc, od, .func fd, sl⟩ := by
    obtain ⟨oc, od, _, _, _, _, _, _, sl, _, lk, _⟩ := G.ex
    exact ⟨oc, od, sl, lk⟩
  exact ⟨f, fd, m, G.kp, lk, G.binds hb, ⟨fun vs H Q E h => (no vs H Q E h).elim, fun _ _ _ H _ _ vs Q E _ _ _ _ h => (no vs H Q E h).elim⟩⟩
section
variable {X : Cx} {CX : CXT} {k : Nat} {x : Str} {ps : List Str} {sp : Sp} {E : XK} {p pos : Pos} {e : Expr} {es : List Expr} {t : TA}
/-- a call of such a def -/
theorem g_call (C : Cal X.prog X.w X.K X.mg X.base CX k x ps sp) (hr : Room k X.A) (hg : Gl X x) (hx : Passes CX X E) (ha : PA X (e :: es) t) (hdb : (x == ("__debug__" : Str)) = false := by decide)
    (he : starEach (e :: es) X.env = (false, eval e X.env) :: starEach es X.env := by rfl) (hpl : (backTo pos (starEach es X.env)).any (·.1) = false := by rfl) : PE X (.Call (.Name x p) (e :: es) [] pos) (tCall sp [] E t) := by
  obtain ⟨f, fd, m, kp, lk, b, F⟩ := C.ex
  exact pe_call F hr hg m kp b .nil hx ha hdb he hpl
theorem g_call0 (C : Cal X.prog X.w X.K X.mg X.base CX k x ps sp) (hr : Room k X.A) (hg : Gl X x) (hx : Passes CX X E) (hdb : (x == ("__debug__" : Str)) = false := by decide) : PE X (.Call (.Name x p) [] [] pos) (tCall sp [] E tNil) := by
  obtain ⟨f, fd, m, kp, lk, b, F⟩ := C.ex
  exact pe_call0 F hr hg m kp b .nil hx hdb
/-- a module's number or text -/
theorem g_const {v : V} {u : Value} (hg : Gl X x) (hm : X.mg x = some u) (r : RelV v u) (hd : (x == ("__debug__" : Str)) = false := by decide) : PE X (.Name x pos) (tC v) := pe_glob hg hm r hd
theorem g_cint {i : Int} (hm : ∃ t, X.mg x = some (.int i t)) (hg : Gl X x) (hd : (x == ("__debug__" : Str)) = false := by decide) : PE X (.Name x pos) (tC (.int i)) := by
  obtain ⟨t, m⟩ := hm
  exact pe_glob hg m ⟨t, rfl⟩ hd
theorem g_cstr {z : Str} (hm : ∃ t, X.mg x = some (.str z t)) (hg : Gl X x) (hd : (x == ("__debug__" : Str)) = false := by decide) : PE X (.Name x pos) (tC (.str z)) := by
  obtain ⟨t, m⟩ := hm
  exact pe_glob hg m ⟨t, rfl⟩ hd
end
/-- the heap behind a store -/
theorem upd_at {H : Hp} {a b : Addr} {o : HO} : upd H a o b = if b = a then some o else H b := rfl
/-- what was there before the new object p -/
theorem _root_.L2.Same.laid {H H' : Hp} {p : Addr} {o : HO} (s : Same H H') (n : H' p = none) : Same H (upd H' p o) := fun b u e => by
  rw [upd_ne (ne_of_none (s b u e) n)]; exact s b u e
end G

set_option Elab.async false
set_option linter.all false
set_option maxRecDepth 100000
set_option maxHeartbeats 4000000
/-! Ex: own errors below an own base class (own work). -/
namespace PySem.W
open PySem PySem.Spec PySem.Calls PyProof.Rows
section
variable {prog : Program} {w : World} {A : Around} {E : Value → Shared → Prop} {s : Shared} {K : Frag} {x D : Addr} {ox : Obj} {od : Option Obj}
theorem exfind {a g : Value} {n : Str} (h1 : (clsIn K D).isSome = true) (h2 : findIn K (.ref D) n = some (some a)) (h3 : specialIn K a "__get__" = some (some g)) (h4 : takesIn K a = some true) : findObj K D od n = some (.bind g a) := by
  obtain ⟨c, e⟩ := Option.isSome_iff_exists.mp h1
  unfold findObj
  rw [e, Option.bind_some, h2, Option.bind_some]
  simp [h3, h4]
/-- x.__class__ of an error x, with or without a dict -/
theorem exclass {R : Option Value → Shared → Prop} (g1 : findIn K (.ref D) "__getattribute__" = some (some (.builtin "BaseException.__getattribute__"))) (g2 : findIn K (.ref D) "__getattr__" = some none) (g3 : subIn K (.ref D) (.type "BaseException") = some true)
    (g4 : hasDictIn K D = true) (g5 : findIn K (.ref D) "__class__" = some (some (.builtin "object.__class__"))) (g6 : specialIn K (.builtin "object.__class__") "__get__" = some (some (.builtin "getset_descriptor.__get__")))
    (g7 : takesIn K (.builtin "object.__class__") = some true) (g8 : mroIn K D (.type "object") = some true) (X : K.In s.heap) (J : InstAt s.heap x ox D od) (q : R (some (.ref D)) { s with toks := s.toks + 1 }) :
    wpAny (model prog w) A (getAttr? (.ref x) "__class__") R E s := by
  have fo : findObj K D od "__class__" = some (.bind (.builtin "getset_descriptor.__get__") (.builtin "object.__class__")) := exfind (by obtain ⟨c, e, _⟩ := any_some g4; rw [e]; rfl) g5 g6 g7
  obtain ⟨hh, gg, dd, tt, oo⟩ := s
  have T0 := J.type (M := model prog w)
  have T1 := looks_findIn (M := model prog w) X g1
  have T2 := looks_findIn (M := model prog w) X g2
  have T3 := looks_find (M := model prog w) X J fo
  have TS : Looks (model prog w) hh (isInstance (.ref x) (.type "BaseException")) true := T0.andThen (looks_subIn X g3)
  have b0 : (Value.builtin "BaseException.__getattribute__" == Value.builtin "object.__getattribute__") = false := by decide +kernel
  have b1 : (onTheHeap (Value.ref D) && Value.builtin "BaseException.__getattribute__" == Value.builtin "object.__getattribute__") = false := by rw [b0]; rfl
  have b2 : (false && onTheHeap (Value.builtin "BaseException.__getattribute__")) = false := rfl
  unfold getAttr? getAttrBy? getAttrBy
  apply wpAny_bind
  apply wpAny_mkText
  apply wpAny_bind
  apply wpAny_attempt
  apply wpAny_holding
  apply wpAny_bind
  apply T0.at
  apply wpAny_bind
  apply T1.at
  show wpAny (model prog w) A (if (onTheHeap (Value.ref D) && Value.builtin "BaseException.__getattribute__" == Value.builtin "object.__getattribute__") = true then _ else _) _ _ _
  rw [b1, if_neg Bool.false_ne_true]
  unfold getAttrByItsOwn hookBefore
  apply wpAny_bind
  rw [if_pos (show onTheHeap (Value.ref D) = true from rfl)]
  apply T2.at
  apply wpAny_bind
  apply wpAny_attempt
  apply wpAny_holding
  unfold callGetattribute
  rw [b2, if_neg Bool.false_ne_true]
  unfold boundAndCalled
  rw [PySem.F.excAttr_ValueError.ga.bind (.ref x)]
  apply wpAny_bind
  apply wpAny_pure
  show wpAny (model prog w) _ (call (.builtin "BaseException.__getattribute__") [.ref x, .str "__class__" tt]) _ _ _
  apply wpAny_call
  refine codeAny_call_builtin PySem.F.excAttr_ValueError.ga.plain
    PySem.F.entry_bexc_ga ?_
  refine @check_slot (model prog w) _ _ ⟨hh, gg, dd, tt + 1, oo⟩ "BaseException.__getattribute__" "BaseException" "__getattribute__" (.ref x) [.str "__class__" tt] [] _
    (by decide +kernel) (by decide +kernel) TS (PySem.F.args_bexc_ga (.ref x) (.str "__class__" tt)) ?_
  unfold Builtin.«object.__getattribute__»
  apply wpAny_bind
  refine wpAny_of_eq (a := ((Value.ref x : Value), [Value.str "__class__" tt]))
    (by first | rfl | (simp only [slotArgs]; rfl)) ?_
  apply wpAny_bind
  apply wpAny_pure
  apply wpAny_bind
  apply T0.at
  apply wpAny_bind
  apply T3.at
  show wpAny (model prog w) _ (holding [Value.builtin "object.__class__"] (call (.builtin "getset_descriptor.__get__") [.builtin "object.__class__", .ref x, .ref D]) >>= ret) _ _ _
  apply wpAny_bind
  apply wpAny_holding
  apply wpAny_call
  refine class_get (s := ⟨hh, gg, dd, tt + 1, oo⟩) (ox := ox) (od := od) X J g8 ?_
  apply wpAny_pure
  show wpAny (model prog w) _ (handedOut (.ref D)) _ _ _
  rw [handedOut_of (v := .ref D) rfl]
  first
    | exact wpAny_pure (wpAny_pure q)
    | exact wpAny_pure q
    | exact wpAny_pure (wpAny_bind (wpAny_pure (wpAny_pure q)))
theorem exkit (g1 : findIn K (.ref D) "__getattribute__" = some (some (.builtin "BaseException.__getattribute__"))) (g2 : findIn K (.ref D) "__getattr__" = some none) (g3 : subIn K (.ref D) (.type "BaseException") = some true)
    (g4 : hasDictIn K D = true) (g5 : findIn K (.ref D) "__class__" = some (some (.builtin "object.__class__"))) (g6 : specialIn K (.builtin "object.__class__") "__get__" = some (some (.builtin "getset_descriptor.__get__")))
    (g7 : takesIn K (.builtin "object.__class__") = some true) (g8 : mroIn K D (.type "object") = some true) : KitX K (.ref x) (.ref D) (fun h => InstAt h x ox D od) where
  ty := fun _ _ _ J => J.type
  it := fun _ _ X _ => by
    obtain ⟨c, e, _⟩ := any_some g4
    unfold clsIn at e
    split at e
    · rename_i h1
      intro A' R' E' s' kk qq
      unfold isType loadHead
      exact wpAny_bind (wpAny_loadPart (kk _ _ (X _ _ h1)) (wpAny_pure qq))
    · cases e
  ne := fun h tp d1 its n sl X ht => by
    obtain ⟨c, e, _⟩ := any_some g4
    apply Bool.eq_false_iff.mpr
    intro z
    obtain rfl : D = tp := Value.ref.inj (beq_iff_eq.mp z)
    unfold clsIn at e
    split at e
    · rename_i h1
      cases (X _ _ h1).symm.trans ht
    · cases e
  ca := fun X J k => exclass g1 g2 g3 g4 g5 g6 g7 g8 X J k
end
end PySem.W
namespace G
open PySem PySem.Spec PyProof.Rows L2
/-- what the text says of an error class below the base B (whose __init__ is ValueError's) -/
structure ExK (K : PySem.W.Frag) (C : Addr) : Prop where
  ox : OexC K C
  ga : PySem.W.findIn K (.ref C) "__getattribute__" = some (some (.builtin "BaseException.__getattribute__"))
  gg : PySem.W.findIn K (.ref C) "__getattr__" = some none
  hd : PySem.W.hasDictIn K C = true
  cl : PySem.W.findIn K (.ref C) "__class__" = some (some (.builtin "object.__class__"))
  sp : PySem.W.specialIn K (.builtin "object.__class__") "__get__" = some (some (.builtin "getset_descriptor.__get__"))
  tk : PySem.W.takesIn K (.builtin "object.__class__") = some true
  mo : PySem.W.mroIn K C (.type "object") = some true
/-- the base class, whose __init__ is read off it -/
structure ExB (K : PySem.W.Frag) (B : Addr) : Prop where
  ga : PySem.W.specialIn K (.ref B) "__getattribute__" = some (some (.builtin "type.__getattribute__"))
  rd : PySem.W.readsIn K B (.type "type") = true
  it : PySem.W.findCls K (.ref B) (.type "type") "__init__" = some (.val (.builtin "ValueError.__init__"))
section
variable {X : Cx} {K : PySem.W.Frag} {B : Addr} {x : Str} {e : Expr} {es : List Expr} {ta : TA} {p1 p2 pos : Pos}
/-- Base.__init__(self, ..) -/
theorem pe_binit {pl : Sem Bool} (hK : X.K = K) (b : ExB K B) (hm : X.mg x = some (.ref B)) (hg : Gl X x) (ha : PA X (e :: es) ta) (hdb : (x == ("__debug__" : Str)) = false := by decide)
    (hc : eval (.Call (.Attribute (.Name x p1) "__init__" p2) (e :: es) [] pos) X.env = (do
      let ov ← eval (.Name x p1) X.env
      standAt p2.atName
      let (f, first) ← holding [ov] (getMethod ov "__init__" pl)
      callWith pos f first (backTo pos (starEach (e :: es) X.env)) (backToKw pos (keywordEach [] X.env))) := by rfl)
    (he : starEach (e :: es) X.env = (false, eval e X.env) :: starEach es X.env := by rfl) (hpl : (backTo pos (starEach es X.env)).any (·.1) = false := by rfl) :
    PE X (.Call (.Attribute (.Name x p1) "__init__" p2) (e :: es) [] pos) (tVeI K ta) := by
  subst hK
  constructor
  intro pins s σ H Q I h
  refine PySem.W.methodCall_KW (ld_glob I hg hm ?_ hdb) hc
  refine PySem.W.method_cls I.kIn b.ga (PySem.W.cls_value I.kIn b.rd b.it (by decide +kernel) ?_)
  refine PyProof.Rows.callWith_method1 (thn (ha.run pos pins _ σ H _ (I.tok _) h) ?_) he hpl
  rintro us s1 ⟨vs, H1, I1, r1, a, C, ws, ev, hl, T, ea, q⟩
  subst ev
  cases r1 with
  | @cons _ u0 _ ur ra rw' =>
    obtain rfl : u0 = Value.ref a := ra
    refine oinit_ok T I1 ea ?_ fun s' J => ⟨.non, H1, J, rfl, q⟩
    have z := Paired.length rw'
    rw [line_val]
    omega
/-- isinstance(e, c), e the error that the suite holds, at a; its class cls, its dict d -/
def gIsE (K : PySem.W.Frag) (a : Addr) (cls : Value) (d : Option Addr) : List V → Hp → VK → Prop := fun xs H Q => ∃ (c : V) (cv : Value) (D dd : Addr) (fs : List (Str × V)) (b : Bool), xs = [.ref a, c] ∧ ClsV c cv ∧ cls = .ref D ∧ ExK K D ∧ d = some dd ∧ H dd = some (.xd fs) ∧ PySem.W.kitOne K (.ref D) cv = some b ∧ Q (.bl b) H
theorem inst_of {a D dd : Addr} {oe : Obj} {pn pins : List (Addr × Obj)} {σ : L2.St} {H : Hp} {s : Shared} {fs : List (Str × V)} (I : Inv (X.suite a ((a, oe) :: pn)) pins σ H s) (hz : Zc (.ref D) (some dd) oe) (hf : ∃ vs, oe.data = .fields vs) (ed : H dd = some (.xd fs)) :
    ∃ od, PySem.W.InstAt s.heap a oe D (some od) := by
  obtain ⟨hget, _⟩ := I.pin (a, oe) (List.mem_append.mpr (.inl List.mem_cons_self))
  obtain ⟨vs, hv⟩ := hf
  obtain ⟨mA, hns, _⟩ := (show ObjOk X.prog X.w H s.heap dd (.xd fs) from I.hok dd _ ed)
  obtain ⟨od, ho, _⟩ := lookIn_ns hns
  exact ⟨od, hget, hz.1, by unfold PySem.W.notCls; rw [hv] <;> rfl, by rw [hz.2]; exact ho⟩
theorem call_isE' {a : Addr} {oe : Obj} {cls : Value} {d : Option Addr} {pn : List (Addr × Obj)} (hz : Zc cls d oe) (hf : ∃ vs, oe.data = .fields vs) (hK : X.K = K) : CallR (X.suite a ((a, oe) :: pn)) (.builtin "isinstance") (gIsE K a cls d) := by
  subst hK
  intro pins s σ H xs us Q I r h
  obtain ⟨c, cv, D, dd, fs, b, rfl, hcv, rfl, T, rfl, ed, e, q⟩ := h
  cases r with
  | cons rx rr =>
    cases rr with
    | cons rt rr =>
      cases rr
      cases rx
      have ec := hcv.eq rt
      subst ec
      obtain ⟨od, J⟩ := inst_of I hz hf ed
      exact PySem.W.kia_one (PySem.W.exkit T.ga T.gg T.ox.exC T.hd T.cl T.sp T.tk T.mo) I.kIn J e (fun z => nomatch z) fun tk => ⟨.bl b, H, I.kept (t' := tk) fun _ _ z => z, rfl, q⟩
/-- e.f -/
def tXfE (K : PySem.W.Frag) (a : Addr) (cls : Value) (d : Option Addr) (f : Str) (te : TE) : TE := fun σ H Q => te σ H fun x H1 => ∃ (D dd : Addr) (fs : List (Str × V)) (v : V), x = .ref a ∧ cls = .ref D ∧ ExK K D ∧ PySem.W.findIn K (.ref D) f = some none ∧ d = some dd ∧ H1 dd = some (.xd fs) ∧ fs.lookup f = some v ∧ Q v H1
theorem pe_xfE {a : Addr} {oe : Obj} {cls : Value} {d : Option Addr} {pn : List (Addr × Obj)} {e : Expr} {te : TE} {pos : Pos} {n : Str} (hz : Zc cls d oe) (hf : ∃ vs, oe.data = .fields vs) (hK : X.K = K) (he : PE (X.suite a ((a, oe) :: pn)) e te)
    (hb : attributeBase e n X.env (eval e X.env) = eval e X.env := by rfl) : PE (X.suite a ((a, oe) :: pn)) (.Attribute e n pos) (tXfE K a cls d n te) := by
  subst hK
  constructor
  intro pins s σ H Q I h
  apply attr_of hb
  apply thn (he.run pins s σ H _ I h)
  rintro u s1 ⟨x, H1, I1, rx, D, dd, fs, v, ex, rfl, T, hno, rfl, ed, l, q⟩
  subst ex
  obtain rfl : u = Value.ref a := rx
  obtain ⟨ha, _⟩ := I1.pin (a, oe) (List.mem_append_left _ List.mem_cons_self)
  obtain ⟨vs, hd⟩ := hf
  obtain ⟨mA, hns, hr⟩ := (show ObjOk X.prog X.w H1 s1.heap dd (.xd fs) from I1.hok dd _ ed)
  obtain ⟨od, ho, hl⟩ := lookIn_ns hns
  obtain ⟨u, hu, ru⟩ := RelO.some_of (v := v) (o := mA n) (by rw [← l]; exact hr n)
  have J : PySem.W.InstAt s1.heap a oe D (some od) := ⟨ha, hz.1, by unfold PySem.W.notCls; rw [hd] <;> rfl, by rw [hz.2]; exact ho⟩
  exact HandSPX.exc_get I1.kIn J T.ga T.gg T.ox.exC (PySem.W.findObj_own T.hd hno rfl (by rw [hl, hu])) (handed_of ru) ⟨v, H1, I1.tok _, ru, q⟩
end
end G
namespace G
open PySem PySem.Spec PyProof.Rows L2
/-! ### raise C(e) -/
/-- what C's own __init__ is to do with a new error -/
def MkIs (C : Addr) (sp : Sp) (vs : List V) (H1 : Hp) (Q : XK) : Prop := vs.length ≤ 1000 ∧ ∀ a, H1 a = none → sp (.ref a :: (vs ++ [])) (upd H1 a (exo a C none))
  (fun v H2 => v = .non ∧ ∃ (d : Addr) (fs : List (Str × V)), H2 a = some (exo a C (some d)) ∧ H2 d = some (exd d fs) ∧ H1 d = none ∧ Q (.ref C) (some d) (upd (del H2 a) d (.xd fs))) (fun _ _ _ => False)
def tRs (t : L2.St → Hp → XK → Prop) (W : WX) : TS := fun _ σ H => t σ H fun cls d H' => W cls d σ H'
theorem g_raise {X : Cx} {W : WX} {e : Expr} {t : L2.St → Hp → XK → Prop} {pos : Pos} (hc : X.calm = true) (tk : Takes X W) (he : PMk X e t) : PS X (.Raise (some e) none pos) (tRs t W) := ps_raise hc tk he
theorem r_rs {C : Addr} {sp : Sp} {ta : TA} {W : WX} {D : Ends} {σ : L2.St} {H : Hp} (h : ta σ H fun vs H1 => MkIs C sp vs H1 (fun cls d H' => W cls d σ H')) : tRs (tMkO C sp [] ta) W D σ H := h
/-- the error class under the name x, at C; its __init__ keeps sp -/
structure ExCal (P : Program) (w : World) (K : PySem.W.Frag) (mg : Str → Option Value) (base : Heap) (CX : CXT) (k : Nat) (x : Str) (C : Addr) (ps : List Str) (sp : Sp) : Prop where
  at_ : mg x = some (.ref C)
  ex : ExK K C
  ini : ∃ f fd, PySem.W.findIn K (.ref C) "__init__" = some (some (.ref f)) ∧ PySem.W.typeIn K (.ref f) = some (.type "function") ∧ Binds K fd ps [] ∧ FnOk P w K mg base CX k f fd ps sp
theorem g_mkex {X : Cx} {k : Nat} {x : Str} {C : Addr} {ps : List Str} {sp : Sp} {p pos : Pos} {e : Expr} {es : List Expr} {ta : TA} (c : ExCal X.prog X.w X.K X.mg X.base CX0 k x C ps sp) (hr : Room (k + 1) X.A) (hg : Gl X x) (ha : PA X (e :: es) ta)
    (hdb : (x == ("__debug__" : Str)) = false := by decide) (he : starEach (e :: es) X.env = (false, eval e X.env) :: starEach es X.env := by rfl) (hpl : (backTo pos (starEach es X.env)).any (·.1) = false := by rfl) :
    PMk X (.Call (.Name x p) (e :: es) [] pos) (tMkO C sp [] ta) := by
  obtain ⟨f, fd, h1, h2, hb, F⟩ := c.ini
  exact pmk_oex c.ex.ox h1 h2 F hr hb .nil pass0 hg c.at_ ha hdb he hpl
/-- an error's field may be an int or a text -/
def FmtV : V → Prop
  | .int i => i.natAbs.log2 < 1920
  | .str z => z.length ≤ 1000
  | _ => False
/-- the __init__ that calls the base's and stores its one argument -/
def spExI (C : Addr) (f : Str) : Sp := fun vs H Q _ => ∃ (a : Addr) (v : V), vs = [.ref a, v] ∧ H a = some (exo a C none) ∧ FmtV v ∧ ∀ dx H', H' a = some (exo a C (some dx)) → H' dx = some (exd dx [(f, v)]) → H dx = none → dx ≠ a → (∀ b, b ≠ a → b ≠ dx → H' b = H b) → Q .non H'
/-- an error of the class at C with the field f leaves the heap H -/
def Lets (C : Addr) (f : Str) (v : V) (H : Hp) (Q : XK) : Prop := ∀ d H', Same H H' → H d = none → H' d = some (.xd [(f, v)]) → Q (.ref C) (some d) H'
theorem mk_is {C : Addr} {f : Str} {v : V} {H : Hp} {Q : XK} (hv : FmtV v) (k : Lets C f v H Q) : MkIs C (spExI C f) [v] H Q := by
  refine ⟨by show 1 ≤ 1000; decide, fun a ha => ⟨a, v, rfl, upd_same, hv, fun dx H' h1 h2 h3 h4 h5 => ⟨rfl, dx, _, h1, h2, ?_, k dx _ (fun b o e => ?_) ?_ upd_same⟩⟩⟩
  · rw [upd_ne h4] at h3; exact h3
  · have nba : b ≠ a := ne_of_none e ha
    have nbd : b ≠ dx := fun z => by
      rw [z] at e
      rw [upd_ne h4, e] at h3
      cases h3
    rw [upd_ne nbd, del_ne nba, h5 b nba nbd, upd_ne nba]
    exact e
  · rw [upd_ne h4] at h3; exact h3
/-! f-strings -/
theorem r_fmtI {te : TE} {σ : L2.St} {H : Hp} {Q : VK} (h : te σ H fun x H1 => (∃ y : Str, x = .str y ∧ y.length ≤ sizeLine ∧ Q (.str y) H1) ∨ ∃ i : Int, x = .int i ∧ i.natAbs.log2 < 1920 ∧ Q (.str (toString i)) H1) : tFmt te σ H Q := h
/-- the field's store in such an __init__, and the base's __init__: their readings -/
theorem r_vei {K : PySem.W.Frag} {ta : TA} {σ : L2.St} {H : Hp} {Q : VK} (h : ta σ H fun vs H1 => ∃ (a C : Addr) (ws : List V), vs = .ref a :: ws ∧ ws.length ≤ 1000 ∧ OexC K C ∧ H1 a = some (exo a C none) ∧ Q .non H1) : tVeI K ta σ H Q := h
theorem ost_K {X : Cx} {K : PySem.W.Frag} {st : Stmt} {to te : TE} {f : Str} (h : PS X st (tOst X.K f to te)) (hK : X.K = K := by rfl) : PS X st (tOst K f to te) := by subst hK; exact h
/-- the two statements of such an __init__ -/
theorem exinit_reads {K : PySem.W.Frag} {C : Addr} {f : Str} {tj : TE} {vs : List V} {H : Hp} {Q : VK} {E : XK} (hx : ExK K C) (hno : PySem.W.findIn K (.ref C) f = some none) (h : spExI C f vs H Q E)
    (hj : ∀ (a : Addr) (v : V) (H : Hp) (R : VK), FmtV v → (∀ z : Str, R (.str z) H) → tj [some (.ref a), some v] H R) :
    tSeq (tDrop (tVeI K (tCons (tVar 0) (tCons tj tNil)))) (tOst K f (tVar 0) (tVar 1)) { nx := fun _ H' => Q .non H', rt := Q } (L2.start ["self", "at"] vs) H := by
  obtain ⟨a, v, rfl, ha, hv, k⟩ := h
  refine ⟨.ref a, rfl, hj a v H _ hv fun z => ⟨a, C, [.str z], rfl, (by show 1 ≤ 1000; decide), hx.ox, ha, ?_⟩⟩
  refine ⟨v, rfl, .ref a, rfl, a, C, rfl, hx.ox, hno, .inl ⟨ha, fun dx hdx hne => k dx _ upd_same ?_ hdx hne fun b n1 n2 => ?_⟩⟩
  · rw [upd_ne hne, upd_same]
  · rw [upd_ne n1, upd_ne n2]
end G

set_option Elab.async false
set_option linter.all false
set_option maxRecDepth 100000
set_option maxHeartbeats 4000000
/-! Es: sets of tuples made of a tuple, their size; own ==; new objects whose __init__ may raise (own work). -/
namespace G
open PySem PySem.Spec PyProof.Rows L2 TS
section
variable {P : Program} {w : World} {A : Around} {E : Value → Shared → Prop} {s : Shared}
/-- the new set -/
abbrev ns0 (w : World) : Obj := { cls := .type "set", dict := none, data := .set #[] 0 (.fresh 0 0 (!w.params.followText "set-order")) }
set_option maxHeartbeats 6400000 in
/-- set(t), t a tuple of tuples of ints -/
theorem set_tup {l : Addr} {items : Array Value} (ks : List (Addr × List Int)) {Q : Value → Shared → Prop} (hh : A.handled = none) (hl : s.heap.IsTuple l items) (hit : items.toList = ks.map fun p => Value.ref p.1)
    (hk : ∀ p ∈ ks, IsT P w s.heap p.2 p.1) (hfew : ks.length < 64) (hu : A.units + 3 < cLine)
    (h : ∀ (h' : Heap) (tk : Nat) L es ep t, SetTR P w h' s.heap.objs.size L es ep t → Got ks ks.length L → (∀ b o, s.heap.get? b = some o → h'.get? b = some o) → Q (.ref s.heap.objs.size) { s with heap := h', toks := tk }) :
    wpAny (model P w) A (call (.type "set") [.ref l]) Q E s := by
  have n1 : items.size = ks.length := by
    have q := congrArg List.length hit
    rwa [Array.length_toList, List.length_map] at q
  obtain ⟨cc, tl, hmro⟩ := F.called_set.mro
  have m1 := F.called_set.made
  have m2 := F.called_set.sub
  apply wpAny_call
  apply codeAny_of_tree
  show wpAny (model P w) _ (callAny (.type "set") _) _ _ _
  apply wpAny_pure
  refine ⟨Code.quiet_builtin _ (by decide +kernel), ?_⟩
  apply codeAny_builtin F.entry_type_call
  rw [Around.under_plain
    (weight_type_call_type "set" [.ref l] []) rfl]
  have m3 := F.called_set.notType
  have m4 := F.called_set.canCreate
  have m5 := F.typeCall_set_1 (.ref l)
  repeat (any_goals (first | assumption | wp_step))
  refine codeAny_mono (code_set_led1 (.ref l) (E := E)
    (Q₁ := fun ob s1 => ob = .ref s.heap.objs.size ∧ s1 = { s with heap := s.heap.push (ns0 w) }) ⟨rfl, rfl⟩) ?_
  intro r s1 hr
  cases r with
  | error e => exact hr
  | ok fl =>
    cases fl with
    | next => exact hr.elim
    | brk => exact hr.elim
    | cont => exact hr.elim
    | ret ob =>
      obtain ⟨rfl, rfl⟩ := hr
      have z0 : (s.heap.push (ns0 w)).get? s.heap.objs.size = some (ns0 w) := Heap.get?_push_size _ rfl
      have zT : Shared.TypeIs { s with heap := s.heap.push (ns0 w) } (.ref s.heap.objs.size) "set" := ⟨_, z0, rfl⟩
      have m6 := F.called_set.init.lookup
      have m7 := F.called_set.init.bind (.ref s.heap.objs.size)
      repeat (any_goals (first | assumption | wp_step))
      refine codeAny_mono (codeAny_call_builtin
        (R := wants (fun r s2 => r = .none ∧ ∃ h' tk L es ep t, s2 = { s with heap := h', toks := tk } ∧ SetTR P w h' s.heap.objs.size L es ep t ∧ Got ks ks.length L ∧ (∀ b o, s.heap.get? b = some o → h'.get? b = some o)) E)
        F.called_set.init.plain F.entry_set_init (check_set_init_1 zT ?_)) ?_
      · obtain ⟨⟨k1, k2, k3, k4⟩, hol, hcl, nl, hdl⟩ := hl
        simp only at hcl hdl
        subst hcl
        subst hdl
        have y1 : (s.heap.push (ns0 w)).get? l = some { cls := .type "tuple", dict := k2, data := .seq items nl, slots := k4 } := Heap.get?_push_of_some _ hol
        have m8 := F.sub_tuple_set
        have m9 := F.sub_tuple_frozenset
        have ne1 : (Value.type "tuple" == Value.type "dict") = false := by decide
        have y2 : (s.heap.push (ns0 w)).IsTuple l items := ⟨_, y1, rfl, nl, rfl⟩
        unfold Builtin.«set.__init__» noKeywords Builtin.Frozenset.updateFrom
        generalize gP : pyIter = PI
        wp_walk
        subst gP
        apply wpAny_pyIter_tuple y2
        apply wpAny_bind
        apply wpAny_runValue
        have l1 : l < s.heap.objs.size := Heap.lt_size hol
        have l2 : A.in1.in1.in1.handled = none := by simp [hh]
        have l3 : (s.heap.push (ns0 w)).objs.size = s.heap.objs.size + 1 := Heap.size_push ..
        have l4 : l ≠ (s.heap.push (ns0 w)).objs.size := by rw [l3]; exact Nat.ne_of_lt (Nat.lt_succ_of_lt l1)
        have l5 : s.heap.objs.size ∉ [(s.heap.push (ns0 w)).objs.size, l] := by
          rw [l3]
          simp only [List.mem_cons, List.not_mem_nil, or_false, not_or]
          exact ⟨Nat.ne_of_lt (Nat.lt_succ_self _), fun z => absurd l1 (by rw [z]; exact Nat.lt_irrefl _)⟩
        have v1 : ∀ (i : Nat) (v : Value), items[i]? = some v → ∃ p, ks[i]? = some p ∧ v = .ref p.1 := by
          intro i v hv
          have q : items.toList[i]? = some v := by rwa [Array.getElem?_toList]
          rw [hit, List.getElem?_map] at q
          cases z : ks[i]? with
          | none => rw [z] at q; cases q
          | some p => rw [z] at q; exact ⟨p, rfl, (Option.some.inj q).symm⟩
        have v2 : ∀ b, s.heap.objs.size ≤ b → s.heap.get? b = none := by
          intro b hb
          cases q : s.heap.get? b with
          | none => rfl
          | some o => exact absurd (Nat.lt_of_lt_of_le (Heap.lt_size q) hb) (Nat.lt_irrefl _)
        refine set_update_tups ((Walks.tuple l2 _ l l4 items).toS) s.heap.objs.size l5 ks n1 hfew v1 s.heap hk (v2 _ (Nat.le_refl _))
          (fun b hb => v2 b (by rw [List.mem_singleton.mp hb, l3]; exact Nat.le_succ _)) hu
          (items.size - 0) 0 _ (by omega) (Nat.zero_le _) ⟨⟨_, Heap.get?_push_size _ rfl, rfl, rfl⟩, (y2.push _)⟩
          (fun b o e => Heap.get?_push_of_some _ (Heap.get?_push_of_some _ e)) ?_ ?_
        · exact ⟨[], #[], 0, _, setTR_fresh (Heap.get?_push_of_some _ z0), Got.zero ks⟩
        · intro s' L es ep t hm q1 q2 q3
          obtain ⟨h', g2, d', tk', os'⟩ := s'
          obtain rfl : g2 = s.gens := hm.gens
          obtain rfl : d' = s.drawn := hm.drawn
          obtain rfl : os' = s.os := hm.os
          show wpAny (model P w) _ _ _ _ _
          apply wpAny_pure
          show wpAny (model P w) _ (ret Value.none) _ _ _
          rw [n1] at q2
          exact wpAny_pure ⟨rfl, h', tk', L, es, ep, t, rfl, q1, q2, q3⟩
      · intro r2 s2 hr2
        cases r2 with
        | error e => exact hr2
        | ok f2 =>
          cases f2 with
          | next => exact hr2.elim
          | brk => exact hr2.elim
          | cont => exact hr2.elim
          | ret r =>
            obtain ⟨rfl, h', tk, L, es, ep, t, rfl, q1, q2, q3⟩ := hr2
            repeat (any_goals (first | assumption | wp_step))
            exact h _ _ _ _ _ _ q1 q2 q3
/-- len(set(t)) -/
theorem len_set {L : List (Addr × List Int)} {a : Addr} {es : Array (Int × Value)} {ep : Nat} {t : SetTable} {Q : Value → Shared → Prop} (R : SetTR P w s.heap a L es ep t) (h : Q (.int (L.length : Nat) (s.toks + 1)) { s with toks := s.toks + 1 + 1 }) :
    wpAny (model P w) A (call (.builtin "len") [.ref a]) Q E s := by
  obtain ⟨o, ho, hex, hd⟩ := R.ob
  have e : es.size = L.length := by
    have z := congrArg List.length R.rows
    unfold rowsOf at z
    rwa [Array.length_toList, List.length_map] at z
  rw [← e] at h
  exact call_len_set ho hex hd R.fits (by rw [e]; have := R.few; omega) h
end
section
variable {X : Cx} {K : PySem.W.Frag}
/-- the expression len(set(t)), t a tuple of tuples of ints: the number of distinct ones -/
def tLenSetT (K : PySem.W.Frag) (ta : TE) : TE := fun σ H Q => ta σ H fun x H1 => ∃ (l : Addr) (ks : List (Addr × List Int)), x = V.ref l ∧ SqT K H1 l (ks.map fun p => V.ref p.1) ∧ (∀ p ∈ ks, SqT K H1 p.1 (p.2.map V.int)) ∧ ks.length < 64 ∧
  ∀ n : Nat, (∃ L : List (List Int), L.Nodup ∧ L.length = n ∧ (∀ k, k ∈ L ↔ k ∈ ks.map (·.2))) → Q (.int n) H1
theorem pe_lenSetT {a : Expr} {ta : TE} {p p2 q pos : Pos} (hc : X.calm = true) (hg : Gl X "len") (hm : X.mg "len" = none) (hg2 : Gl X "set") (hm2 : X.mg "set" = none) (hu : X.A.units + 64 < cLine) (ha : PE X a ta)
    (na : starEach [a] X.env = (false, eval a X.env) :: starEach [] X.env := by rfl) (hK : X.K = K := by rfl) : PE X (.Call (.Name "len" p) [.Call (.Name "set" p2) [a] [] q] [] pos) (tLenSetT K ta) := by
  subst hK
  constructor
  intro pins s σ H Q I h
  refine Call_ (ld_blt I hg hm PySem.boot_len ?_)
  refine PyProof.Rows.callWith_builtin1 (PyProof.Rows.args_cons ?_ rfl) rfl rfl
  refine Call_ (ld_blt I hg2 hm2 PyProof.Rows.boot_set ?_)
  refine PyProof.Rows.callWith_type1 (PyProof.Rows.args_cons (thn (ha.run pins s σ H _ I h) ?_) na) na rfl
  rintro v s1 ⟨x, H1, I1, r1, l, ks, rfl, hq, hk, hf, q1⟩
  apply PyProof.Rows.args_nil
  cases r1
  obtain ⟨its, r, ⟨o, ho, hcl, n, hd⟩, hz⟩ := I1.tuple hq
  refine set_tup (P := X.prog) (w := X.w) ks (I1.ok.hd hc) ⟨o, ho, hcl, n, hd⟩ (by simpa using refs_of_vals r) (fun p hp => I1.isT (hk p hp)) hf (by omega) ?_
  intro h' tk L es ep t R g k
  apply PyProof.Rows.args_nil
  refine len_set R ⟨.int (L.length : Nat), H1, ?_, ⟨_, rfl⟩, q1 _ ⟨L.map (·.2), R.nd, by rw [List.length_map], fun k => ⟨fun hm => ?_, fun hm => ?_⟩⟩⟩
  · exact (I1.kept (t' := tk) k).tok _
  · obtain ⟨p, hp, rfl⟩ := List.mem_map.mp hm
    exact List.mem_map_of_mem (List.mem_of_mem_take (g.sub p hp))
  · obtain ⟨p, hp, rfl⟩ := List.mem_map.mp hm
    exact g.all p (by rw [List.take_length]; exact hp)
end
end G

set_option Elab.async false
set_option linter.all false
set_option maxRecDepth 100000
set_option maxHeartbeats 4000000
/-! Rs: defs that raise (errors without context), try, except suites, methods, own ==, data of any depth (own work). -/
namespace G
open PySem PySem.Spec PyProof.Rows L2
abbrev HX (P : Program) (w : World) : CXT := L2N.CX P w
/-- the def st is the method m of the class at C -/
def MetAt (K : PySem.W.Frag) (C : Addr) (m qual : Str) (st : Stmt) : Prop := ∃ f fd, PySem.W.findIn K (.ref C) m = some (some (.ref f)) ∧ PySem.W.isFn K (.ref f) = true ∧ Fun K m qual st f fd
/-- the method m of the class at C keeps the promise sp -/
structure MCal (P : Program) (w : World) (K : PySem.W.Frag) (mg : Str → Option Value) (base : Heap) (CX : CXT) (k : Nat) (C : Addr) (m : Str) (ps : List Str) (sp : Sp) : Prop where
  ex : ∃ f fd, Meth K C m f ∧ Binds K fd ps [] ∧ FnOk P w K mg base CX k f fd ps sp
section
variable {P : Program} {w : World} {K : PySem.W.Frag} {mg : Str → Option Value} {base : Heap} {CX : CXT} {j k : Nat} {x qual m : Str} {ps N : List Str} {sp sp' : Sp} {st : Stmt} {C : Addr}
theorem MCal.mono (c : MCal P w K mg base CX j C m ps sp) (h : j ≤ k) : MCal P w K mg base CX k C m ps sp := by
  obtain ⟨f, fd, a, b, F⟩ := c.ex
  exact ⟨f, fd, a, b, F.mono h⟩
theorem MCal.imp (c : MCal P w K mg base CX k C m ps sp) (h : ∀ vs H Q E, sp' vs H Q E → sp vs H Q E) : MCal P w K mg base CX k C m ps sp' := by
  obtain ⟨f, fd, a, b, F⟩ := c.ex
  exact ⟨f, fd, a, b, F.imp h⟩
/-- a method that lets no exception out -/
theorem met_ok (F : MetAt K C m qual st) (S : FnScope N ps (defScope st))
    (hb : ∀ (kV doc pm : Value) (an : Option Addr) (cdv ct : Value) (us : List Value), us.length = ps.length → bindArgs (PySem.W.fnOf m qual (defArgs st) (defBody st) (defScope st) .none kV doc pm an cdv ct) ⟨us, []⟩ = pure (ps.zip us))
    (len : ∀ vs H Q E, sp vs H Q E → vs.length = ps.length)
    (body : ∀ (f : Addr) (cdv : Value) (A : Around) (outer : List Env) (s : Shared) (H : Hp) (vs : List V) (Q : VK) (E : XK), Room k (A.deeper (envOfC qual (defScope st) s.heap.objs.size f cdv)) → sp vs H Q E →
      ∃ t, PSs (cxOf CX0 P w K mg base N qual (defScope st) f cdv A outer s H E).nox (defBody st) t ∧ t { nx := fun _ H' => Q .non H', rt := Q } (start N vs) H) : MCal P w K mg base CX0 (k + 1) C m ps sp := by
  obtain ⟨f, fd, a, i, G⟩ := F
  exact ⟨f, fd, ⟨a, i, G.kp⟩, G.binds hb, G.ok S len fun cdv A outer s H vs Q E hr h => body f cdv A outer s H vs Q E hr h⟩
/-- a def that may raise -/
theorem fn_okX {f : Addr} {fd : FuncData} (F : Fun K x qual st f fd) (S : FnScope N ps (defScope st)) (len : ∀ vs H Q E, sp vs H Q E → vs.length = ps.length)
    (hbody : ∀ (cdv : Value) (A : Around) (outer : List Env) (s : Shared) (H : Hp) (vs : List V) (Q : VK) (E : XK), Room k (A.deeper (envOfC qual (defScope st) s.heap.objs.size f cdv)) → sp vs H Q E →
      ∃ t, PSs (cxOf (HX P w) P w K mg base N qual (defScope st) f cdv A outer s H E) (defBody st) t ∧ t { nx := fun _ H' => Q .non H', rt := Q } (start N vs) H) : FnOk P w K mg base (HX P w) (k + 1) f fd ps sp := by
  obtain ⟨oc, od, kV, doc, pm, an, cdv, ct, osl, rfl, lk, hcd⟩ := F.ex
  exact fn_of lk hcd S len fun A outer s H vs Q E hr hsp => hbody cdv A outer s H vs Q E hr hsp
theorem def_okX (F : FunAt K mg x qual st) (S : FnScope N ps (defScope st))
    (hb : ∀ (kV doc pm : Value) (an : Option Addr) (cdv ct : Value) (us : List Value), us.length = ps.length → bindArgs (PySem.W.fnOf x qual (defArgs st) (defBody st) (defScope st) .none kV doc pm an cdv ct) ⟨us, []⟩ = pure (ps.zip us))
    (len : ∀ vs H Q E, sp vs H Q E → vs.length = ps.length)
    (body : ∀ (f : Addr) (cdv : Value) (A : Around) (outer : List Env) (s : Shared) (H : Hp) (vs : List V) (Q : VK) (E : XK), Room k (A.deeper (envOfC qual (defScope st) s.heap.objs.size f cdv)) → sp vs H Q E →
      ∃ t, PSs (cxOf (HX P w) P w K mg base N qual (defScope st) f cdv A outer s H E) (defBody st) t ∧ t { nx := fun _ H' => Q .non H', rt := Q } (start N vs) H) : Cal P w K mg base (HX P w) (k + 1) x ps sp := by
  obtain ⟨f, fd, m, G⟩ := F
  have lk : ∃ oc od sl, K.lookup f = some ⟨oc, od, .func fd, sl⟩ := by
    obtain ⟨oc, od, _, _, _, _, _, _, sl, _, lk, _⟩ := G.ex
    exact ⟨oc, od, sl, lk⟩
  exact ⟨f, fd, m, G.kp, lk, G.binds hb, fn_okX G S len fun cdv A outer s H vs Q E hr h => body f cdv A outer s H vs Q E hr h⟩
theorem met_okX (F : MetAt K C m qual st) (S : FnScope N ps (defScope st))
    (hb : ∀ (kV doc pm : Value) (an : Option Addr) (cdv ct : Value) (us : List Value), us.length = ps.length → bindArgs (PySem.W.fnOf m qual (defArgs st) (defBody st) (defScope st) .none kV doc pm an cdv ct) ⟨us, []⟩ = pure (ps.zip us))
    (len : ∀ vs H Q E, sp vs H Q E → vs.length = ps.length)
    (body : ∀ (f : Addr) (cdv : Value) (A : Around) (outer : List Env) (s : Shared) (H : Hp) (vs : List V) (Q : VK) (E : XK), Room k (A.deeper (envOfC qual (defScope st) s.heap.objs.size f cdv)) → sp vs H Q E →
      ∃ t, PSs (cxOf (HX P w) P w K mg base N qual (defScope st) f cdv A outer s H E) (defBody st) t ∧ t { nx := fun _ H' => Q .non H', rt := Q } (start N vs) H) : MCal P w K mg base (HX P w) (k + 1) C m ps sp := by
  obtain ⟨f, fd, a, i, G⟩ := F
  exact ⟨f, fd, ⟨a, i, G.kp⟩, G.binds hb, fn_okX G S len fun cdv A outer s H vs Q E hr h => body f cdv A outer s H vs Q E hr h⟩
end
section
variable {X : Cx} {CX : CXT} {k : Nat} {C : Addr} {x m : Str} {ps : List Str} {sp : Sp} {W : WX} {p pos apos : Pos} {e o : Expr} {es : List Expr} {t : TA} {to : TE} {pl : Sem Bool}
theorem takesE (hs : X.stack = X.env :: X.outer) (hf : X.env.frame = some X.env.locals) (hex : X.ex = []) {E : XK} {E₁ : Value → Shared → Prop}
    (hx : X.xe = fun e s' => wpAny (model X.prog X.w) X.A (leaving X.env e) (fun _ s'' => L2N.CX X.prog X.w X.outer X.H_0 X.s_0 E e s'') E₁ s') : L2N.Takes X (fun cls d _ H => E cls d H) := L2N.takes_of hs hf hex hx
theorem takesN {X : Cx} : L2N.Takes X (fun _ _ _ _ => False) := fun _ _ x => by
  obtain ⟨_, _, _, _, _, _, _, _, _, _, _, _, _, _, _, _, z⟩ := x
  exact z.elim
/-- a call of a def that may raise -/
theorem g_callX (c : Cal X.prog X.w X.K X.mg X.base (HX X.prog X.w) k x ps sp) (hr : Room k X.A) (hg : Gl X x) (tk : L2N.Takes X W) (ha : PA X (e :: es) t) (hdb : (x == ("__debug__" : Str)) = false := by decide)
    (he : starEach (e :: es) X.env = (false, eval e X.env) :: starEach es X.env := by rfl) (hpl : (backTo pos (starEach es X.env)).any (·.1) = false := by rfl) : PE X (.Call (.Name x p) (e :: es) [] pos) (tCallS sp (WE W) t) := by
  obtain ⟨f, fd, m, kp, lk, b, F⟩ := c.ex
  exact pe_callS F hr hg m kp b (fun σ => L2N.passAt tk σ) ha hdb he hpl
theorem r_callX {σ : L2.St} {H : Hp} {Q : VK} (h : t σ H fun vs H1 => sp vs H1 Q (fun cls d H' => W cls d σ H')) : tCallS sp (WE W) t σ H Q := h
/-- o.m(..), o.m() of an own class, nothing let out -/
theorem g_meth (c : MCal X.prog X.w X.K X.mg X.base CX k C m ps sp) (cl : Cls X.K C) (hr : Room k X.A) {E : XK} (hx : Passes CX X E) (he : PE X o to) (ha : PA X (e :: es) t)
    (hst : starEach (e :: es) X.env = (false, eval e X.env) :: starEach es X.env := by rfl) (hpl : (backTo pos (starEach es X.env)).any (·.1) = false := by rfl)
    (ht : eval (.Call (.Attribute o m apos) (e :: es) [] pos) X.env = (do
      let ov ← eval o X.env
      standAt apos.atName
      let (f, first) ← holding [ov] (getMethod ov m pl)
      callWith pos f first (backTo pos (starEach (e :: es) X.env)) (backToKw pos (keywordEach [] X.env))) := by rfl) : PE X (.Call (.Attribute o m apos) (e :: es) [] pos) (tMeth C m sp [] E to t) := by
  obtain ⟨f, fd, hm, b, F⟩ := c.ex
  exact pe_meth he cl hm F hr b .nil hx ha hst hpl ht
theorem g_meth0 (c : MCal X.prog X.w X.K X.mg X.base CX k C m ps sp) (cl : Cls X.K C) (hr : Room k X.A) {E : XK} (hx : Passes CX X E) (he : PE X o to)
    (ht : eval (.Call (.Attribute o m apos) [] [] pos) X.env = (do
      let ov ← eval o X.env
      standAt apos.atName
      let (f, first) ← holding [ov] (getMethod ov m pl)
      callWith pos f first (backTo pos (starEach [] X.env)) (backToKw pos (keywordEach [] X.env))) := by rfl) : PE X (.Call (.Attribute o m apos) [] [] pos) (tMeth C m sp [] E to tNil) := by
  obtain ⟨f, fd, hm, b, F⟩ := c.ex
  exact pe_meth0 he cl hm F hr b .nil hx ht
theorem r_meth {σ : L2.St} {H : Hp} {Q : VK} {E : XK} (h : to σ H fun x H1 => ∃ a dx fs, x = .ref a ∧ H1 a = some (.ins C dx fs) ∧ fs.lookup m = none ∧ t σ H1 fun vs H2 => sp (x :: (vs ++ [])) H2 Q E) : tMeth C m sp [] E to t σ H Q := h
/-! ### C(..) whose __init__ may raise -/
/-- what the text says of a class of plain instances -/
structure ClK (K : PySem.W.Frag) (C : Addr) : Prop where
  cl : Cls K C
  mks : PySem.W.makesIn K C = true
  kp : PySem.W.keepIn K (.ref C) = true
  cc : PySem.W.findIn K (.ref C) "__class__" = some (some (.builtin "object.__class__"))
  sp : PySem.W.specialIn K (.builtin "object.__class__") "__get__" = some (some (.builtin "getset_descriptor.__get__"))
  tk : PySem.W.takesIn K (.builtin "object.__class__") = some true
  mo : PySem.W.mroIn K C (.type "object") = some true
/-- what __init__ is to do with a new instance -/
def MkI (C : Addr) (sp : Sp) (vs : List V) (H1 : Hp) (Q : VK) (E : XK) : Prop := ∀ x dx, H1 x = none → H1 dx = none → dx ≠ x → sp (.ref x :: vs) (upd (upd H1 dx (.own x)) x (.ins C dx [])) (fun v H2 => v = .non ∧ Q (.ref x) H2) E
def tMkX (C : Addr) (sp : Sp) (E : L2.St → XK) (t : TA) : TE := fun σ H Q => t σ H fun vs H1 => MkI C sp vs H1 Q (E σ)
theorem g_makeX (cl : ClK X.K C) (c : MCal X.prog X.w X.K X.mg X.base (HX X.prog X.w) k C "__init__" ps sp) (hr : Room (k + 1) X.A) (hg : Gl X x) (hm : X.mg x = some (.ref C)) (tk : L2N.Takes X W) (ha : PA X (e :: es) t)
    (hdb : (x == ("__debug__" : Str)) = false := by decide) (he : starEach (e :: es) X.env = (false, eval e X.env) :: starEach es X.env := by rfl) (hpl : (backTo pos (starEach es X.env)).any (·.1) = false := by rfl) :
    PE X (.Call (.Name x p) (e :: es) [] pos) (tMkX C sp (WE W) t) := by
  obtain ⟨f, fd, M, hb, F⟩ := c.ex
  constructor
  intro pins s0 σ H0 Q I0 h0
  refine wpAny_Call_Name_kw (ld_glob I0 hg hm ?_ hdb)
  refine PySem.W.callWith_K (h₀ := X.base) I0.ok.mod.kin cl.kp (thn (ha.run pos pins s0 σ H0 _ I0 h0) fun us s ⟨vs, H, I, r, h⟩ => ⟨I.kIn, ?_⟩) he hpl
  show wpAny _ _ (call (.ref C) us) _ _ _
  have hq := h (s.heap.objs.size + 1) s.heap.objs.size (I.hok.fresh (Nat.le_succ _)) (I.hok.fresh (Nat.le_refl _)) (Nat.ne_of_lt (Nat.lt_succ_self _))
  have I2 := Inv.made (C := C) I
  have r2 : Vals (V.ref (s.heap.objs.size + 1) :: vs) (Value.ref (s.heap.objs.size + 1) :: us) := .cons rfl r
  have hl : (Value.ref (s.heap.objs.size + 1) :: us ++ []).length = ps.length := by
    have e := r2.length
    rw [F.len _ _ _ _ hq] at e
    rw [List.append_nil]
    exact e.symm
  have b2 := hb _ (Value.ref (s.heap.objs.size + 1) :: us) I2.kIn hl
  rw [List.append_nil] at b2
  refine wpAny_call (make_map (f := f) I.kIn cl.mks M.at_ (beq_iff_eq.mp M.fn) (codeAny_mono (F.run _ X.stack _ _ ⟨Value.ref (s.heap.objs.size + 1) :: us, []⟩ (Value.ref (s.heap.objs.size + 1) :: us) _ _ (WE W σ) (hr.make C us [])
    (I2.env0.make C us []) b2 r2 hq) fun r s' hq' => ?_))
  cases r with
  | error e => exact L2N.passAt tk σ pins _ _ e s' I2 hq'
  | ok fl =>
    cases fl with
    | ret u =>
      obtain ⟨v, H', I3, rv, ev, q3⟩ := I2.after hq'
      subst ev
      exact ⟨rv, ⟨V.ref (s.heap.objs.size + 1), H', I3, rfl, q3⟩⟩
    | next => exact False.elim hq'
    | brk => exact False.elim hq'
    | cont => exact False.elim hq'
theorem r_mkX {σ : L2.St} {H : Hp} {Q : VK} (h : t σ H fun vs H1 => MkI C sp vs H1 Q (fun cls d H' => W cls d σ H')) : tMkX C sp (WE W) t σ H Q := h
/-! ### raise C(e), of an own error class -/
theorem g_mkexN {ta : TA} (hm : X.mg x = some (.ref C)) (cx : ExK X.K C) (c : MCal X.prog X.w X.K X.mg X.base CX0 k C "__init__" ps sp) (hr : Room (k + 1) X.A) (hg : Gl X x) (ha : PA X (e :: es) ta)
    (hdb : (x == ("__debug__" : Str)) = false := by decide) (he : starEach (e :: es) X.env = (false, eval e X.env) :: starEach es X.env := by rfl) (hpl : (backTo pos (starEach es X.env)).any (·.1) = false := by rfl) :
    L2N.PMk X (.Call (.Name x p) (e :: es) [] pos) (tMkO C sp [] ta) := by
  obtain ⟨fI, fd, M, hb, F1⟩ := c.ex
  have T := cx.ox
  have iC := M.at_
  have tI := beq_iff_eq.mp M.fn
  intro pins s σ H Q I h
  obtain ⟨nm, q, N, bs, bm, sn, sub, ab, col, dd, k0, k1, k2, k3, k5, hC, hbm⟩ := T.cls
  refine wpAny_Call_Name_kw (ld_glob I hg hm ?_ hdb)
  refine PySem.W.callWith_K (h₀ := X.base) I.ok.mod.kin T.kC (thn (ha.run pos pins s σ H _ I h) fun us s1 ⟨vs, H1, I1, r1, hz, q1⟩ => ⟨I1.kIn, ?_⟩) he hpl
  show wpAny _ _ (call (.ref C) us) _ _ _
  obtain ⟨hp, g, dr, tk, os⟩ := s1
  have hsz : hp.objs.size ≤ hp.objs.size + 1 := Nat.le_succ _
  have hn : H1 (hp.objs.size + 1) = none := I1.hok.fresh hsz
  have hq := q1 (hp.objs.size + 1) hn
  have kk : ∀ b o, hp.get? b = some o → ((hp.push (PySem.W.kdv_tup us)).push (PySem.HandSPX.excO C hp.objs.size)).get? b = some o := fun b o e => Heap.get?_push_of_some _ (Heap.get?_push_of_some _ e)
  have hget : ((hp.push (PySem.W.kdv_tup us)).push (PySem.HandSPX.excO C hp.objs.size)).get? (hp.objs.size + 1) = some (PySem.HandSPX.excO C hp.objs.size) := by heap_get
  have I2 : Inv X pins σ (upd H1 (hp.objs.size + 1) (exo (hp.objs.size + 1) C none)) ⟨(hp.push (PySem.W.kdv_tup us)).push (PySem.HandSPX.excO C hp.objs.size), g, dr, tk, os⟩ :=
    I1.laid (t' := tk) (a := hp.objs.size + 1) (o := exo (hp.objs.size + 1) C none) (h' := (hp.push (PySem.W.kdv_tup us)).push (PySem.HandSPX.excO C hp.objs.size)) kk hsz (exo_ok hget)
  have r2 : Vals (V.ref (hp.objs.size + 1) :: (vs ++ [])) (Value.ref (hp.objs.size + 1) :: (us ++ [])) := .cons rfl (r1.append .nil)
  have hl : (Value.ref (hp.objs.size + 1) :: us ++ []).length = ps.length := by
    have e := r2.length
    rw [F1.len _ _ _ _ hq] at e
    exact e.symm
  have b2 : BindsTo ⟨(hp.push (PySem.W.kdv_tup us)).push (PySem.HandSPX.excO C hp.objs.size), g, dr, tk, os⟩ fd ⟨Value.ref (hp.objs.size + 1) :: us, []⟩ (ps.zip (Value.ref (hp.objs.size + 1) :: (us ++ []))) := hb _ (Value.ref (hp.objs.size + 1) :: us) I2.kIn hl
  have hus : us.length ≤ sizeLine := by
    rw [← Paired.length r1, sizeLine_eq]
    omega
  refine wpAny_call (PySem.HandSPX.call_own F.excBase_ValueError (fun Y => PySem.HandSPX.refsVE_contains Y bm hbm) (I1.kIn _ _ hC) (PySem.W.looks_findIn I1.kIn iC) (fun self => PySem.W.bind_fn I1.kIn self tI) hus
    (codeAny_mono (F1.run _ X.stack _ _ ⟨Value.ref (hp.objs.size + 1) :: us, []⟩ (Value.ref (hp.objs.size + 1) :: (us ++ [])) _ _ (fun _ _ _ => False) (hr.make C us []) (I2.env0.make C us []) b2 r2 hq) fun r s' hq' => ?_))
  cases r with
  | error er => exact (show False from hq').elim
  | ok fl =>
    cases fl with
    | ret u =>
      obtain ⟨v, H2, os2, bare2, un2, hok2, rv, ev, d, fs, ea, ed, hd1, q2⟩ := hq'
      subst ev
      obtain ⟨h2, g2, d2, t2, os'⟩ := s'
      obtain ⟨t0, G, J, kG, ge, hoe, na⟩ := mk_end0 (d2 := d2) (t2 := t2) I1 hsz kk un2 hok2 os2 bare2 ea ed hd1
      refine ⟨rv, ⟨hp.objs.size + 1, _, _, ⟨G, g2, d2, t2, os'⟩, _, .ref C, some d, rfl, J, kG, ge, hoe, ⟨rfl, rfl, fun vs hv => ?_⟩, rfl, rfl, na, rfl, bare2, raises_own T.exC T.tyC, q2⟩⟩
      cases hv
      rfl
    | next => exact False.elim hq'
    | brk => exact False.elim hq'
    | cont => exact False.elim hq'
theorem g_raiseN {t : L2.St → Hp → XK → Prop} (hc : X.calm = true) (tk : L2N.Takes X W) (he : L2N.PMk X e t) : PS X (.Raise (some e) none pos) (tRs t W) := L2N.ps_raise hc tk he
end
/-! ### try: .. except x as n: .. -/
def tTry (K : PySem.W.Frag) (c : Value) (i : Nat) (tb : WX → TS) (ts : Addr → Value → Option Addr → TS) (Wout : WX) : TS := fun D σ H => tb (wAs K c i ts Wout D) D σ H
theorem g_try {X : Cx} {K : PySem.W.Frag} {x n : Str} {c : Value} {i : Nat} {body suite : List Stmt} {b₀ : Stmt} {np pos pos' : Pos} {tb : WX → TS} {ts : Addr → Value → Option Addr → TS} {Wout : WX} (hs : X.stack = X.env :: X.outer) (hf : X.env.frame = some X.env.locals) (hN : X.N.Nodup) (hi : X.N[i]? = some n) (hln : X.env.kindOf n = some .local) (hc : Names X x c) (tk : L2N.Takes X Wout)
    (hb : ∀ (W : WX) (pn : List (Addr × Obj)) (xe : Value → Shared → Prop), L2N.Takes (X.tr pn xe) W → PassesOwn (model X.prog X.w) X.A X.env xe → PSs (X.tr pn xe) body (tb W))
    (hsu : ∀ (a : Addr) (oe : Obj) (cls : Value) (d : Option Addr) (pn : List (Addr × Obj)), L2N.Zn cls d oe → (∃ vs, oe.data = .fields vs) → PSs (X.suite a ((a, oe) :: pn)) (b₀ :: suite) (ts a cls d)) (hK : X.K = K := by rfl) :
    PS X (.Try body [.ExceptHandler (some (.Name x np)) (some n) (b₀ :: suite) pos'] [] [] pos) (tTry K c i tb ts Wout) := by
  subst hK
  exact L2N.ps_try_as hs hf hN hi hln hc tk hb hsu
theorem r_try {K : PySem.W.Frag} {c : Value} {i : Nat} {tb : WX → TS} {ts : Addr → Value → Option Addr → TS} {Wout : WX} {D : Ends} {σ : L2.St} {H : Hp} (h : tb (wAs K c i ts Wout D) D σ H) : tTry K c i tb ts Wout D σ H := h
/-- an error that the clause names -/
theorem r_caught {K : PySem.W.Frag} {c cls : Value} {d : Option Addr} {i : Nat} {ts : Addr → Value → Option Addr → TS} {Wout : WX} {D : Ends} {σ : L2.St} {H : Hp} (e : PySem.W.exmOne K cls c = some true)
    (h : ∀ a, H a = none → ts a cls d { nx := fun σ' H' => D.nx (σ'.set i none) H', rt := D.rt, bk := fun σ' H' => D.bk (σ'.set i none) H', ct := fun σ' H' => D.ct (σ'.set i none) H' } (σ.set i (some (.ref a))) H) : wAs K c i ts Wout D cls d σ H :=
  ⟨true, e, fun _ => h, fun z => Bool.noConfusion z⟩
/-! ### calls in an except suite -/
theorem hot_of {X : Cx} {a : Addr} {oe : Obj} {cls : Value} {d : Option Addr} {pn : List (Addr × Obj)} (hz : L2N.Zn cls d oe) (hf : ∃ vs, oe.data = .fields vs) : L2H.HotC (X.suite a ((a, oe) :: pn)) := by
  obtain ⟨vs, hd⟩ := hf
  exact ⟨(a, oe), ⟨rfl, vs, hd, hz.2.2 vs hd⟩, List.mem_cons_self⟩
structure CalH (P : Program) (w : World) (K : PySem.W.Frag) (mg : Str → Option Value) (base : Heap) (CX : CXT) (k : Nat) (x : Str) (ps : List Str) (sp : Sp) : Prop where
  ex : ∃ f fd, mg x = some (.ref f) ∧ PySem.W.keepIn K (.ref f) = true ∧ Binds K fd ps [] ∧ L2H.FnH P w K mg base CX k f fd ps sp
section
variable {P : Program} {w : World} {K : PySem.W.Frag} {mg : Str → Option Value} {base : Heap} {CX : CXT} {j k : Nat} {x qual : Str} {ps N : List Str} {sp : Sp} {st : Stmt}
theorem def_okH (F : FunAt K mg x qual st) (S : FnScope N ps (defScope st))
    (hb : ∀ (kV doc pm : Value) (an : Option Addr) (cdv ct : Value) (us : List Value), us.length = ps.length → bindArgs (PySem.W.fnOf x qual (defArgs st) (defBody st) (defScope st) .none kV doc pm an cdv ct) ⟨us, []⟩ = pure (ps.zip us))
    (len : ∀ vs H Q E, sp vs H Q E → vs.length = ps.length)
    (body : ∀ (f : Addr) (cdv : Value) (A : Around) (outer : List Env) (s : Shared) (H : Hp) (vs : List V) (Q : VK) (E : XK) (p : Addr × Obj), L2H.Hot1 A p → L2H.RoomH k (A.deeper (envOfC qual (defScope st) s.heap.objs.size f cdv)) → sp vs H Q E →
      ∃ t, PSs (L2H.cxH CX0 P w K mg base N qual (defScope st) f cdv A outer s H E p) (defBody st) t ∧ t { nx := fun _ H' => Q .non H', rt := Q } (start N vs) H) : CalH P w K mg base CX0 (k + 1) x ps sp := by
  obtain ⟨f, fd, m, G⟩ := F
  obtain ⟨oc, od, kV, doc, pm, an, cdv, ct, osl, rfl, lk, hcd⟩ := G.ex
  exact ⟨f, _, m, G.kp, G.binds hb, L2H.fn_ofH lk hcd S len fun A outer s H vs Q E p hp hr h => body f cdv A outer s H vs Q E p hp hr h⟩
end
theorem g_callH {X : Cx} {k : Nat} {x : Str} {ps : List Str} {sp : Sp} {p pos : Pos} {e : Expr} {es : List Expr} {t : TA} (c : CalH X.prog X.w X.K X.mg X.base CX0 k x ps sp) (hr : L2H.RoomH k X.A) (hc : L2H.HotC X) (hg : Gl X x) (ha : PA X (e :: es) t) (hdb : (x == ("__debug__" : Str)) = false := by decide)
    (he : starEach (e :: es) X.env = (false, eval e X.env) :: starEach es X.env := by rfl) (hpl : (backTo pos (starEach es X.env)).any (·.1) = false := by rfl) : PE X (.Call (.Name x p) (e :: es) [] pos) (tCallS sp (fun _ _ _ _ => False) t) := by
  obtain ⟨f, fd, m, kp, b, F⟩ := c.ex
  exact L2H.pe_callH F hr hc hg m kp b (fun _ _ _ _ _ _ _ h => h.elim) ha hdb he hpl
theorem r_callH {σ : L2.St} {H : Hp} {Q : VK} {sp : Sp} {t : TA} (h : t σ H fun vs H1 => sp vs H1 Q (fun _ _ _ => False)) : tCallS sp (fun _ _ _ _ => False) t σ H Q := h
/-! ### x == y of an own class -/
def rEqO (C : Addr) (sp : Sp) : R2 := fun x y H Q => ∃ (a b : Addr) (dx dy : Addr) (fs gs : List (Str × V)), x = .ref a ∧ y = .ref b ∧ H a = some (.ins C dx fs) ∧ H b = some (.ins C dy gs) ∧ sp [x, y] H (fun v H' => ∃ z, v = .bl z ∧ Q (.bl z) H') E0
theorem op_eqO {X : Cx} {k : Nat} {C : Addr} {ps : List Str} {sp : Sp} (c : MCal X.prog X.w X.K X.mg X.base CX0 k C "__eq__" ps sp) (hr : Room k X.A) : OpR X (compareOp .Eq) (rEqO C sp) := by
  intro pins s σ H x y u v Q I rx ry h
  obtain ⟨a, b, dx, dy, fs, gs, rfl, rfl, ha, hb', hsp⟩ := h
  obtain ⟨f, fd, M, hb, F⟩ := c.ex
  cases rx
  cases ry
  obtain ⟨mA, J, _⟩ := ins_get I.hok ha
  obtain ⟨mB, J', _⟩ := ins_get I.hok hb'
  obtain ⟨od, J, _⟩ := J.look
  obtain ⟨od', J', _⟩ := J'.look
  obtain ⟨m, hF⟩ := I.fr
  show wpAny _ _ (richCompare .Eq (.ref a) (.ref b)) _ _ _
  refine PySem.W.cmp_K (op := .Eq) (tb := .ref C) hr.units0 hF I.ok.mod.kin J J'.type (by simp [PySem.W.notFirst]) M.at_ M.fn ?_
  have hl := F.len _ _ _ _ hsp
  have r2 : Vals [V.ref a, V.ref b] [Value.ref a, Value.ref b] := .cons rfl (.cons rfl .nil)
  refine wpAny_call (codeAny_mono (F.run X.A X.stack s H ⟨[.ref a, .ref b], []⟩ [.ref a, .ref b] [.ref a, .ref b] _ E0 hr I.env0 (by
    have := hb s [.ref a, .ref b] I.kIn (by simpa using hl)
    simpa using this) r2 hsp) fun r s' hq => ?_)
  cases r with
  | error e => exact (show False from hq).elim
  | ok fl =>
    cases fl with
    | ret w =>
      obtain ⟨z, H', I', rz, z', ez, q⟩ := I.after hq
      subst ez
      cases rz
      exact ⟨.bl z', H', I', rfl, q⟩
    | next => exact False.elim hq
    | brk => exact False.elim hq
    | cont => exact False.elim hq
/-! isinstance of an instance -/
theorem v_isiO {K : PySem.W.Frag} {H : Hp} {a C dx : Addr} {fs : List (Str × V)} {Q : VK} (h : H a = some (.ins C dx fs)) (c : ClK K C) (k : Q (.bl true) H) : gIsi K [.ref a, .ref C] H Q :=
  .inl ⟨.ref a, .ref C, _, _, true, rfl, .own C, .base (.ins h c.cl c.cc c.sp c.tk c.mo), if_pos (beq_self_eq_true _), k⟩
/-! ### data of any depth -/
theorem Dp.same {K : PySem.W.Frag} {H H' : Hp} (s : Same H H') : ∀ (d : PyData) (v : V), Dp K H v d → Dp K H' v d := by
  intro d v h
  refine Dp.rec (motive_1 := fun v d _ => Dp K H' v d) (motive_2 := fun vs ds _ => DpAll K H' vs ds) ?_ ?_ ?_ ?_ ?_ ?_ ?_ ?_ h
  · exact .non
  · exact .bl
  · exact .int
  · exact .str
  · exact fun h _ ih => .lst (h.ext s) ih
  · exact fun h _ ih => .tup (h.ext s) ih
  · exact .nil
  · exact fun _ _ a b => .cons a b
section
variable {X : Cx} {K : PySem.W.Frag}
theorem g_eqD {k : Nat} (hr : Room k X.A) (hK : X.K = K := by rfl) : OpR X (compareOp .Eq) (rEqD K) := by subst hK; exact op_eqD (by have := hr.un; omega)
theorem g_neD {k : Nat} (hr : Room k X.A) (hK : X.K = K := by rfl) : OpR X (compareOp .NotEq) (rNeD K) := by subst hK; exact op_neD (by have := hr.un; omega)
theorem g_neDH {k : Nat} (hr : L2H.RoomH k X.A) (hK : X.K = K := by rfl) : OpR X (compareOp .NotEq) (rNeD K) := by subst hK; exact op_neD (by have := hr.un; omega)
theorem g_inD {k : Nat} (hr : Room k X.A) (hK : X.K = K := by rfl) : OpR X (compareOp .In) (rInD K) := by subst hK; exact op_inD (by have := hr.un; omega)
theorem g_notinD {k : Nat} (hr : Room k X.A) (hK : X.K = K := by rfl) : OpR X (compareOp .NotIn) (rNotInD K) := by subst hK; exact op_notInD (by have := hr.un; omega)
theorem g_revL {e : Expr} {te : TE} {k : Nat} {p1 p2 p3 pos : Pos} (he : PE X e te) (hK : X.K = K := by rfl) : PE X (.Subscript e (.Slice none none (some (.UnaryOp .USub (.Constant (.int 1) k p1) p2)) p3) pos) (tRevL K te) := by subst hK; exact pe_revL he
theorem r_revL {te : TE} {σ : L2.St} {H : Hp} {Q : VK} (h : te σ H fun x H1 => ∃ a xs, x = .ref a ∧ SqL K H1 a xs ∧ ∀ p, H1 p = none → Q (.ref p) (upd H1 p (.lst xs.reverse))) : tRevL K te σ H Q := h
end
end G

set_option Elab.async false
set_option linter.all false
set_option maxRecDepth 100000
set_option maxHeartbeats 4000000
/-! Pd: data of any depth on the heap, by embeddings; readings of fields, unpacked tuples (own work). -/
namespace G
open PySem PySem.Spec PyProof.Rows L2
/-! ### embeddings of plain types into data -/
structure Emb {α : Type} [DecidableEq α] (f : α → PyData) (n : Nat) : Prop where
  eq : ∀ x y, PyData.eqv (f x) (f y) = decide (x = y)
  can : ∀ x, PyData.canLay0 (f x) = true
  dep : ∀ x, PyData.depth (f x) ≤ n
theorem dec_congr {P Q : Prop} [Decidable P] [Decidable Q] (h : P ↔ Q) : decide P = decide Q := by
  by_cases p : P
  · rw [decide_eq_true p, decide_eq_true (h.mp p)]
  · rw [decide_eq_false p, decide_eq_false fun q => p (h.mpr q)]
theorem eqvAll_map {α : Type} [DecidableEq α] {f : α → PyData} (h : ∀ x y, PyData.eqv (f x) (f y) = decide (x = y)) : ∀ xs ys : List α, PyData.eqvAll (xs.map f) (ys.map f) = decide (xs = ys)
  | [], [] => by simp [PyData.eqvAll]
  | [], y :: ys => by simp [PyData.eqvAll]
  | x :: xs, [] => by simp [PyData.eqvAll]
  | x :: xs, y :: ys => by
    rw [List.map_cons, List.map_cons, PyData.eqvAll, h, eqvAll_map h xs ys, ← Bool.decide_and]
    exact dec_congr (by rw [List.cons.injEq])
theorem canAll_map {α : Type} {f : α → PyData} (h : ∀ x, PyData.canLay0 (f x) = true) : ∀ xs : List α, PyData.canLayAll0 (xs.map f) = true
  | [] => by simp [PyData.canLayAll0]
  | x :: xs => by rw [List.map_cons, PyData.canLayAll0, h, canAll_map h xs]; rfl
theorem depAll_map {α : Type} {f : α → PyData} {n : Nat} (h : ∀ x, PyData.depth (f x) ≤ n) : ∀ xs : List α, PyData.depthAll (xs.map f) ≤ n
  | [] => by simp [PyData.depthAll]
  | x :: xs => by
    rw [List.map_cons, PyData.depthAll]
    exact Nat.max_le.mpr ⟨h x, depAll_map h xs⟩
section
variable {α β : Type} [DecidableEq α] [DecidableEq β] {f : α → PyData} {g : β → PyData} {m n : Nat}
theorem Emb.int : Emb PyData.int 0 := ⟨fun x y => by
  rw [PyData.eqv]
  by_cases h : x = y <;> simp [h], fun x => by simp [PyData.canLay0], fun x => by simp [PyData.depth]⟩
theorem Emb.list (e : Emb f n) : Emb (fun xs : List α => PyData.list (xs.map f)) (n + 1) :=
  ⟨fun x y => by rw [PyData.eqv, eqvAll_map e.eq], fun x => by rw [PyData.canLay0, canAll_map e.can], fun x => by rw [PyData.depth]; have := depAll_map e.dep x; omega⟩
theorem Emb.tup (e : Emb f n) : Emb (fun xs : List α => PyData.tuple (xs.map f)) (n + 1) :=
  ⟨fun x y => by rw [PyData.eqv, eqvAll_map e.eq], fun x => by rw [PyData.canLay0, canAll_map e.can], fun x => by rw [PyData.depth]; have := depAll_map e.dep x; omega⟩
theorem Emb.pair (e : Emb f m) (d : Emb g n) : Emb (fun p : α × β => PyData.tuple [f p.1, g p.2]) (m + n + 1) :=
  ⟨fun x y => by
    rw [PyData.eqv, PyData.eqvAll, PyData.eqvAll, PyData.eqvAll, e.eq, d.eq, Bool.and_true, ← Bool.decide_and]
    exact dec_congr (by rw [Prod.ext_iff]), fun x => by rw [PyData.canLay0, PyData.canLayAll0, PyData.canLayAll0, PyData.canLayAll0, e.can, d.can]; rfl,
   fun x => by
    rw [PyData.depth, PyData.depthAll, PyData.depthAll, PyData.depthAll]
    have h1 := e.dep x.1
    have h2 := d.dep x.2
    have h3 : max (f x.1).depth (max (g x.2).depth 0) ≤ m + n := Nat.max_le.mpr ⟨by omega, Nat.max_le.mpr ⟨by omega, by omega⟩⟩
    omega⟩
theorem Emb.sh (e : Emb f n) (hn : n ≤ 64) (x : α) : SeqAt.shaped (f x) = true := by
  have h := e.dep x
  unfold SeqAt.shaped
  rw [e.can, decide_eq_true (by omega)]
  rfl
theorem Emb.any (e : Emb f n) (x : α) : ∀ xs : List α, ((xs.map f).any fun z => PyData.eqv z (f x)) = decide (x ∈ xs)
  | [] => by simp
  | y :: ys => by
    rw [List.map_cons, List.any_cons, e.eq, Emb.any e x ys, ← Bool.decide_or]
    exact dec_congr (by rw [List.mem_cons]; exact ⟨fun h => h.imp Eq.symm id, fun h => h.imp Eq.symm id⟩)
end
/-! ### data on the heap -/
section
variable {K : PySem.W.Frag} {H H' : Hp} {v : V} {vs : List V} {ds : List PyData} {a : Addr}
theorem dpAll_len : ∀ {vs : List V} {ds : List PyData}, DpAll K H vs ds → vs.length = ds.length
  | [], [], _ => rfl
  | _ :: _, _ :: _, .cons _ h => by rw [List.length_cons, List.length_cons, dpAll_len h]
theorem dpAll_get : ∀ {vs : List V} {ds : List PyData} (_ : DpAll K H vs ds) (i : Nat) (v : V) (d : PyData), vs[i]? = some v → ds[i]? = some d → Dp K H v d
  | _ :: _, _ :: _, .cons h _, 0, v, d, h1, h2 => by
    cases h1
    cases h2
    exact h
  | _ :: _, _ :: _, .cons _ h, i + 1, v, d, h1, h2 => dpAll_get h i v d h1 h2
  | [], [], _, i, v, d, h1, _ => by simp at h1
theorem dpAll_of : ∀ {vs : List V} {ds : List PyData}, vs.length = ds.length → (∀ (i : Nat) (v : V) (d : PyData), vs[i]? = some v → ds[i]? = some d → Dp K H v d) → DpAll K H vs ds
  | [], [], _, _ => .nil
  | v :: vs, d :: ds, hl, h => .cons (h 0 v d rfl rfl) (dpAll_of (by simpa using hl) fun i v d h1 h2 => h (i + 1) v d h1 h2)
  | [], _ :: _, hl, _ => by simp at hl
  | _ :: _, [], hl, _ => by simp at hl
theorem dp_int {i : Int} (h : Dp K H v (.int i)) : v = .int i := by cases h; rfl
theorem dp_two {d e : PyData} (h : Dp K H v (.tuple [d, e])) : ∃ p x y, v = .ref p ∧ SqT K H p [x, y] ∧ Dp K H x d ∧ Dp K H y e := by
  cases h with
  | tup hs ha =>
    cases ha with
    | cons h1 r =>
      cases r with
      | cons h2 r =>
        cases r
        exact ⟨_, _, _, rfl, hs, h1, h2⟩
theorem of_two {d e : PyData} {p : Addr} {x y : V} (h : SqT K H p [x, y]) (h1 : Dp K H x d) (h2 : Dp K H y e) : Dp K H (.ref p) (.tuple [d, e]) := .tup h (.cons h1 (.cons h2 .nil))
variable {α : Type} {f : α → PyData} {xs : List α}
theorem dp_tup (h : Dp K H v (.tuple (xs.map f))) : ∃ a vs, v = .ref a ∧ SqT K H a vs ∧ vs.length = xs.length ∧ ∀ (i : Nat) y x, vs[i]? = some y → xs[i]? = some x → Dp K H y (f x) := by
  cases h with
  | tup hs ha => exact ⟨_, _, rfl, hs, by simpa using dpAll_len ha, fun i y x h1 h2 => dpAll_get ha i y _ h1 (by rw [List.getElem?_map, h2]; rfl)⟩
theorem dp_lst (h : Dp K H v (.list (xs.map f))) : ∃ a vs, v = .ref a ∧ SqL K H a vs ∧ vs.length = xs.length ∧ ∀ (i : Nat) y x, vs[i]? = some y → xs[i]? = some x → Dp K H y (f x) := by
  cases h with
  | lst hs ha => exact ⟨_, _, rfl, hs, by simpa using dpAll_len ha, fun i y x h1 h2 => dpAll_get ha i y _ h1 (by rw [List.getElem?_map, h2]; rfl)⟩
theorem of_tup (hs : SqT K H a vs) (hl : vs.length = xs.length) (h : ∀ (i : Nat) y x, vs[i]? = some y → xs[i]? = some x → Dp K H y (f x)) : Dp K H (.ref a) (.tuple (xs.map f)) :=
  .tup hs (dpAll_of (by simpa using hl) fun i v d h1 h2 => by
    rw [List.getElem?_map] at h2
    cases e : xs[i]? with
    | none => rw [e] at h2; cases h2
    | some x => rw [e] at h2; cases h2; exact h i v x h1 e)
theorem of_lst (hs : SqL K H a vs) (hl : vs.length = xs.length) (h : ∀ (i : Nat) y x, vs[i]? = some y → xs[i]? = some x → Dp K H y (f x)) : Dp K H (.ref a) (.list (xs.map f)) :=
  .lst hs (dpAll_of (by simpa using hl) fun i v d h1 h2 => by
    rw [List.getElem?_map] at h2
    cases e : xs[i]? with
    | none => rw [e] at h2; cases h2
    | some x => rw [e] at h2; cases h2; exact h i v x h1 e)
/-- a tuple of ints -/
theorem dp_ints {is : List Int} (h : Dp K H v (.tuple (is.map PyData.int))) : ∃ a, v = .ref a ∧ SqT K H a (is.map V.int) := by
  obtain ⟨a, vs, rfl, hs, hl, hi⟩ := dp_tup h
  have e : vs = is.map V.int := by
    refine List.ext_getElem? fun i => ?_
    rw [List.getElem?_map]
    cases e1 : vs[i]? with
    | none =>
      have : is[i]? = none := List.getElem?_eq_none (by rw [← hl]; exact List.getElem?_eq_none_iff.mp e1)
      rw [this]; rfl
    | some y =>
      have hlt := (List.getElem?_eq_some_iff.mp e1).1
      have e2 : is[i]? = some is[i] := List.getElem?_eq_getElem (by omega)
      rw [e2, dp_int (hi i y _ e1 e2)]; rfl
  rw [e] at hs
  exact ⟨a, rfl, hs⟩
theorem of_ints {is : List Int} (h : SqT K H a (is.map V.int)) : Dp K H (.ref a) (.tuple (is.map PyData.int)) := of_tup h (by simp) fun i y x h1 h2 => by
  rw [List.getElem?_map, h2] at h1
  cases h1
  exact .int x
/-- all the pairs of ints of a tuple -/
theorem pairs_tup {ps : List (Int × Int)} (h : Dp K H v (.tuple (ps.map fun p => PyData.tuple [PyData.int p.1, PyData.int p.2]))) :
    ∃ (a : Addr) (ks : List (Addr × List Int)), v = .ref a ∧ SqT K H a (ks.map fun k => V.ref k.1) ∧ ks.map (·.2) = ps.map (fun p => [p.1, p.2]) ∧ ∀ k ∈ ks, SqT K H k.1 (k.2.map V.int) := by
  cases h with
  | @tup a vs _ hs ha =>
    suffices q : ∀ (ps : List (Int × Int)) (vs : List V), DpAll K H vs (ps.map fun p => PyData.tuple [PyData.int p.1, PyData.int p.2]) → ∃ ks : List (Addr × List Int), vs = ks.map (fun k => V.ref k.1) ∧ ks.map (·.2) = ps.map (fun p => [p.1, p.2]) ∧ ∀ k ∈ ks, SqT K H k.1 (k.2.map V.int) by
      obtain ⟨ks, e, h2, h3⟩ := q ps vs ha
      rw [e] at hs
      exact ⟨a, ks, rfl, hs, h2, h3⟩
    intro ps
    induction ps with
    | nil =>
      intro vs h
      cases h
      exact ⟨[], rfl, rfl, by simp⟩
    | cons p ps ih =>
      intro vs h
      cases h with
      | cons h1 h2 =>
        obtain ⟨ks, rfl, e2, e3⟩ := ih _ h2
        obtain ⟨q, x, y, rfl, hq, hx, hy⟩ := dp_two h1
        rw [dp_int hx, dp_int hy] at hq
        refine ⟨(q, [p.1, p.2]) :: ks, rfl, by rw [List.map_cons, List.map_cons, e2], fun k hk => ?_⟩
        rcases List.mem_cons.mp hk with rfl | hk
        · exact hq
        · exact e3 k hk
end
/-! ### readings -/
section
variable {K : PySem.W.Frag} {σ : L2.St} {H : Hp} {Q : VK} {D : Ends} {te ta tv : TE} {x y v : V} {p a C dx : Addr} {fs : List (Str × V)} {f : Str}
theorem v_unp2 {g1 g2 : TG} {Q : L2.St → Hp → Prop} (h : SqT K H p [x, y]) (k : g1 x σ H fun σ' H' => g2 y σ' H' Q) : gTup K 2 (gCons g1 (gCons g2 gNil)) (.ref p) σ H Q :=
  ⟨p, _, rfl, h, rfl, x, _, rfl, by
    have e : (fun σ' H' => gCons g2 gNil [y] σ' H' Q) = fun σ' H' => ∃ v r, [y] = v :: r ∧ g2 v σ' H' fun σ2 H2 => gNil r σ2 H2 Q := rfl
    have m : ∀ σ' H', g2 y σ' H' Q → gCons g2 gNil [y] σ' H' Q := fun σ' H' z => ⟨y, [], rfl, by
      have e2 : (fun σ2 H2 => gNil [] σ2 H2 Q) = Q := funext fun σ2 => funext fun H2 => propext ⟨fun z => z.2, fun z => ⟨rfl, z⟩⟩
      rw [e2]; exact z⟩
    have e3 : (fun σ' H' => gCons g2 gNil [y] σ' H' Q) = fun σ' H' => g2 y σ' H' Q := funext fun σ' => funext fun H' => propext ⟨fun ⟨v, r, e, z⟩ => by
      cases e
      have e2 : (fun σ2 H2 => gNil [] σ2 H2 Q) = Q := funext fun σ2 => funext fun H2 => propext ⟨fun z => z.2, fun z => ⟨rfl, z⟩⟩
      rw [e2] at z; exact z, m σ' H'⟩
    rw [e3]; exact k⟩
theorem r_fld (h : te σ H fun x H1 => ∃ a C dx fs v, x = .ref a ∧ H1 a = some (.ins C dx fs) ∧ Cls K C ∧ NoAttr K C f ∧ fs.lookup f = some v ∧ Q v H1) : tFld K te f σ H Q := h
theorem v_fld (h : H a = some (.ins C dx fs)) (c : Cls K C) (n : PySem.W.findIn K (.ref C) f = some none) (l : fs.lookup f = some v) (k : Q v H) : ∃ a' C dx fs v, (V.ref a : V) = .ref a' ∧ H a' = some (.ins C dx fs) ∧ Cls K C ∧ NoAttr K C f ∧ fs.lookup f = some v ∧ Q v H := ⟨a, C, dx, fs, v, rfl, h, c, n, l, k⟩
theorem r_sfld (h : tv σ H fun y H1 => ta σ H1 fun x H2 => ∃ a C dx fs, x = .ref a ∧ H2 a = some (.ins C dx fs) ∧ Cls K C ∧ NoAttr K C f ∧ fs.length < 1000 ∧ D.nx σ (upd H2 a (.ins C dx (putF f y fs)))) : sFld K ta tv f D σ H := h
theorem v_eqD {α : Type} [DecidableEq α] {F : α → PyData} {n : Nat} (e : Emb F n) (hn : n ≤ 64) {u v : α} (h1 : Dp K H x (F u)) (h2 : Dp K H y (F v)) (k : Q (.bl (decide (u = v))) H) : rEqD K x y H Q := ⟨_, _, h1, h2, e.sh hn _, e.sh hn _, by rw [e.eq]; exact k⟩
theorem v_neD {α : Type} [DecidableEq α] {F : α → PyData} {n : Nat} (e : Emb F n) (hn : n ≤ 64) {u v : α} (h1 : Dp K H x (F u)) (h2 : Dp K H y (F v)) (k : Q (.bl (!decide (u = v))) H) : rNeD K x y H Q := ⟨_, _, h1, h2, e.sh hn _, e.sh hn _, by rw [e.eq]; exact k⟩
theorem v_inD {α : Type} [DecidableEq α] {F : α → PyData} {n : Nat} (e : Emb F n) (hn : n ≤ 63) {u : α} {us : List α} [Decidable (u ∈ us)] (h1 : Dp K H x (F u)) (h2 : Dp K H y (.list (us.map F))) (k : Q (.bl (decide (u ∈ us))) H) : rInD K x y H Q :=
  ⟨_, _, h1, h2, e.sh (by omega) _, e.list.sh (by omega) us, by
    have z : ∀ b, b = decide (u ∈ us) → Q (.bl b) H := by rintro _ rfl; exact k
    exact z _ (by rw [e.any]; exact @dec_congr _ _ (_) (_) Iff.rfl)⟩
theorem v_notinD {α : Type} [DecidableEq α] {F : α → PyData} {n : Nat} (e : Emb F n) (hn : n ≤ 63) {u : α} {us : List α} [Decidable (u ∈ us)] (h1 : Dp K H x (F u)) (h2 : Dp K H y (.list (us.map F))) (k : Q (.bl (!decide (u ∈ us))) H) : rNotInD K x y H Q :=
  ⟨_, _, h1, h2, e.sh (by omega) _, e.list.sh (by omega) us, by
    have z : ∀ b, b = decide (u ∈ us) → Q (.bl (!b)) H := by rintro _ rfl; exact k
    exact z _ (by rw [e.any]; exact @dec_congr _ _ (_) (_) Iff.rfl)⟩
theorem r_lenSetT (h : te σ H fun x H1 => ∃ (l : Addr) (ks : List (Addr × List Int)), x = V.ref l ∧ SqT K H1 l (ks.map fun p => V.ref p.1) ∧ (∀ p ∈ ks, SqT K H1 p.1 (p.2.map V.int)) ∧ ks.length < 64 ∧
  ∀ n : Nat, (∃ L : List (List Int), L.Nodup ∧ L.length = n ∧ (∀ k, k ∈ L ↔ k ∈ ks.map (·.2))) → Q (.int n) H1) : tLenSetT K te σ H Q := h
/-- tuple(l), l a new list of a comprehension: nothing else asked -/
theorem v_tupL {xs : List V} (h : H p = some (.lst xs)) (k : ∀ l, H l = none → Q (.ref l) (upd H l (.tup xs))) : gTupl K [.ref p] H Q := ⟨p, xs, rfl, .inl ⟨SqL.of h, k⟩⟩
theorem un64 {k : Nat} {A : Around} (hr : Room k A) : A.units + 64 < cLine := by have := hr.un; omega
theorem un65 {k : Nat} {A : Around} (hr : Room k A) : A.units + 65 < cLine := by have := hr.un; omega
theorem op_eqDK {X : Cx} (hu : X.A.units + 64 < cLine) (hK : X.K = K := by rfl) : OpR X (compareOp .Eq) (rEqD K) := by subst hK; exact op_eqD hu
theorem op_neDK {X : Cx} (hu : X.A.units + 64 < cLine) (hK : X.K = K := by rfl) : OpR X (compareOp .NotEq) (rNeD K) := by subst hK; exact op_neD hu
theorem op_inDK {X : Cx} (hu : X.A.units + 65 < cLine) (hK : X.K = K := by rfl) : OpR X (compareOp .In) (rInD K) := by subst hK; exact op_inD hu
theorem op_notInDK {X : Cx} (hu : X.A.units + 65 < cLine) (hK : X.K = K := by rfl) : OpR X (compareOp .NotIn) (rNotInD K) := by subst hK; exact op_notInD hu
end
theorem short_of {α : Type} [DecidableEq α] : ∀ ps : List α, ¬ ps.Nodup → ∃ qs : List α, qs.length < ps.length ∧ ∀ k, k ∈ ps → k ∈ qs
  | [], h => absurd List.nodup_nil h
  | a :: l, h => by
    by_cases m : a ∈ l
    · refine ⟨l, by simp, fun k hk => ?_⟩
      rcases List.mem_cons.mp hk with rfl | hk
      · exact m
      · exact hk
    · obtain ⟨qs, h1, h2⟩ := short_of l fun n => h (List.nodup_cons.mpr ⟨m, n⟩)
      refine ⟨a :: qs, by simpa using h1, fun k hk => ?_⟩
      rcases List.mem_cons.mp hk with rfl | hk
      · exact List.mem_cons_self
      · exact List.mem_cons_of_mem _ (h2 k hk)
/-- the number of distinct members -/
theorem nodup_card {ps : List (Int × Int)} {L : List (List Int)} (h1 : L.Nodup) (h2 : ∀ k, k ∈ L ↔ k ∈ ps.map fun p => [p.1, p.2]) : L.length < ps.length ↔ ¬ ps.Nodup := by
  have inj : ∀ p q : Int × Int, [p.1, p.2] = [q.1, q.2] → p = q := fun p q h => by
    injection h with a b
    injection b with b _
    exact Prod.ext a b
  have sub1 : L ⊆ ps.map fun p => [p.1, p.2] := fun k hk => (h2 k).mp hk
  have le : L.length ≤ ps.length := by
    have := h1.length_le_of_subset sub1
    rwa [List.length_map] at this
  constructor
  · intro hlt hn
    have hm : (ps.map fun p => [p.1, p.2]).Nodup := List.Pairwise.map _ (fun a b h e => h (inj a b e)) hn
    have := hm.length_le_of_subset (fun k hk => (h2 k).mpr hk)
    rw [List.length_map] at this
    omega
  · intro hn
    obtain ⟨qs, q1, q2⟩ := short_of ps hn
    have := h1.length_le_of_subset (l₂ := qs.map fun p => [p.1, p.2]) fun k hk => by
      obtain ⟨p, hp, rfl⟩ := List.mem_map.mp ((h2 k).mp hk)
      exact List.mem_map_of_mem (q2 p hp)
    rw [List.length_map] at this
    omega
/-- f'text{v}' in such an __init__ -/
theorem fmt2 {p : Str} (hp : p.length ≤ 1000) {a : Addr} {v : V} {H : Hp} {R : VK} (hv : FmtV v) (k : ∀ z : Str, R (.str z) H) : tJs [tC (.str p), tFmt (tVar 1)] Str.empty [some (.ref a), some v] H fun out H1 => R (.str out) H1 := by
  have e0 : (Str.empty ++ p).length ≤ 1000 := by rw [slen_app]; have : Str.empty.length = 0 := rfl; omega
  refine ⟨p, rfl, by rw [line_val]; omega, ?_⟩
  cases v with
  | int i =>
    refine ⟨_, rfl, .inr ⟨i, rfl, hv, _, rfl, ?_, k _⟩⟩
    have e := int_text_length_le (k := 1920) (by decide) hv
    rw [slen_app, line_val]
    show _ + (Str.ofString (toString i)).length ≤ _
    rw [PySem.ofString_length]
    omega
  | str z =>
    have hz : z.length ≤ 1000 := hv
    refine ⟨_, rfl, .inl ⟨z, rfl, by rw [line_val]; omega, _, rfl, ?_, k _⟩⟩
    rw [slen_app, line_val]
    omega
  | _ => exact hv.elim
/-! ### new data -/
/-- what is new in H', and of what was there in H that of Hb -/
def mx (Hb H H' : Hp) : Hp := fun b => match H b with
  | none => H' b
  | some _ => Hb b
abbrev nw (H H' : Hp) : Hp := mx (fun _ => none) H H'
theorem mx_new {Hb H H' : Hp} {b : Addr} (h : H b = none) : mx Hb H H' b = H' b := by unfold mx; rw [h]
theorem mx_old {Hb H H' : Hp} {b : Addr} {o : HO} (h : H b = some o) : mx Hb H H' b = Hb b := by unfold mx; rw [h]
theorem Same.over {H H' : Hp} {p : Addr} {o : HO} (s : Same H H') (n : H p = none) : Same H (upd H' p o) := fun b u e => by
  rw [upd_ne (ne_of_none e n)]
  exact s b u e
theorem same_none {H H' : Hp} {b : Addr} (s : Same H H') (n : H' b = none) : H b = none := by
  cases e : H b with
  | none => rfl
  | some o => rw [s b o e] at n; cases n
theorem mx_same {Hb H H' : Hp} (sb : Same Hb H) (s : Same H H') : Same (mx Hb H H') H' := fun b o e => by
  cases h : H b with
  | none => rwa [mx_new h] at e
  | some u =>
    rw [mx_old h] at e
    exact s _ _ (sb _ _ e)
theorem mx_base {Hb H H' : Hp} (sb : Same Hb H) : Same Hb (mx Hb H H') := fun b o e => by rw [mx_old (sb _ _ e)]; exact e
theorem mx_mono {Hb H H1 H2 : Hp} (s : Same H1 H2) : Same (mx Hb H H1) (mx Hb H H2) := fun b o e => by
  cases h : H b with
  | none => rw [mx_new h] at e ⊢; exact s _ _ e
  | some u => rw [mx_old h] at e ⊢; exact e
/-- new since H1 is new since H -/
theorem mx_back {Hb H H1 H2 : Hp} (sb : Same Hb H) (s : Same H H1) : Same (mx Hb H1 H2) (mx Hb H H2) := fun b o e => by
  cases h : H1 b with
  | none => rw [mx_new h] at e; rw [mx_new (same_none s h)]; exact e
  | some u => rw [mx_old h] at e; rw [mx_old (sb _ _ e)]; exact e
theorem mx_self {H H' : Hp} (s : Same H H') : Same H' (mx H H H') := fun b o e => by
  cases h : H b with
  | none => rw [mx_new h]; exact e
  | some u => rw [mx_old h]; rw [s _ _ h] at e; rw [h]; exact e
theorem same_nil {H : Hp} : Same (fun _ => none) H := fun b o e => by cases e
theorem del_le {H : Hp} {D : Addr} : Same (del H D) H := fun b o e => by
  by_cases h : b = D
  · rw [h, del_same] at e; cases e
  · rwa [del_ne h] at e
theorem Same.del {H H' : Hp} {D : Addr} (s : Same H H') : Same (del H D) (del H' D) := fun b o e => by
  by_cases h : b = D
  · rw [h, del_same] at e; cases e
  · rw [del_ne h] at e ⊢; exact s _ _ e
theorem Same.out {H H' : Hp} {D : Addr} (s : Same H H') (n : H D = Option.none) : Same H (L2.del H' D) := fun b o e => by
  show L2.del H' D b = _
  rw [del_ne (ne_of_none e n)]
  exact s _ _ e
/-- what a comprehension has made so far: H the heap ahead of it, Hb what of it the items may hold -/
def WD (K : PySem.W.Frag) (Hb H : Hp) {α : Type} (f : α → PyData) (xs : List α) : Addr → Nat → List V → Hp → Prop := fun D i acc H' => Same H H' ∧ acc.length = i ∧ ∀ (j : Nat) y a, acc[j]? = some y → xs[j]? = some a → Dp K (L2.del (mx Hb H H') D) y (f a)
theorem lcD_next {K : PySem.W.Frag} {Hb H H1 H4 : Hp} {α : Type} {f : α → PyData} {xs : List α} {D : Addr} {i : Nat} {acc : List V} {a : α} {v : V} (sb : Same Hb H) (hD : H D = none) (hx : xs[i]? = some a) (hW : WD K Hb H f xs D i acc H1) (hL : H1 D = some (.lst acc)) (hz : xs.length ≤ 1000000)
    (s4 : Same H1 H4) (d4 : Dp K (mx Hb H1 H4) v (f a)) : LcNx (WD K Hb H f xs) D (i + 1) v H4 := by
  obtain ⟨s1, hc, ha⟩ := hW
  have hi : i < xs.length := (List.getElem?_eq_some_iff.mp hx).1
  have e0 : L2.del (mx Hb H (upd H4 D (.lst (acc ++ [v])))) D = L2.del (mx Hb H H4) D := funext fun b => by
    by_cases h : b = D
    · rw [h, del_same, del_same]
    · rw [del_ne h, del_ne h]
      cases e : H b with
      | none => rw [mx_new e, mx_new e, upd_ne h]
      | some u => rw [mx_old e, mx_old e]
  refine lc_next (s4 _ _ hL) (by rw [line_val]; omega) ⟨Same.over (s1.trans s4) hD, by simp [hc], fun j y b hj hb => ?_⟩
  rw [e0]
  by_cases hji : j < acc.length
  · rw [List.getElem?_append_left hji] at hj
    exact Dp.same (Same.del (mx_mono s4)) _ _ (ha j y b hj hb)
  · have hlt := (List.getElem?_eq_some_iff.mp hj).1
    rw [List.length_append, List.length_singleton] at hlt
    obtain rfl : j = acc.length := by omega
    rw [List.getElem?_append_right (Nat.le_refl _), Nat.sub_self] at hj
    cases hj
    subst hc
    rw [hx] at hb
    cases hb
    refine Dp.same (fun b o e => ?_) _ _ d4
    have q := mx_back sb s1 b o e
    by_cases h : b = D
    · subst h
      rw [mx_old hL] at e
      rw [sb _ _ e] at hD
      cases hD
    · rw [del_ne h]; exact q
theorem lcD {K : PySem.W.Frag} {σ : L2.St} {H : Hp} {Q : VK} {J : It} {n : Nat} {G : Hp → Prop} {Y : Nat → Hp → V → Hp → Prop} (w : Walk J n G Y) {g : TG} {tt : TT} {te : TE} {vs : List Nat} {α : Type} {f : α → PyData} (xs : List α) (Hb : Hp) (hn : xs.length = n) (hG : ∀ H', Same H H' → G H')
    (ws : ∀ D i a x acc H1 H2, H D = none → xs[i]? = some a → WD K Hb H f xs D i acc H1 → H1 D = some (.lst acc) → Y i H1 x H2 → g x (wipe σ vs) H2 fun σ2 H2 => wipe σ2 vs = wipe σ vs ∧ tt σ2 H2 fun b H3 =>
      if b = true then te σ2 H3 fun y H4 => LcNx (WD K Hb H f xs) D (i + 1) y H4 else LcSk (WD K Hb H f xs) D (i + 1) H3)
    (wd : ∀ D H' ys, H D = none → Same H H' → H' D = some (.lst ys) → Dp K (mx Hb H H') (.ref D) (.list (xs.map f)) → (∀ l, H' l = none → Dp K (mx Hb H (upd H' l (.tup ys))) (.ref l) (.tuple (xs.map f))) → Q (.ref D) H') :
    LcIs J H g tt te vs σ Q := by
  refine l_lc w (WD K Hb H f xs) (fun D hD => ⟨Same.over (Same.refl H) hD, rfl, fun j y a h => by simp at h⟩) (fun D i acc H' hD ⟨s, _⟩ => hG H' s) ?_ ?_
  · rintro D i acc x H1 H2 hD hi hW hL y
    exact ws D i _ x acc H1 H2 hD (List.getElem?_eq_getElem (by omega)) hW hL y
  · rintro D ys H' hD ⟨s1, hc, ha⟩ hL
    refine wd D H' ys hD s1 hL ?_ fun l hl => ?_
    · refine of_lst (SqL.of (by rw [mx_new hD]; exact hL)) (by omega) fun i y x h1 h2 => ?_
      exact Dp.same del_le _ _ (ha i y x h1 h2)
    · refine of_tup (SqT.of (by rw [mx_new (same_none s1 hl)]; exact upd_same)) (by omega) fun i y x h1 h2 => ?_
      exact Dp.same (fun b o e => mx_mono (Same.over (Same.refl H') hl) b o (del_le b o e)) _ _ (ha i y x h1 h2)
/-! slices of lists -/
theorem v_slLs {K : PySem.W.Frag} {H : Hp} {Q : VK} {p : Addr} {xs : List V} {lo hi : Option Int} (h : SqL K H p xs) (k : ∀ l, H l = none → Q (.ref l) (upd H l (.lst (cutV xs lo hi)))) : gSl K (.ref p) lo hi H Q := .inl ⟨p, xs, rfl, h, k⟩
theorem cut_take {xs : List V} {n : Nat} : cutV xs none (some (n : Int)) = xs.take n := by
  unfold cutV
  have e1 : HT.sIx xs.length 0 none = 0 := rfl
  rw [e1, List.drop_zero, Nat.sub_zero]
  have e2 : HT.sIx xs.length xs.length (some (n : Int)) = min n xs.length := HT.sIx_nat _ _ _
  rw [e2]
  by_cases h : n ≤ xs.length
  · rw [Nat.min_eq_left h]
  · rw [Nat.min_eq_right (by omega), List.take_of_length_le (Nat.le_refl _), List.take_of_length_le (by omega)]
theorem cut_drop {xs : List V} {n : Nat} : cutV xs (some (n : Int)) none = xs.drop n := by
  unfold cutV
  have e1 : HT.sIx xs.length xs.length none = xs.length := rfl
  have e2 : HT.sIx xs.length 0 (some (n : Int)) = min n xs.length := HT.sIx_nat _ _ _
  rw [e1, e2]
  by_cases h : n ≤ xs.length
  · rw [Nat.min_eq_left h, List.take_of_length_le (by rw [List.length_drop]; omega)]
  · rw [Nat.min_eq_right (by omega), List.drop_of_length_le (Nat.le_refl _), List.drop_of_length_le (by omega)]
    simp
/-! ### the heap with some objects hidden: those that the law still writes -/
def hid (H : Hp) (L : List Addr) : Hp := fun b => if b ∈ L then none else H b
theorem hid_out {H : Hp} {L : List Addr} {b : Addr} (h : b ∉ L) : hid H L b = H b := if_neg h
theorem hid_in {H : Hp} {L : List Addr} {b : Addr} (h : b ∈ L) : hid H L b = none := if_pos h
theorem hid_le {H : Hp} {L : List Addr} : Same (hid H L) H := fun b o e => by
  by_cases h : b ∈ L
  · rw [hid_in h] at e; cases e
  · rwa [hid_out h] at e
theorem hid_upd {H : Hp} {L : List Addr} {q : Addr} {o : HO} (h : q ∈ L) : hid (upd H q o) L = hid H L := funext fun b => by
  by_cases hb : b ∈ L
  · rw [hid_in hb, hid_in hb]
  · rw [hid_out hb, hid_out hb, upd_ne fun z => hb (by rw [z]; exact h)]
theorem hid_eq {H H' : Hp} {L : List Addr} {q : Addr} (h : q ∈ L) (e : ∀ b, b ≠ q → H' b = H b) : hid H' L = hid H L := funext fun b => by
  by_cases hb : b ∈ L
  · rw [hid_in hb, hid_in hb]
  · rw [hid_out hb, hid_out hb, e b fun z => hb (by rw [z]; exact h)]
theorem hid_new {H : Hp} {L : List Addr} {q : Addr} {o : HO} (h : H q = none) : Same (hid H L) (hid (upd H q o) L) := fun b u e => by
  by_cases hb : b ∈ L
  · rw [hid_in hb] at e; cases e
  · rw [hid_out hb] at e ⊢
    rw [upd_ne (ne_of_none e h)]; exact e
theorem hid_same {H H' : Hp} {L : List Addr} (s : Same H H') : Same (hid H L) (hid H' L) := fun b u e => by
  by_cases hb : b ∈ L
  · rw [hid_in hb] at e; cases e
  · rw [hid_out hb] at e ⊢; exact s _ _ e
theorem hid_sub {H : Hp} {L L' : List Addr} (h : ∀ b ∈ L', b ∈ L) : Same (hid H L) (hid H L') := fun b u e => by
  by_cases hb : b ∈ L
  · rw [hid_in hb] at e; cases e
  · rw [hid_out hb] at e
    rw [hid_out fun z => hb (h b z)]; exact e
theorem hid_more {H : Hp} {L L' : List Addr} {q : Addr} {o : HO} (hq : H q = none) (h : ∀ b ∈ L', b ∈ L ∨ b = q) : Same (hid H L) (hid (upd H q o) L') := fun b u e => by
  by_cases hb : b ∈ L
  · rw [hid_in hb] at e; cases e
  · rw [hid_out hb] at e
    have n := ne_of_none e hq
    rw [hid_out fun z => (h b z).elim hb n, upd_ne n]; exact e
/-- the list at R holds the data xs, its items ys; L is hidden (R among it) -/
structure LstS (K : PySem.W.Frag) (H : Hp) (L : List Addr) (R : Addr) {α : Type} (f : α → PyData) (xs : List α) (ys : List V) : Prop where
  at_ : H R = some (.lst ys)
  len : ys.length = xs.length
  it : ∀ (i : Nat) y x, ys[i]? = some y → xs[i]? = some x → Dp K (hid H L) y (f x)
section
variable {K : PySem.W.Frag} {H H' : Hp} {L L' : List Addr} {R q : Addr} {α : Type} {f : α → PyData} {xs : List α} {ys : List V} {x : α} {y : V} {o : HO}
theorem LstS.nil (h : H R = some (.lst [])) : LstS K H L R f [] [] := ⟨h, rfl, fun i y x h => by simp at h⟩
theorem LstS.grow (a : LstS K H L R f xs ys) (h : H' R = some (.lst ys)) (s : Same (hid H L) (hid H' L')) : LstS K H' L' R f xs ys := ⟨h, a.len, fun i y x h1 h2 => Dp.same s _ _ (a.it i y x h1 h2)⟩
theorem LstS.but (a : LstS K H L R f xs ys) (h : q ∈ L) (n : R ≠ q) (e : ∀ b, b ≠ q → H' b = H b) : LstS K H' L R f xs ys := a.grow ((e R n).trans a.at_) (by rw [hid_eq h e]; exact Same.refl _)
theorem LstS.new (a : LstS K H L R f xs ys) (h : H q = none) : LstS K (upd H q o) L R f xs ys := a.grow (by rw [upd_ne (ne_of_none a.at_ h)]; exact a.at_) (hid_new h)
theorem LstS.other (a : LstS K H L R f xs ys) (h : q ∈ L) (n : R ≠ q) : LstS K (upd H q o) L R f xs ys := a.grow (by rw [upd_ne n]; exact a.at_) (by rw [hid_upd h]; exact Same.refl _)
theorem LstS.more (a : LstS K H L R f xs ys) (h : H q = none) (hl : ∀ b ∈ L', b ∈ L ∨ b = q) : LstS K (upd H q o) L' R f xs ys := a.grow (by rw [upd_ne (ne_of_none a.at_ h)]; exact a.at_) (hid_more h hl)
theorem LstS.less (a : LstS K H L R f xs ys) (hl : ∀ b ∈ L', b ∈ L) : LstS K H L' R f xs ys := a.grow a.at_ (hid_sub hl)
theorem LstS.app (a : LstS K H L R f xs ys) (h : R ∈ L) (d : Dp K (hid H L) y (f x)) : LstS K (upd H R (.lst (ys ++ [y]))) L R f (xs ++ [x]) (ys ++ [y]) := ⟨upd_same, by rw [List.length_append, List.length_append, a.len]; rfl, fun i u z h1 h2 => by
  rw [hid_upd h]
  by_cases hi : i < ys.length
  · rw [List.getElem?_append_left hi] at h1
    rw [List.getElem?_append_left (by rw [← a.len]; exact hi)] at h2
    exact a.it i u z h1 h2
  · rw [List.getElem?_append_right (by omega)] at h1
    rw [List.getElem?_append_right (by rw [← a.len]; omega), ← a.len] at h2
    have e : i - ys.length = 0 := by
      have := (List.getElem?_eq_some_iff.mp h1).1
      rw [List.length_singleton] at this
      omega
    rw [e] at h1 h2
    cases h1
    cases h2
    exact d⟩
theorem LstS.put (a : LstS K H L R f xs ys) {n : Nat} (h : R ∈ L) (d : Dp K (hid H L) y (f x)) : LstS K (upd H R (.lst (ys.set n y))) L R f (xs.set n x) (ys.set n y) := ⟨upd_same, by rw [List.length_set, List.length_set, a.len], fun i u z h1 h2 => by
  rw [hid_upd h]
  by_cases hi : n = i
  · subst hi
    have h3 := (List.getElem?_eq_some_iff.mp h1).1
    rw [List.length_set] at h3
    rw [List.getElem?_set_self h3] at h1
    rw [List.getElem?_set_self (by rw [← a.len]; exact h3)] at h2
    cases h1
    cases h2
    exact d
  · rw [List.getElem?_set_ne hi] at h1 h2
    exact a.it i u z h1 h2⟩
theorem LstS.fin (a : LstS K H L R f xs ys) (hl : ∀ b ∈ L', b ∈ L) (h : R ∉ L') : Dp K (hid H L') (.ref R) (.list (xs.map f)) := of_lst (SqL.of (by rw [hid_out h]; exact a.at_)) a.len fun i y x h1 h2 => Dp.same (hid_sub hl) _ _ (a.it i y x h1 h2)
end
/-! ### l + m, lists that are read -/
def rCatS (K : PySem.W.Frag) : R2 := fun x y H Q => ∃ l b xs zs, x = .ref l ∧ y = .ref b ∧ SqL K H l xs ∧ SqL K H b zs ∧ xs.length + zs.length ≤ sizeLine ∧ ∀ p, H p = none → Q (.ref p) (upd H p (.lst (xs ++ zs)))
theorem g_catS {X : Cx} {K : PySem.W.Frag} (hK : X.K = K := by rfl) : OpR X (binaryOp .Add) (rCatS K) := by
  subst hK
  intro pins s σ H x y v u Q I rx ry h
  obtain ⟨l, b, xs, zs, rfl, rfl, hH, hB, hz, q⟩ := h
  cases rx
  cases ry
  obtain ⟨its, r, ⟨⟨cls, dd, data, sl⟩, n, ho, hc, hdn, hd⟩, hl⟩ := I.list hH
  obtain ⟨its2, r2, ⟨⟨cls2, dd2, data2, sl2⟩, n2, ho2, hc2, hdn2, hd2⟩, hl2⟩ := I.list hB
  simp only at hc hd hc2 hd2
  subst hc hd hc2 hd2
  have e : its.toArray ++ its2.toArray = (its ++ its2).toArray := by simp
  have k1 := r.length
  have k2 := r2.length
  refine concat_meets ⟨_, ho, rfl⟩ ⟨_, ho2, rfl⟩ noFill_list_add seq_list_add PySem.F.slot_list_add PySem.F.entry_list_add (PySem.F.args_list_add_2 _ _) (list_addW l b its.toArray its2.toArray n n2 dd dd2 sl sl2 (by rw [List.size_toArray, List.size_toArray]; omega)) ⟨ho, ho2, ?_⟩
  rw [e]
  exact ⟨.ref _, _, I.lnew (t' := s.toks) (r.append r2) (by rw [List.length_append]; omega), rfl, q _ I.fresh⟩
theorem v_catS {K : PySem.W.Frag} {H : Hp} {Q : VK} {p q : Addr} {xs ys : List V} (h1 : SqL K H p xs) (h2 : SqL K H q ys) (h : xs.length + ys.length ≤ sizeLine) (k : ∀ l, H l = none → Q (.ref l) (upd H l (.lst (xs ++ ys)))) : rCatS K (.ref p) (.ref q) H Q := ⟨p, q, xs, ys, rfl, rfl, h1, h2, h, k⟩
theorem t_lstS {K : PySem.W.Frag} {H : Hp} {R : Bool → Prop} {p : Addr} {xs : List V} (l : SqL K H p xs) (h : R (!xs.isEmpty)) : ∃ k, TruV K (.ref p) H k ∧ R k := ⟨_, .inl ⟨xs, l, rfl⟩, h⟩
end G

local macro_rules | `(tactic| walk_at "kit") => `(tactic| with_reducible first | exact G.kit_N_tuple | exact G.kit_N_list | exact G.kit_N_bool | exact G.kit_N_int | exact G.kit_N_str | exact G.kit_B_tuple | exact G.kit_B_list | exact G.kit_B_bool | exact G.kit_B_int | exact G.kit_B_str | exact G.kit_I_tuple | exact G.kit_I_list | exact G.kit_I_bool | exact G.kit_I_int | exact G.kit_I_str | exact G.kit_S_tuple | exact G.kit_S_list | exact G.kit_S_bool | exact G.kit_S_int | exact G.kit_S_str | exact G.kit_L_tuple | exact G.kit_L_list | exact G.kit_L_bool | exact G.kit_L_int | exact G.kit_L_str | exact G.kit_T_tuple | exact G.kit_T_list | exact G.kit_T_bool | exact G.kit_T_int | exact G.kit_T_str)
local macro_rules | `(tactic| walk_at "ne") => `(tactic| first | assumption | (apply Ne.symm; assumption) | exact L2.ne_of_none (by assumption) (by assumption) | exact (L2.ne_of_none (by assumption) (by assumption)).symm)
local macro_rules | `(tactic| walk_at "hp") => `(tactic| first | assumption | exact L2.upd_same | (refine' Eq.trans (L2.upd_ne ?k8) ?k9; (case k8 => walk_at "ne"); (case k9 => walk_at "hp")))
local macro_rules | `(tactic| walk_at "sz") => `(tactic| first | assumption | decide | omega | (simp only [G.line_val, G.slen_app, G.slen_one, List.length_cons, List.length_nil, List.length_append, List.length_map, List.length_set]; first | decide | omega))
local macro_rules | `(tactic| walk_at "r1") => `(tactic| first
  | with_reducible refine G.r_seq ?_
  | with_reducible refine G.r_asg ?_
  | with_reducible refine G.r_op ?_
  | ((with_reducible refine' G.r_var ?k1 ?_); (case k1 => rfl))
  | with_reducible refine G.r_c ?_
  | with_reducible refine G.r_cons ?_
  | with_reducible refine G.r_nil ?_
  | ((with_reducible refine G.r_name ?_); dsimp only [List.set_cons_succ, List.set_cons_zero, L2.start, List.map, List.replicate, List.length, Nat.reduceSub, Nat.reduceAdd, List.cons_append, List.nil_append, List.append_nil])
  | with_reducible refine G.r_sub ?_
  | (with_reducible refine G.r_ret ?_)
  | with_reducible refine G.r_ifS ?_
  | with_reducible refine G.r_cb ?_
  | (with_reducible refine G.r_call ?_)
  | with_reducible refine G.r_test ?_
  | with_reducible refine G.r_and ?_
  | with_reducible refine G.r_or ?_
  | with_reducible refine G.r_not ?_
  | with_reducible refine G.r_if ?_
  | with_reducible refine G.r_drop ?_
  | with_reducible refine G.r_bm ?_
  | with_reducible refine G.r_bm0 ?_
  | with_reducible refine G.r_tup ?_
  | with_reducible refine G.r_lst ?_
  | with_reducible refine G.r_un ?_
  | with_reducible refine G.r_tB ?_
  | with_reducible refine G.r_exbl ?_
  | with_reducible refine G.r_exbl' ?_
  | with_reducible refine G.r_chain ?_
  | with_reducible refine G.r_orT ?_
  | with_reducible refine G.r_andT ?_
  | with_reducible refine G.r_notT ?_
  | with_reducible refine G.r_nx ?_
  | with_reducible refine G.r_tr ?_
  | with_reducible refine G.r_for ?_
  | with_reducible refine G.r_iRng1 ?_
  | with_reducible refine G.r_iRng2 ?_
  | with_reducible refine G.r_iTup ?_
  | with_reducible refine G.r_gIt ?_
  | ((with_reducible refine' G.w_rng1 ?k1 ?_); (case k1 => first | decide | omega | (simp only [List.length_map]; omega)))
  | ((with_reducible refine' G.w_rng2 ?k1 ?_); (case k1 => first | decide | omega | (simp only [List.length_map]; omega)))
  | ((with_reducible refine' G.w_tup ?k1 ?_); (case k1 => first | assumption | exact L2.SqT.of (by walk_at "hp")))
  | ((with_reducible refine' G.w_itL ?k1 ?_); (case k1 => first | assumption | exact L2.SqL.of (by walk_at "hp")))
  | ((with_reducible refine' G.w_itT ?k1 ?_); (case k1 => first | assumption | exact L2.SqT.of (by walk_at "hp")))
  | with_reducible refine G.w_itS ?_
  | with_reducible refine G.r_retN ?_
  | with_reducible refine G.r_sl ?_
  | with_reducible refine G.r_nopart ?_
  | with_reducible refine G.r_part ?_
  | with_reducible refine G.r_exint ?_
  | with_reducible refine G.r_yes ?_
  | with_reducible refine G.r_lc ?_
  | with_reducible refine G.b_str ?_
  | ((with_reducible refine' G.b_lst ?k1 ?_); (case k1 => walk_at "hp"))
  | with_reducible refine G.t_bl ?_
  | with_reducible refine G.t_int ?_
  | with_reducible refine G.t_non ?_
  | ((with_reducible refine' G.t_str ?k1 ?_); (case k1 => walk_at "sz"))
  | ((with_reducible refine' G.t_lst ?k1 ?_); (case k1 => walk_at "hp"))
  | walk_at "v1"
  | walk_at "i1")
local macro_rules | `(tactic| walk_at "v1") => `(tactic| first
  | with_reducible refine G.v_addI ?_
  | ((with_reducible refine' G.v_addS ?k1 ?_); (case k1 => walk_at "sz"))
  | with_reducible refine G.v_sub ?_
  | ((with_reducible refine' G.v_mul ?k1 ?_); (case k1 => first | exact Or.inr (by decide) | exact Or.inl (by decide) | (unfold L2.CMul; omega)))
  | ((with_reducible refine' G.v_div ?k1 ?_); (case k1 => first | exact ⟨by decide, by decide⟩ | exact ⟨by omega, by omega⟩))
  | ((with_reducible refine' G.v_mod ?k1 ?_); (case k1 => first | decide | omega))
  | ((with_reducible refine' G.v_pow ?k1 ?_); (case k1 => exact ⟨by decide, by decide, by decide⟩))
  | with_reducible refine G.v_ltI ?_
  | with_reducible refine G.v_leI ?_
  | with_reducible refine G.v_gt ?_
  | with_reducible refine G.v_ge ?_
  | with_reducible refine G.v_eqI ?_
  | with_reducible refine G.v_eqS ?_
  | with_reducible refine G.v_eqB ?_
  | with_reducible refine G.v_neI ?_
  | with_reducible refine G.v_neS ?_
  | with_reducible refine G.v_neB ?_
  | with_reducible refine G.v_eqN ?_
  | with_reducible refine G.v_neN ?_
  | with_reducible refine G.v_isN ?_
  | with_reducible refine G.v_isB ?_
  | with_reducible refine G.v_isI ?_
  | with_reducible refine G.v_isS ?_
  | with_reducible refine G.v_isR ?_
  | with_reducible refine G.v_isnotN ?_
  | with_reducible refine G.v_isnotB ?_
  | with_reducible refine G.v_isnotI ?_
  | with_reducible refine G.v_isnotS ?_
  | with_reducible refine G.v_isnotR ?_
  | ((with_reducible refine' G.v_ixLs ?k1 ?k2 ?_); (case k1 => assumption); (case k2 => first | rfl | assumption))
  | ((with_reducible refine' G.v_ixTs ?k1 ?k2 ?_); (case k1 => assumption); (case k2 => first | rfl | assumption))
  | ((with_reducible refine' G.v_lenLs ?k1 ?_); (case k1 => assumption))
  | ((with_reducible refine' G.v_lenTs ?k1 ?_); (case k1 => assumption))
  | ((with_reducible refine' G.v_ixL ?k1 ?k2 ?_); (case k1 => walk_at "hp"); (case k2 => first | rfl | assumption))
  | ((with_reducible refine' G.v_ixT ?k1 ?k2 ?_); (case k1 => walk_at "hp"); (case k2 => first | rfl | assumption))
  | ((with_reducible refine' G.v_ixS ?k1 ?k2 ?_); (case k1 => walk_at "sz"); (case k2 => first | rfl | assumption))
  | ((with_reducible refine' G.v_setL ?k1 ?k2 ?_); (case k1 => walk_at "hp"); (case k2 => first | rfl | assumption); dsimp only [Int.reduceToNat, List.set_cons_succ, List.set_cons_zero])
  | ((with_reducible refine' G.v_lenL ?k1 ?_); (case k1 => walk_at "hp"))
  | ((with_reducible refine' G.v_lenT ?k1 ?_); (case k1 => walk_at "hp"))
  | ((with_reducible refine' G.v_lenS ?k1 ?_); (case k1 => walk_at "sz"))
  | with_reducible refine G.v_intI ?_
  | with_reducible refine G.v_intB ?_
  | with_reducible refine G.v_min ?_
  | ((with_reducible refine' G.v_append ?k1 ?k2 ?_); (case k1 => walk_at "hp"); (case k2 => walk_at "sz"))
  | ((with_reducible refine' G.v_extend ?k1 ?k2 ?k3 ?_); (case k1 => walk_at "hp"); (case k2 => walk_at "hp"); (case k3 => walk_at "sz"))
  | ((with_reducible refine' G.v_split ?k1 ?k2 ?_); (case k1 => rfl); (case k2 => walk_at "sz"))
  | ((with_reducible refine' G.v_slL ?k1 ?_); (case k1 => walk_at "hp"))
  | ((with_reducible refine' G.v_slS ?k1 ?_); (case k1 => walk_at "sz"))
  | with_reducible refine G.v_inS ?_
  | with_reducible refine G.v_notinS ?_
  | with_reducible refine G.v_ord ?_
  | ((with_reducible refine' G.v_all ?k1 ?_); (case k1 => walk_at "hp"))
  | ((with_reducible refine' G.v_any ?k1 ?_); (case k1 => walk_at "hp"))
  | ((with_reducible refine' G.v_str ?k1 ?_); (case k1 => first | assumption | exact G.log_ok (by omega) (by omega)))
  | ((with_reducible refine' G.v_intS ?k1 ?k2 ?_); (case k1 => assumption); (case k2 => walk_at "sz"))
  | ((with_reducible refine' G.v_join ?k1 ?k2 ?_); (case k1 => walk_at "hp"); (case k2 => walk_at "sz"))
  | ((with_reducible refine' G.v_isiI ?k1 ?_); (case k1 => walk_at "kit"))
  | ((with_reducible refine' G.v_isiB ?k1 ?_); (case k1 => walk_at "kit"))
  | ((with_reducible refine' G.v_isiS ?k1 ?_); (case k1 => walk_at "kit"))
  | ((with_reducible refine' G.v_isiN ?k1 ?_); (case k1 => walk_at "kit"))
  | ((with_reducible refine' G.v_isiL ?k1 ?k2 ?_); (case k1 => assumption); (case k2 => walk_at "kit"))
  | ((with_reducible refine' G.v_isiT ?k1 ?k2 ?_); (case k1 => assumption); (case k2 => walk_at "kit"))
  | with_reducible refine G.v_ltS ?_
  | with_reducible refine G.v_leS ?_)
local macro_rules | `(tactic| walk_at "i1") => `(tactic| first
  | with_reducible refine G.i_t ?_
  | with_reducible refine G.i_f ?_
  | with_reducible refine G.i_nt ?_
  | with_reducible refine G.i_nf ?_
  | with_reducible refine G.i_nn ?_
  | ((with_reducible refine' G.i_dt ?k1 ?_); (case k1 => first | assumption | omega | decide))
  | ((with_reducible refine' G.i_df ?k1 ?_); (case k1 => first | assumption | omega | decide))
  | ((with_reducible refine' G.i_ndt ?k1 ?_); (case k1 => first | assumption | omega | decide))
  | ((with_reducible refine' G.i_ndf ?k1 ?_); (case k1 => first | assumption | omega | decide)))
local macro_rules | `(tactic| walk_at "rd") => `(tactic| repeat walk_at "r1")
local macro_rules | `(tactic| walk_at "if") => `(tactic| first
  | with_reducible refine G.i_d ?_ ?_
  | with_reducible refine G.i_nd ?_ ?_
  | with_reducible refine G.i_b ?_ ?_)
local macro_rules | `(tactic| walk_at "r1") => `(tactic| first
  | with_reducible refine G.r_callX ?_
  | with_reducible refine G.r_callH ?_
  | with_reducible refine G.r_mkX ?_
  | with_reducible refine G.r_meth ?_
  | with_reducible refine G.r_revL ?_
  | with_reducible refine G.r_try ?_
  | with_reducible refine G.r_rs ?_
  | with_reducible refine G.r_fld ?_
  | with_reducible refine G.r_sfld ?_
  | with_reducible refine G.r_lenSetT ?_)

namespace L
open PySem L2 G TL

def top (i : Nat) : Stmt := PySem.Challenge.pw_blameless_k02_interfaces.main.body.getD i (.Pass ⟨0, 0, 0, 0⟩)
abbrev s_BadText_init : Stmt := inClass (top 2) 0
theorem sc_BadText_init : FnScope ["self", "at"] ["self", "at"] (defScope s_BadText_init) := ⟨rfl, rfl, rfl, by decide +kernel, rfl, by decide +kernel, by decide +kernel⟩
abbrev s_BadInterface_init : Stmt := inClass (top 3) 0
theorem sc_BadInterface_init : FnScope ["self", "at"] ["self", "at"] (defScope s_BadInterface_init) := ⟨rfl, rfl, rfl, by decide +kernel, rfl, by decide +kernel, by decide +kernel⟩
abbrev s_Interface_init : Stmt := inClass (top 8) 0
theorem sc_Interface_init : FnScope ["self", "rows", "exports", "row", "imports", "fault"] ["self", "rows"] (defScope s_Interface_init) := ⟨rfl, rfl, rfl, by decide +kernel, rfl, by decide +kernel, by decide +kernel⟩
abbrev s_Interface_eq : Stmt := inClass (top 8) 1
theorem sc_Interface_eq : FnScope ["self", "other"] ["self", "other"] (defScope s_Interface_eq) := ⟨rfl, rfl, rfl, by decide +kernel, rfl, by decide +kernel, by decide +kernel⟩
abbrev s_Interface_size : Stmt := inClass (top 8) 2
theorem sc_Interface_size : FnScope ["self"] ["self"] (defScope s_Interface_size) := ⟨rfl, rfl, rfl, by decide +kernel, rfl, by decide +kernel, by decide +kernel⟩
abbrev s_pairs_of : Stmt := top 9
theorem sc_pairs_of : FnScope ["imports", "component", "procedure"] ["imports"] (defScope s_pairs_of) := ⟨rfl, rfl, rfl, by decide +kernel, rfl, by decide +kernel, by decide +kernel⟩
abbrev s_first_fault : Stmt := top 10
theorem sc_first_fault : FnScope ["exports", "imports", "size", "component"] ["exports", "imports"] (defScope s_first_fault) := ⟨rfl, rfl, rfl, by decide +kernel, rfl, by decide +kernel, by decide +kernel⟩
abbrev s_imports_fit : Stmt := top 11
theorem sc_imports_fit : FnScope ["component", "pairs", "exports", "pair"] ["component", "pairs", "exports"] (defScope s_imports_fit) := ⟨rfl, rfl, rfl, by decide +kernel, rfl, by decide +kernel, by decide +kernel⟩
abbrev s_import_fits : Stmt := top 12
theorem sc_import_fits : FnScope ["component", "pair", "exports", "other", "procedure"] ["component", "pair", "exports"] (defScope s_import_fits) := ⟨rfl, rfl, rfl, by decide +kernel, rfl, by decide +kernel, by decide +kernel⟩
abbrev s_l_pool : Stmt := top 14
theorem sc_l_pool : FnScope ["script", "budget"] ["script", "budget"] (defScope s_l_pool) := ⟨rfl, rfl, rfl, by decide +kernel, rfl, by decide +kernel, by decide +kernel⟩
abbrev s_l_draw : Stmt := top 15
theorem sc_l_draw : FnScope ["pool", "size", "cell", "value"] ["pool", "size"] (defScope s_l_draw) := ⟨rfl, rfl, rfl, by decide +kernel, rfl, by decide +kernel, by decide +kernel⟩
abbrev s_l_spend : Stmt := top 16
theorem sc_l_spend : FnScope ["pool"] ["pool"] (defScope s_l_spend) := ⟨rfl, rfl, rfl, by decide +kernel, rfl, by decide +kernel, by decide +kernel⟩
abbrev s_l_few : Stmt := top 17
theorem sc_l_few : FnScope ["pool", "most", "few"] ["pool", "most"] (defScope s_l_few) := ⟨rfl, rfl, rfl, by decide +kernel, rfl, by decide +kernel, by decide +kernel⟩
abbrev s_l_number : Stmt := top 18
theorem sc_l_number : FnScope ["pool"] ["pool"] (defScope s_l_number) := ⟨rfl, rfl, rfl, by decide +kernel, rfl, by decide +kernel, by decide +kernel⟩
abbrev s_l_same : Stmt := top 19
theorem sc_l_same : FnScope ["actual", "due", "k"] ["actual", "due"] (defScope s_l_same) := ⟨rfl, rfl, rfl, by decide +kernel, rfl, by decide +kernel, by decide +kernel⟩
abbrev s_l_rows : Stmt := top 20
theorem sc_l_rows : FnScope ["pool", "most", "size", "exports", "k", "rows", "imports", "other", "procedure"] ["pool", "most"] (defScope s_l_rows) := ⟨rfl, rfl, rfl, by decide +kernel, rfl, by decide +kernel, by decide +kernel⟩
abbrev s_l_fits : Stmt := top 21
theorem sc_l_fits : FnScope ["rows", "at", "exported", "imports", "k", "component", "procedure"] ["rows", "at"] (defScope s_l_fits) := ⟨rfl, rfl, rfl, by decide +kernel, rfl, by decide +kernel, by decide +kernel⟩
abbrev s_l_bad : Stmt := top 22
theorem sc_l_bad : FnScope ["rows", "k"] ["rows"] (defScope s_l_bad) := ⟨rfl, rfl, rfl, by decide +kernel, rfl, by decide +kernel, by decide +kernel⟩
abbrev s_l_drawn_rows : Stmt := top 23
theorem sc_l_drawn_rows : FnScope ["pool", "rows", "way", "place", "exported", "imports", "k"] ["pool"] (defScope s_l_drawn_rows) := ⟨rfl, rfl, rfl, by decide +kernel, rfl, by decide +kernel, by decide +kernel⟩
abbrev s_l_unlike : Stmt := top 24
theorem sc_l_unlike : FnScope ["rows", "made", "k", "exported", "imports", "other", "changes", "component", "procedure", "changed"] ["rows", "made"] (defScope s_l_unlike) := ⟨rfl, rfl, rfl, by decide +kernel, rfl, by decide +kernel, by decide +kernel⟩
abbrev s_law : Stmt := top 25
theorem sc_law : FnScope ["script", "pool", "rows", "passed", "row", "bad", "made", "e", "due"] ["script"] (defScope s_law) := ⟨rfl, rfl, rfl, by decide +kernel, rfl, by decide +kernel, by decide +kernel⟩
structure Top (K : PySem.W.Frag) (mg : Str → Option Value) : Prop where
  f_pairs_of : FunAt K mg "pairs_of" "pairs_of" s_pairs_of
  f_first_fault : FunAt K mg "first_fault" "first_fault" s_first_fault
  f_imports_fit : FunAt K mg "imports_fit" "imports_fit" s_imports_fit
  f_import_fits : FunAt K mg "import_fits" "import_fits" s_import_fits
  f_l_pool : FunAt K mg "_law_pool" "_law_pool" s_l_pool
  f_l_draw : FunAt K mg "_law_draw" "_law_draw" s_l_draw
  f_l_same : FunAt K mg "_law_same" "_law_same" s_l_same
  f_l_rows : FunAt K mg "_law_rows" "_law_rows" s_l_rows
  f_l_fits : FunAt K mg "_law_fits" "_law_fits" s_l_fits
  f_l_bad : FunAt K mg "_law_bad" "_law_bad" s_l_bad
  f_l_drawn_rows : FunAt K mg "_law_drawn_rows" "_law_drawn_rows" s_l_drawn_rows
  f_l_unlike : FunAt K mg "_law_unlike" "_law_unlike" s_l_unlike
  f_law : FunAt K mg "law" "law" s_law
  c_MOST_COMPONENTS : ∃ t, mg "MOST_COMPONENTS" = some (.int 8 t)
  c_MOST_EXPORTS : ∃ t, mg "MOST_EXPORTS" = some (.int 8 t)
  c_MOST_IMPORTS : ∃ t, mg "MOST_IMPORTS" = some (.int 8 t)
  b_all : mg "all" = none
  b_bool : mg "bool" = none
  b_int : mg "int" = none
  b_isinstance : mg "isinstance" = none
  b_len : mg "len" = none
  b_list : mg "list" = none
  b_range : mg "range" = none
  b_set : mg "set" = none
  b_str : mg "str" = none
  b_tuple : mg "tuple" = none
structure Cs where
  BlameError : Addr
  BadText : Addr
  BadInterface : Addr
  Interface : Addr
structure Txt (K : PySem.W.Frag) (mg : Str → Option Value) (C : Cs) : Prop where
  n_BlameError : mg "BlameError" = some (.ref C.BlameError)
  b_BlameError : ExB K C.BlameError
  n_BadText : mg "BadText" = some (.ref C.BadText)
  e_BadText : ExK K C.BadText
  m_BadText_init : MetAt K C.BadText "__init__" "BadText.__init__" s_BadText_init
  a_BadText_at : PySem.W.findIn K (.ref C.BadText) "at" = some none
  n_BadInterface : mg "BadInterface" = some (.ref C.BadInterface)
  e_BadInterface : ExK K C.BadInterface
  m_BadInterface_init : MetAt K C.BadInterface "__init__" "BadInterface.__init__" s_BadInterface_init
  a_BadInterface_at : PySem.W.findIn K (.ref C.BadInterface) "at" = some none
  n_Interface : mg "Interface" = some (.ref C.Interface)
  k_Interface : ClK K C.Interface
  m_Interface_init : MetAt K C.Interface "__init__" "Interface.__init__" s_Interface_init
  m_Interface_eq : MetAt K C.Interface "__eq__" "Interface.__eq__" s_Interface_eq
  m_Interface_size : MetAt K C.Interface "size" "Interface.size" s_Interface_size
  a_Interface_exports : PySem.W.findIn K (.ref C.Interface) "exports" = some none
  a_Interface_imports : PySem.W.findIn K (.ref C.Interface) "imports" = some none
  x_BadText_BlameError : PySem.W.exmOne K (.ref C.BadText) (.ref C.BlameError) = some true
  q_BadText_BadInterface : PySem.W.kitOne K (.ref C.BadText) (.ref C.BadInterface) = some false
  q_BadText_BadText : PySem.W.kitOne K (.ref C.BadText) (.ref C.BadText) = some true
  x_BadInterface_BlameError : PySem.W.exmOne K (.ref C.BadInterface) (.ref C.BlameError) = some true
  q_BadInterface_BadInterface : PySem.W.kitOne K (.ref C.BadInterface) (.ref C.BadInterface) = some true
  q_BadInterface_BadText : PySem.W.kitOne K (.ref C.BadInterface) (.ref C.BadText) = some false
/-! ### the pool of draws: it stands at p, its list of the script's numbers somewhere -/
def PoolAt (H : Hp) (p sc : Addr) : Prop := ∃ (a b c d e : Int) (ns : List Int), H p = some (.lst [.ref sc, .int a, .int b, .int c, .int d, .int e]) ∧ H sc = some (.lst (ns.map V.int)) ∧ 0 ≤ a
theorem PoolAt.upd {H : Hp} {p sc q : Addr} {o : HO} (h : PoolAt H p sc) (n1 : q ≠ p) (n2 : q ≠ sc) : PoolAt (upd H q o) p sc := by
  obtain ⟨a, b, c, d, e, ns, hp, hs, ha⟩ := h
  exact ⟨a, b, c, d, e, ns, by rw [upd_ne n1.symm]; exact hp, by rw [upd_ne n2.symm]; exact hs, ha⟩
theorem PoolAt.ne {H : Hp} {p sc q : Addr} (h : PoolAt H p sc) (n : H q = none) : p ≠ q := by
  obtain ⟨a, b, c, d, e, ns, hp, hs, ha⟩ := h
  exact ne_of_none hp n
theorem PoolAt.ne' {H : Hp} {p sc q : Addr} (h : PoolAt H p sc) (n : H q = none) : sc ≠ q := by
  obtain ⟨a, b, c, d, e, ns, hp, hs, ha⟩ := h
  exact ne_of_none hs n
theorem PoolAt.laid {H : Hp} {p sc q : Addr} {o : HO} (h : PoolAt H p sc) (n : H q = none) : PoolAt (L2.upd H q o) p sc := h.upd (h.ne n).symm (h.ne' n).symm
theorem PoolAt.same {H H' : Hp} {p sc : Addr} (h : PoolAt H p sc) (s : Same H H') : PoolAt H' p sc := by
  obtain ⟨a, b, c, d, e, ns, hp, hs, ha⟩ := h
  exact ⟨a, b, c, d, e, ns, s _ _ hp, s _ _ hs, ha⟩
/-- all but the object p stays -/
def But (p : Addr) (H H' : Hp) : Prop := ∀ b, b ≠ p → H' b = H b
theorem But.refl (p : Addr) (H : Hp) : But p H H := fun _ _ => rfl
theorem But.trans {p : Addr} {H H1 H2 : Hp} (a : But p H H1) (b : But p H1 H2) : But p H H2 := fun q h => (b q h).trans (a q h)
theorem But.upd {p : Addr} {H H' : Hp} {o : HO} (a : But p H H') : But p H (upd H' p o) := fun q h => (upd_ne h).trans (a q h)
def sp_l_pool (K : PySem.W.Frag) : Sp := fun vs H Q _ => ∃ (a : Addr) (ns : List Int) (n : Int), vs = [.ref a, .int n] ∧ SqL K H a (ns.map V.int) ∧ ∀ p sc H', H p = none → H sc = none → Same H H' → PoolAt H' p sc → Q (.ref p) H'
def sp_l_draw : Sp := fun vs H Q _ => ∃ (p sc : Addr) (n : Int), vs = [.ref p, .int n] ∧ PoolAt H p sc ∧ (0 < n ∧ n < 1073741824) ∧ ∀ r H', PoolAt H' p sc → But p H H' → 0 ≤ r → r < n → Q (.int r) H'
def sp_l_few : Sp := fun vs H Q _ => ∃ (p sc : Addr) (n : Int), vs = [.ref p, .int n] ∧ PoolAt H p sc ∧ (0 ≤ n ∧ n < 1073741823) ∧ ∀ r H', PoolAt H' p sc → But p H H' → 0 ≤ r → r ≤ n → Q (.int r) H'
def sp_l_number : Sp := fun vs H Q _ => ∃ (p sc : Addr), vs = [.ref p] ∧ PoolAt H p sc ∧ ∀ r H', PoolAt H' p sc → But p H H' → 0 ≤ r → r < 65536 → Q (.int r) H'
def sp_l_spend : Sp := fun vs H Q _ => ∃ (p sc : Addr), vs = [.ref p] ∧ PoolAt H p sc ∧ ∀ b H', PoolAt H' p sc → But p H H' → Q (.bl b) H'
inductive Da (K : PySem.W.Frag) (H : Hp) : Nat → V → V → Prop
  | non {n : Nat} : Da K H (n + 1) .non .non
  | bl {n : Nat} (b : Bool) : Da K H (n + 1) (.bl b) (.bl b)
  | int {n : Nat} (i : Int) : Da K H (n + 1) (.int i) (.int i)
  | str {n : Nat} (z : Str) : Da K H (n + 1) (.str z) (.str z)
  | lst {n : Nat} {a b : Addr} {xs ys : List V} : SqL K H a xs → SqL K H b ys → xs.length = ys.length → xs.length ≤ 1000000 → (∀ (i : Nat) x y, xs[i]? = some x → ys[i]? = some y → Da K H n x y) → Da K H (n + 1) (.ref a) (.ref b)
  | tup {n : Nat} {a b : Addr} {xs ys : List V} : SqT K H a xs → SqT K H b ys → xs.length = ys.length → xs.length ≤ 1000000 → (∀ (i : Nat) x y, xs[i]? = some x → ys[i]? = some y → Da K H n x y) → Da K H (n + 1) (.ref a) (.ref b)
def sp_l_same (K : PySem.W.Frag) (n : Nat) : Sp := fun vs H Q _ => ∃ x y, vs = [x, y] ∧ Da K H n x y ∧ Q (.bl true) H
theorem ne_pool {H : Hp} {sc p : Addr} {ns : List Int} {q : Addr} {vs : List V} (hs : H sc = some (.lst (ns.map V.int))) (hp : H p = some (.lst (.ref q :: vs))) : sc ≠ p := ne_of hs hp (by
  intro q
  injection q with q
  cases ns with
  | nil => cases q
  | cons z zs =>
    rw [List.map_cons] at q
    injection q with q1 _
    cases q1)
theorem atI_int {ns : List Int} {i : Int} (h0 : 0 ≤ i) (h : i < ((ns.map V.int).length : Int)) : ∃ z, atI (ns.map V.int) i = some (.int z) := by
  have hl : i.toNat < ns.length := by rw [List.length_map] at h; omega
  refine ⟨ns[i.toNat], ?_⟩
  have q : atI (ns.map V.int) ((i.toNat : Nat) : Int) = some (.int ns[i.toNat]) := atI_nat (by rw [List.getElem?_map, List.getElem?_eq_getElem hl]; rfl)
  rwa [Int.toNat_of_nonneg h0] at q
section
variable {P : Program} {w : World} {K : PySem.W.Frag} {mg : Str → Option Value} {base : Heap}
theorem ok_l_pool (T : Top K mg) : Cal P w K mg base CX0 1 "_law_pool" ["script", "budget"] (sp_l_pool K) := by
  refine def_ok T.f_l_pool sc_l_pool (fun _ _ _ _ _ _ us hl => match us, hl with | [_, _], _ => rfl) (fun vs H Q E h => ?_) (fun f cdv A outer s H vs Q E hr h => ?_)
  · obtain ⟨a, ns, n, rfl, _⟩ := h
    rfl
  · obtain ⟨a, ns, n, rfl, hS, k⟩ := h
    refine ⟨_, (pss_one (ps_ret (pe_lst (pa_cons (pe_callTy (g_list (K := K)) (by rfl) T.b_list (by decide +kernel) (pa_cons (pv 0) pa_nil)) (pa_cons pe_int (pa_cons pe_int (pa_cons pe_int (pa_cons pe_int (pa_cons (pv 1) pa_nil))))))))), ?_⟩
    walk_at "rd"
    refine ⟨a, _, rfl, .inl hS, fun l hl => ?_⟩
    walk_at "rd"
    refine ⟨by walk_at "sz", fun p hp => ?_⟩
    have npl : l ≠ p := ne_of_none upd_same hp
    have hp0 : H p = none := by rw [upd_ne npl.symm] at hp; exact hp
    refine k p l _ hp0 hl ?_ ⟨0, 0, 1, 0, n, ns, upd_same, by rw [upd_ne npl, upd_same], by decide⟩
    exact Same.laid (Same.laid (Same.refl H) hl) hp
theorem ok_l_draw (T : Top K mg) : Cal P w K mg base CX0 1 "_law_draw" ["pool", "size"] sp_l_draw := by
  refine def_ok T.f_l_draw sc_l_draw (fun _ _ _ _ _ _ us hl => match us, hl with | [_, _], _ => rfl) (fun vs H Q E h => ?_) (fun f cdv A outer s H vs Q E hr h => ?_)
  · obtain ⟨p, sc, n, rfl, _⟩ := h
    rfl
  · obtain ⟨p, sc, n, rfl, ⟨a, b, c, d, e, ns, hp, hs, ha⟩, ⟨hn, hn2⟩, k⟩ := h
    have nsp : sc ≠ p := ne_pool hs hp
    refine ⟨_, (pss_cut (ps_if (PW.pt (pw_and (pt_cmpR g_le (pe_ix (g_ix (K := K)) (pv 0) pe_int (fun _ _ => rfl)) pe_int (nomark _)) (pw_and (pt_cmpR g_le (pe_ix (g_ix (K := K)) (pv 0) pe_int (fun _ _ => rfl)) pe_int (nomark _)) (pw_and1 (pt_cmpR g_lt (pe_ix (g_ix (K := K)) (pv 0) pe_int (fun _ _ => rfl)) (pe_callB (g_len (K := K)) (by rfl) T.b_len PySem.boot_len (pa_cons (pe_ix (g_ix (K := K)) (pv 0) pe_int (fun _ _ => rfl)) pa_nil)) (nomark _))))))
  (pss_cons (ps_set (i := 2) sc_l_draw.nd rfl (by first | exact Or.inl rfl | exact Or.inr rfl) (pe_ix (g_ix (K := K)) (pe_ix (g_ix (K := K)) (pv 0) pe_int (fun _ _ => rfl)) (pe_ix (g_ix (K := K)) (pv 0) pe_int (fun _ _ => rfl)) (fun _ _ => rfl)))
    (pss_cons (ps_asg (pe_op (g_add (K := K)) (pe_ix (g_ix (K := K)) (pv 0) pe_int (fun _ _ => rfl)) pe_int) (pg_sub (pv 0) pe_int set_list))
    (pss_cons (ps_asg (pe_op g_mod (pe_callTy g_int (by rfl) T.b_int (by decide +kernel) (pa_cons (pe_op (g_add (K := K)) (pe_op g_mul (pe_ix (g_ix (K := K)) (pv 0) pe_int (fun _ _ => rfl)) pe_int) (pv 2)) pa_nil)) pe_int) (pg_sub (pv 0) pe_int set_list))
    (pss_cons (ps_asg pe_int (pg_sub (pv 0) pe_int set_list))
    (pss_one (ps_if (pt_cmpR g_ge (pv 2) (pe_op g_pow pe_int pe_int) (nomark _))
    (pss_one (ps_asg (pv 2) (pg_sub (pv 0) pe_int set_list)))
    pss_nil))))))
  pss_nil)
  (pss_cons (ps_if (pt_cmpR g_gt (pe_ix (g_ix (K := K)) (pv 0) pe_int (fun _ _ => rfl)) pe_int (nomark _))
  (pss_cons (ps_set (i := 3) sc_l_draw.nd rfl (by first | exact Or.inl rfl | exact Or.inr rfl) (pe_op g_mod (pe_callTy g_int (by rfl) T.b_int (by decide +kernel) (pa_cons (pe_ix (g_ix (K := K)) (pv 0) pe_int (fun _ _ => rfl)) pa_nil)) (pv 1)))
    (pss_cons (ps_asg (pe_op g_div (pe_ix (g_ix (K := K)) (pv 0) pe_int (fun _ _ => rfl)) (pv 1)) (pg_sub (pv 0) pe_int set_list))
    (pss_cons (ps_asg pe_int (pg_sub (pv 0) pe_int set_list))
    (pss_one (ps_ret (pv 3))))))
  pss_nil)
  (pss_cons (ps_asg (pe_op g_sub (pe_ix (g_ix (K := K)) (pv 0) pe_int (fun _ _ => rfl)) pe_int) (pg_sub (pv 0) pe_int set_list))
  (pss_cons (ps_asg (pe_op g_mod (pe_callTy g_int (by rfl) T.b_int (by decide +kernel) (pa_cons (pe_op (g_add (K := K)) (pe_op g_mul (pe_ix (g_ix (K := K)) (pv 0) pe_int (fun _ _ => rfl)) pe_int) pe_int) pa_nil)) pe_int) (pg_sub (pv 0) pe_int set_list))
  (pss_one (ps_ret (pe_op g_mod (pe_op g_mod (pe_callTy g_int (by rfl) T.b_int (by decide +kernel) (pa_cons (pe_op (g_add (K := K)) (pe_op g_mul (pe_ix (g_ix (K := K)) (pv 0) pe_int (fun _ _ => rfl)) pe_int) pe_int) pa_nil)) pe_int) (pv 1)))))))), ?_⟩
    refine G.r_cut (fun σ H2 => ∃ v2, σ = [some (.ref p), some (.int n), v2, none] ∧ PoolAt H2 p sc ∧ But p H H2) ?_ ?_
    · have skip : ∃ v2, ([some (.ref p), some (.int n), none, none] : L2.St) = [some (.ref p), some (.int n), v2, none] ∧ PoolAt H p sc ∧ But p H H := ⟨none, rfl, ⟨a, b, c, d, e, ns, hp, hs, ha⟩, But.refl p H⟩
      walk_at "rd"
      refine G.i_d (fun h1 => ?_) (fun h1 => ?_)
      · walk_at "rd"
        refine G.i_d (fun h2 => ?_) (fun h2 => ?_)
        · walk_at "rd"
          refine G.i_d (fun h3 => ?_) (fun h3 => ?_)
          · obtain ⟨z, hz⟩ := atI_int ha h3
            walk_at "rd"
            refine G.i_d (fun h4 => ?_) (fun h4 => ?_)
            · walk_at "rd"
              exact ⟨_, rfl, ⟨_, _, _, _, _, ns, upd_same, by rw [upd_ne nsp, upd_ne nsp, upd_ne nsp, upd_ne nsp]; exact hs, by omega⟩, (((But.refl p H).upd.upd).upd).upd⟩
            · walk_at "rd"
              exact ⟨_, rfl, ⟨_, _, _, _, _, ns, upd_same, by rw [upd_ne nsp, upd_ne nsp, upd_ne nsp]; exact hs, by omega⟩, (((But.refl p H).upd.upd).upd)⟩
          · walk_at "rd"; exact skip
        · walk_at "rd"; exact skip
      · walk_at "rd"; exact skip
    · rintro σ H2 ⟨v2, rfl, ⟨a, b, c, d, e, ns, hp, hs, ha⟩, hb⟩
      have nsp : sc ≠ p := ne_pool hs hp
      walk_at "rd"
      refine G.i_d (fun h1 => ?_) (fun h1 => ?_)
      · walk_at "rd"
        exact k _ _ ⟨_, _, _, _, _, ns, upd_same, by rw [upd_ne nsp, upd_ne nsp]; exact hs, ha⟩ hb.upd.upd (Int.emod_nonneg _ (by omega)) (Int.emod_lt_of_pos _ hn)
      · walk_at "rd"
        exact k _ _ ⟨_, _, _, _, _, ns, upd_same, by rw [upd_ne nsp, upd_ne nsp]; exact hs, ha⟩ hb.upd.upd (Int.emod_nonneg _ (by omega)) (Int.emod_lt_of_pos _ hn)
/-! ### two values that are the same data, to the depth n -/
theorem ok_l_same (T : Top K mg) : ∀ n, Cal P w K mg base CX0 n "_law_same" ["actual", "due"] (sp_l_same K n)
  | 0 => def_none T.f_l_same (fun _ _ _ _ _ _ us hl => match us, hl with | [_, _], _ => rfl) fun vs H Q E ⟨x, y, _, h, _⟩ => by cases h
  | n + 1 => by
    have IH := ok_l_same T n
    refine def_ok T.f_l_same sc_l_same (fun _ _ _ _ _ _ us hl => match us, hl with | [_, _], _ => rfl) (fun vs H Q E h => ?_) (fun f cdv A outer s H vs Q E hr h => ?_)
    · obtain ⟨x, y, rfl, _⟩ := h
      rfl
    · obtain ⟨x, y, rfl, h, k⟩ := h
      refine ⟨_, (pss_cons (ps_if (PW.pt (pw_or (g_truth (K := K) (pe_callB (g_isi (K := K)) (by rfl) T.b_isinstance (by decide +kernel) (pa_cons (pv 1) (pa_cons (pe_bltn (v := .ty "tuple") (by rfl) T.b_tuple (by decide +kernel) rfl) pa_nil))) (by intro _; rfl)) (pw_or1 (g_truth (K := K) (pe_callB (g_isi (K := K)) (by rfl) T.b_isinstance (by decide +kernel) (pa_cons (pv 1) (pa_cons (pe_bltn (v := .ty "list") (by rfl) T.b_list (by decide +kernel) rfl) pa_nil))) (by intro _; rfl)))))
  (pss_cons (ps_if (PW.pt (pw_or (pt_cmpR g_ne (pe_callB (g_isi (K := K)) (by rfl) T.b_isinstance (by decide +kernel) (pa_cons (pv 1) (pa_cons (pe_bltn (v := .ty "tuple") (by rfl) T.b_tuple (by decide +kernel) rfl) pa_nil))) (pe_callB (g_isi (K := K)) (by rfl) T.b_isinstance (by decide +kernel) (pa_cons (pv 0) (pa_cons (pe_bltn (v := .ty "tuple") (by rfl) T.b_tuple (by decide +kernel) rfl) pa_nil))) (nomark _)) (pw_or1 (pt_cmpR g_ne (pe_callB (g_isi (K := K)) (by rfl) T.b_isinstance (by decide +kernel) (pa_cons (pv 1) (pa_cons (pe_bltn (v := .ty "list") (by rfl) T.b_list (by decide +kernel) rfl) pa_nil))) (pe_callB (g_isi (K := K)) (by rfl) T.b_isinstance (by decide +kernel) (pa_cons (pv 0) (pa_cons (pe_bltn (v := .ty "list") (by rfl) T.b_list (by decide +kernel) rfl) pa_nil))) (nomark _)))))
    (pss_one (ps_ret pe_bl))
    pss_nil)
    (pss_cons (ps_if (pt_cmpR g_ne (pe_callB (g_len (K := K)) (by rfl) T.b_len PySem.boot_len (pa_cons (pv 0) pa_nil)) (pe_callB (g_len (K := K)) (by rfl) T.b_len PySem.boot_len (pa_cons (pv 1) pa_nil)) (nomark _))
    (pss_one (ps_ret pe_bl))
    pss_nil)
    (pss_cons (ps_for PassesOwn.never rfl (pi_range1 rfl T.b_range (pa_cons (pe_callB (g_len (K := K)) (by rfl) T.b_len PySem.boot_len (pa_cons (pv 1) pa_nil)) pa_nil)) (pg_name (i := 2) sc_l_same.nd rfl (by first | exact Or.inl rfl | exact Or.inr rfl))
    (pss_one (ps_if (pt_not (g_truth (K := K) (g_call IH hr (by rfl) pass0 (pa_cons (pe_ix (g_ix (K := K)) (pv 0) (pv 2) (fun _ _ => rfl)) (pa_cons (pe_ix (g_ix (K := K)) (pv 1) (pv 2) (fun _ _ => rfl)) pa_nil))) (by intro _; rfl)))
      (pss_one (ps_ret pe_bl))
      pss_nil)))
    (pss_one (ps_ret pe_bl)))))
  pss_nil)
  (pss_cons (ps_if (PW.pt (pw_or (pt_cmpR g_is (pv 1) pe_non (nomark _)) (pw_or1 (g_truth (K := K) (pe_callB (g_isi (K := K)) (by rfl) T.b_isinstance (by decide +kernel) (pa_cons (pv 1) (pa_cons (pe_bltn (v := .ty "bool") (by rfl) T.b_bool (by decide +kernel) rfl) pa_nil))) (by intro _; rfl)))))
  (pss_one (ps_ret (g_andT (K := K) (pe_cmpR g_eq (pe_cmpR g_is (pv 0) pe_non (nomark _)) (pe_cmpR g_is (pv 1) pe_non (nomark _)) (nomark _)) (g_andT (K := K) (g_orT (K := K) (pe_cmpR g_is (pv 1) pe_non (nomark _)) (pe_one (pe_callB (g_isi (K := K)) (by rfl) T.b_isinstance (by decide +kernel) (pa_cons (pv 0) (pa_cons (pe_bltn (v := .ty "bool") (by rfl) T.b_bool (by decide +kernel) rfl) pa_nil))))) (pe_one (pe_cmpR g_eq (pv 0) (pv 1) (nomark _)))))))
  pss_nil)
  (pss_cons (ps_if (g_truth (K := K) (pe_callB (g_isi (K := K)) (by rfl) T.b_isinstance (by decide +kernel) (pa_cons (pv 1) (pa_cons (pe_bltn (v := .ty "int") (by rfl) T.b_int (by decide +kernel) rfl) pa_nil))) (by intro _; rfl))
  (pss_one (ps_ret (g_andT (K := K) (pe_callB (g_isi (K := K)) (by rfl) T.b_isinstance (by decide +kernel) (pa_cons (pv 0) (pa_cons (pe_bltn (v := .ty "int") (by rfl) T.b_int (by decide +kernel) rfl) pa_nil))) (g_andT (K := K) (g_notT (K := K) (pe_callB (g_isi (K := K)) (by rfl) T.b_isinstance (by decide +kernel) (pa_cons (pv 0) (pa_cons (pe_bltn (v := .ty "bool") (by rfl) T.b_bool (by decide +kernel) rfl) pa_nil)))) (pe_one (pe_cmpR g_eq (pv 0) (pv 1) (nomark _)))))))
  pss_nil)
  (pss_one (ps_ret (g_andT (K := K) (pe_callB (g_isi (K := K)) (by rfl) T.b_isinstance (by decide +kernel) (pa_cons (pv 0) (pa_cons (pe_bltn (v := .ty "str") (by rfl) T.b_str (by decide +kernel) rfl) pa_nil))) (pe_one (pe_cmpR g_eq (pv 0) (pv 1) (nomark _))))))))), ?_⟩
      cases h with
      | non => walk_at "rd"; exact k
      | bl b => walk_at "rd"; simpa using k
      | int i => walk_at "rd"; simpa using k
      | str z => walk_at "rd"; simpa using k
      | @lst _ a b xs ys h1 h2 hl hn hi =>
        walk_at "rd"
        refine G.l_range (fun i σ H' => ∃ v, σ = [some (.ref a), some (.ref b), v] ∧ H' = H) ⟨none, rfl, rfl⟩ ?_ ?_
        · rintro i σ' H' hlt ⟨v, rfl, rfl⟩
          have hx : i < xs.length := by omega
          have hy : i < ys.length := by omega
          have ax : atI xs (i : Int) = some xs[i] := atI_nat (List.getElem?_eq_getElem hx)
          have ay : atI ys (i : Int) = some ys[i] := atI_nat (List.getElem?_eq_getElem hy)
          walk_at "rd"
          refine ⟨_, _, rfl, hi i _ _ (List.getElem?_eq_getElem hx) (List.getElem?_eq_getElem hy), ?_⟩
          walk_at "rd"
          exact ⟨_, rfl, rfl⟩
        · rintro σ' H' ⟨v, rfl, rfl⟩
          walk_at "rd"
          exact k
      | @tup _ a b xs ys h1 h2 hl hn hi =>
        walk_at "rd"
        refine G.l_range (fun i σ H' => ∃ v, σ = [some (.ref a), some (.ref b), v] ∧ H' = H) ⟨none, rfl, rfl⟩ ?_ ?_
        · rintro i σ' H' hlt ⟨v, rfl, rfl⟩
          have hx : i < xs.length := by omega
          have hy : i < ys.length := by omega
          have ax : atI xs (i : Int) = some xs[i] := atI_nat (List.getElem?_eq_getElem hx)
          have ay : atI ys (i : Int) = some ys[i] := atI_nat (List.getElem?_eq_getElem hy)
          walk_at "rd"
          refine ⟨_, _, rfl, hi i _ _ (List.getElem?_eq_getElem hx) (List.getElem?_eq_getElem hy), ?_⟩
          walk_at "rd"
          exact ⟨_, rfl, rfl⟩
        · rintro σ' H' ⟨v, rfl, rfl⟩
          walk_at "rd"
          exact k
end


/-! ### the errors' __init__ -/
section
variable {P : Program} {w : World} {K : PySem.W.Frag} {mg : Str → Option Value} {base : Heap} {C : Cs}
theorem ok_BadText_init (T : Top K mg) (Z : Txt K mg C) : MCal P w K mg base CX0 1 C.BadText "__init__" ["self", "at"] (spExI C.BadText "at") := by
  refine met_ok Z.m_BadText_init sc_BadText_init (fun _ _ _ _ _ _ us hl => match us, hl with | [_, _], _ => rfl) (fun vs H Q E h => ?_) (fun f cdv A outer s H vs Q E hr h => ?_)
  · obtain ⟨a, v, rfl, _⟩ := h
    rfl
  · refine ⟨_, (pss_cons (ps_expr (pe_binit (K := K) rfl Z.b_BlameError Z.n_BlameError (by rfl) (pa_cons (pv 0) (pa_cons (pe_joined (PJ.cons pe_str (PJ.cons (pe_fmt (pv 1)) PJ.nil))) pa_nil))))
  (pss_one (ost_K (ps_ost (pv 0) (pv 1))))), ?_⟩
    exact exinit_reads Z.e_BadText Z.a_BadText_at h fun a v H R hv k => fmt2 (by decide) hv k
theorem ok_BadInterface_init (T : Top K mg) (Z : Txt K mg C) : MCal P w K mg base CX0 1 C.BadInterface "__init__" ["self", "at"] (spExI C.BadInterface "at") := by
  refine met_ok Z.m_BadInterface_init sc_BadInterface_init (fun _ _ _ _ _ _ us hl => match us, hl with | [_, _], _ => rfl) (fun vs H Q E h => ?_) (fun f cdv A outer s H vs Q E hr h => ?_)
  · obtain ⟨a, v, rfl, _⟩ := h
    rfl
  · refine ⟨_, (pss_cons (ps_expr (pe_binit (K := K) rfl Z.b_BlameError Z.n_BlameError (by rfl) (pa_cons (pv 0) (pa_cons (pe_joined (PJ.cons pe_str (PJ.cons (pe_fmt (pv 1)) PJ.nil))) pa_nil))))
  (pss_one (ost_K (ps_ost (pv 0) (pv 1))))), ?_⟩
    exact exinit_reads Z.e_BadInterface Z.a_BadInterface_at h fun a v H R hv k => fmt2 (by decide) hv k
end
/-! ### interfaces as plain data -/
abbrev pD (p : Int × Int) : PyData := .tuple [.int p.1, .int p.2]
abbrev ptD (ps : List (Int × Int)) : PyData := .tuple (ps.map pD)
abbrev psD (ps : List (Int × Int)) : PyData := .list (ps.map pD)
abbrev rD (r : Int × List (Int × Int)) : PyData := .tuple [.int r.1, psD r.2]
abbrev rsD (rs : List (Int × List (Int × Int))) : PyData := .list (rs.map rD)
abbrev imD (is : List (List (Int × Int))) : PyData := .tuple (is.map ptD)
theorem emb_p : Emb pD 1 := Emb.pair .int .int
theorem emb_pt : Emb ptD 2 := emb_p.tup
theorem emb_ps : Emb psD 2 := emb_p.list
theorem emb_r : Emb rD 3 := Emb.pair .int emb_ps
theorem emb_rs : Emb rsD 4 := emb_r.list
theorem emb_im : Emb imD 3 := emb_pt.tup
/-- a pair that fits: es the numbers of exports, c the component -/
def FitI (es : List Int) (c : Int) (p : Int × Int) : Prop := p.1 ≠ c ∧ (0 ≤ p.1 ∧ p.1 < es.length) ∧ 0 ≤ p.2 ∧ p.2 < es.getD p.1.toNat 0
instance {es : List Int} {c : Int} {p : Int × Int} : Decidable (FitI es c p) := by unfold FitI; infer_instance
def FitsI (es : List Int) (c : Int) (ps : List (Int × Int)) : Prop := ps.length ≤ 8 ∧ ps.Nodup ∧ ∀ p ∈ ps, FitI es c p
instance {es : List Int} {c : Int} {ps : List (Int × Int)} : Decidable (FitsI es c ps) := by unfold FitsI; infer_instance
def RowOk (es : List Int) (is : List (List (Int × Int))) (c : Nat) : Prop := (1 ≤ es.getD c 0 ∧ es.getD c 0 ≤ 8) ∧ FitsI es c (is.getD c [])
/-- r is the first component that does not fit -/
def IsFault (es : List Int) (is : List (List (Int × Int))) (r : Option Nat) : Prop :=
  (es.length = 0 ∧ r = some 0) ∨ (8 < es.length ∧ r = some 8) ∨ ((0 < es.length ∧ es.length ≤ 8) ∧ ((∃ i, r = some i ∧ i < es.length ∧ ¬ RowOk es is i ∧ ∀ j, j < i → RowOk es is j) ∨ (r = none ∧ ∀ j, j < es.length → RowOk es is j)))
def faultV : Option Nat → V
  | none => .non
  | some i => .int (i : Nat)
theorem atI_map {is : List Int} {i : Int} (h0 : 0 ≤ i) (h : i < (is.length : Int)) : atI (is.map V.int) i = some (.int (is.getD i.toNat 0)) := by
  have hl : i.toNat < is.length := by omega
  have q : atI (is.map V.int) ((i.toNat : Nat) : Int) = some (.int (is.getD i.toNat 0)) := atI_nat (by rw [List.getElem?_map, List.getElem?_eq_getElem hl, List.getD_eq_getElem?_getD, List.getElem?_eq_getElem hl]; rfl)
  rwa [Int.toNat_of_nonneg h0] at q
def sp_import_fits (K : PySem.W.Frag) : Sp := fun vs H Q _ => ∃ (p e : Addr) (c : Int) (es : List Int) (q : Int × Int), vs = [.int c, .ref p, .ref e] ∧ SqT K H p [.int q.1, .int q.2] ∧ SqT K H e (es.map V.int) ∧ Q (.bl (decide (FitI es c q))) H
def sp_imports_fit (K : PySem.W.Frag) : Sp := fun vs H Q _ => ∃ (p : V) (e : Addr) (c : Int) (es : List Int) (ps : List (Int × Int)), vs = [.int c, p, .ref e] ∧ Dp K H p (ptD ps) ∧ SqT K H e (es.map V.int) ∧ ∀ H', Same H H' → Q (.bl (decide (FitsI es c ps))) H'
def sp_first_fault (K : PySem.W.Frag) : Sp := fun vs H Q _ => ∃ (e : Addr) (i : V) (es : List Int) (is : List (List (Int × Int))), vs = [.ref e, i] ∧ SqT K H e (es.map V.int) ∧ Dp K H i (imD is) ∧ is.length = es.length ∧ ∀ r H', IsFault es is r → Same H H' → Q (faultV r) H'
def sp_pairs_of (K : PySem.W.Frag) : Sp := fun vs H Q _ => ∃ (a : V) (ps : List (Int × Int)), vs = [a] ∧ Dp K H a (psD ps) ∧ ps.length ≤ 1000000 ∧ ∀ p H', Same H H' → Dp K (nw H H') (.ref p) (ptD ps) → Q (.ref p) H'
theorem all_take {α : Type} {R : α → Prop} {ps : List α} {bs : List Bool} {i : Nat} {p : α} [Decidable (R p)] [Decidable (∀ x ∈ ps.take i, R x)] [Decidable (∀ x ∈ ps.take (i + 1), R x)] (h : bs.all id = decide (∀ x ∈ ps.take i, R x)) (hp : ps[i]? = some p) : (bs ++ [decide (R p)]).all id = decide (∀ x ∈ ps.take (i + 1), R x) := by
  have e : ∀ x, x ∈ ps.take (i + 1) ↔ x ∈ ps.take i ∨ x = p := fun x => by rw [List.take_add_one, hp, List.mem_append]; simp
  rw [List.all_append, h]
  simp only [List.all_cons, List.all_nil, Bool.and_true, id]
  rw [← Bool.decide_and]
  refine dec_congr ⟨fun ⟨a, b⟩ x hx => ?_, fun z => ⟨fun x hx => z x ((e x).mpr (.inl hx)), z p ((e p).mpr (.inr rfl))⟩⟩
  rcases (e x).mp hx with q | q
  · exact a x q
  · rw [q]; exact b
section
variable {P : Program} {w : World} {K : PySem.W.Frag} {mg : Str → Option Value} {base : Heap}
theorem ok_import_fits (T : Top K mg) : Cal P w K mg base CX0 1 "import_fits" ["component", "pair", "exports"] (sp_import_fits K) := by
  refine def_ok T.f_import_fits sc_import_fits (fun _ _ _ _ _ _ us hl => match us, hl with | [_, _, _], _ => rfl) (fun vs H Q E h => ?_) (fun f cdv A outer s H vs Q E hr h => ?_)
  · obtain ⟨p, e, c, es, q, rfl, _⟩ := h
    rfl
  · obtain ⟨p, e, c, es, q, rfl, hp, he, k⟩ := h
    refine ⟨_, (pss_cons (ps_asg (pv 1) (ptup_K (K := K) (pg_tup (n := 2) rfl (pgs_cons (pg_name (i := 3) sc_import_fits.nd rfl (by first | exact Or.inl rfl | exact Or.inr rfl)) (pgs_cons (pg_name (i := 4) sc_import_fits.nd rfl (by first | exact Or.inl rfl | exact Or.inr rfl)) pgs_nil)))))
  (pss_cons (ps_if (PW.pt (pw_or (pt_cmpR g_eq (pv 3) (pv 0) (nomark _)) (pw_or1 (pt_not (pt_chain g_le g_lt pe_int (pv 3) (pe_callB (g_len (K := K)) (by rfl) T.b_len PySem.boot_len (pa_cons (pv 2) pa_nil)))))))
  (pss_one (ps_ret pe_bl))
  pss_nil)
  (pss_one (ps_ret (pe_chain g_le g_lt pe_int (pv 4) (pe_ix (g_ix (K := K)) (pv 2) (pv 3) (fun _ _ => rfl))))))), ?_⟩
    walk_at "rd"
    refine v_unp2 hp ?_
    have kf : ¬ FitI es c q → Q (.bl false) H := fun n => by rw [decide_eq_false n] at k; exact k
    walk_at "rd"
    refine G.i_d (fun h1 => ?_) (fun h1 => ?_)
    · walk_at "rd"
      exact kf fun z => z.1 h1
    · walk_at "rd"
      refine G.i_d (fun h2 => ?_) (fun h2 => ?_)
      · walk_at "rd"
        rw [List.length_map]
        refine G.i_nd (fun h3 => ?_) (fun h3 => ?_)
        · walk_at "rd"
          exact kf fun z => h3 z.2.1.2
        · have ha := atI_map h2 h3
          walk_at "rd"
          refine G.i_d (fun h4 => ?_) (fun h4 => ?_)
          · walk_at "rd"
            have e : decide (q.2 < es.getD q.1.toNat 0) = decide (FitI es c q) := dec_congr ⟨fun z => ⟨h1, ⟨h2, h3⟩, h4, z⟩, fun z => z.2.2.2⟩
            rw [e]
            exact k
          · exact kf fun z => h4 z.2.2.1
      · walk_at "rd"
        exact kf fun z => h2 z.2.1.1
theorem ok_imports_fit (T : Top K mg) : Cal P w K mg base CX0 2 "imports_fit" ["component", "pairs", "exports"] (sp_imports_fit K) := by
  refine def_ok T.f_imports_fit sc_imports_fit (fun _ _ _ _ _ _ us hl => match us, hl with | [_, _, _], _ => rfl) (fun vs H Q E h => ?_) (fun f cdv A outer s H vs Q E hr h => ?_)
  · obtain ⟨p, e, c, es, ps, rfl, _⟩ := h
    rfl
  · obtain ⟨p, e, c, es, ps, rfl, hp, he, k⟩ := h
    obtain ⟨a, ks, rfl, ha, hk, hks⟩ := pairs_tup hp
    have hl : ks.length = ps.length := by have := congrArg List.length hk; rwa [List.length_map, List.length_map] at this
    have kf : ¬ FitsI es c ps → Q (.bl false) H := fun n => by have := k H (Same.refl H); rw [decide_eq_false n] at this; exact this
    refine ⟨_, (pss_cons (ps_if (PW.pt (pw_or (pt_cmpR g_gt (pe_callB (g_len (K := K)) (by rfl) T.b_len PySem.boot_len (pa_cons (pv 1) pa_nil)) (g_cint T.c_MOST_IMPORTS rfl) (nomark _)) (pw_or1 (pt_cmpR g_lt (pe_lenSetT (K := K) rfl (by rfl) T.b_len (by rfl) T.b_set (un64 hr) (pv 1)) (pe_callB (g_len (K := K)) (by rfl) T.b_len PySem.boot_len (pa_cons (pv 1) pa_nil)) (nomark _)))))
  (pss_one (ps_ret pe_bl))
  pss_nil)
  (pss_one (ps_ret (pe_callB (g_all rfl (K := K)) (by rfl) T.b_all (by decide +kernel) (pa_cons (pe_lc (own := [("pair", 3)]) rfl sc_imports_fit.nd (g_it (K := K) (pv 1)) (blkOk_by (own := [("pair", 3)]) (N := ["component", "pairs", "exports", "pair"]) (sc := defScope s_imports_fit) (by decide +kernel)) (fun _ _ _ _ _ => (pg_name (i := 3) sc_imports_fit.nd rfl (Or.inl rfl))) (fun _ _ _ _ _ => pts_nil) (fun _ _ _ _ _ => (g_call (ok_import_fits T) (hr.mono (by decide)) (by rfl) pass0 (pa_cons (pv 0) (pa_cons (pv 3) (pa_cons (pv 2) pa_nil)))))) pa_nil))))), ?_⟩
    walk_at "rd"
    rw [List.length_map]
    refine G.i_d (fun h1 => ?_) (fun h1 => ?_)
    · walk_at "rd"
      exact kf fun z => by have := z.1; omega
    · walk_at "rd"
      refine ⟨a, ks, rfl, ha, hks, by omega, fun n ⟨L, L1, L2, L3⟩ => ?_⟩
      have nd := nodup_card (ps := ps) L1 (by rw [← hk]; exact L3)
      walk_at "rd"
      rw [List.length_map]
      refine G.i_d (fun h2 => ?_) (fun h2 => ?_)
      · walk_at "rd"
        exact kf fun z => nd.mp (by omega) z.2.1
      · have hn : ps.Nodup := Decidable.byContradiction fun z => h2 (by have := nd.mpr z; omega)
        walk_at "rd"
        refine G.l_lc walk_tup (fun D i acc H' => Same H H' ∧ ∃ bs : List Bool, acc = bs.map V.bl ∧ bs.length = i ∧ bs.all id = decide (∀ p ∈ ps.take i, FitI es c p))
          (fun D hD => ⟨Same.over (Same.refl H) hD, [], rfl, rfl, by simp⟩) (fun D i acc H' hD ⟨s, _⟩ => ha.ext s) ?_ ?_
        · rintro D i acc x H1 H2 hD hi ⟨s1, bs, rfl, hb, hall⟩ hL ⟨rfl, hx⟩
          rw [List.length_map] at hi
          have hki : ks[i]? = some ks[i] := List.getElem?_eq_getElem hi
          have hpi : ps[i]? = some ps[i] := List.getElem?_eq_getElem (by omega)
          rw [List.getElem?_map, hki] at hx
          obtain rfl : V.ref ks[i].1 = x := Option.some.inj hx
          have hk2 : ks[i].2 = [ps[i].1, ps[i].2] := by
            have z := congrArg (fun l => l[i]?) hk
            simp only [List.getElem?_map, hki, hpi, Option.map_some] at z
            exact Option.some.inj z
          have hp2 := (hks _ (List.getElem_mem hi)).ext s1
          rw [hk2] at hp2
          walk_at "rd"
          refine ⟨rfl, ?_⟩
          walk_at "rd"
          refine ⟨ks[i].1, e, c, es, ps[i], rfl, hp2, he.ext s1, ?_⟩
          refine G.lc_next hL (by rw [List.length_map]; walk_at "sz") ⟨Same.over s1 hD, bs ++ [decide (FitI es c ps[i])], by simp, by simp [hb], all_take hall hpi⟩
        · rintro D acc H' hD ⟨s1, bs, rfl, hb, hall⟩ hL
          rw [List.length_map] at hall
          walk_at "rd"
          have z := k H' s1
          have e2 : decide (FitsI es c ps) = bs.all id := by
            rw [hall]
            refine dec_congr ⟨fun z x hx => z.2.2 x (List.mem_of_mem_take hx), fun z => ⟨by omega, hn, fun x hx => z x ?_⟩⟩
            rw [hl, List.take_length]; exact hx
          rw [e2] at z
          exact z
theorem ok_first_fault (T : Top K mg) : Cal P w K mg base CX0 3 "first_fault" ["exports", "imports"] (sp_first_fault K) := by
  refine def_ok T.f_first_fault sc_first_fault (fun _ _ _ _ _ _ us hl => match us, hl with | [_, _], _ => rfl) (fun vs H Q E h => ?_) (fun f cdv A outer s H vs Q E hr h => ?_)
  · obtain ⟨e, i, es, is, rfl, _⟩ := h
    rfl
  · obtain ⟨e, i, es, is, rfl, he, hi, hl, k⟩ := h
    obtain ⟨a, vs, rfl, ha, hvl, hv⟩ := dp_tup hi
    refine ⟨_, (pss_cons (ps_set (i := 2) sc_first_fault.nd rfl (by first | exact Or.inl rfl | exact Or.inr rfl) (pe_callB (g_len (K := K)) (by rfl) T.b_len PySem.boot_len (pa_cons (pv 0) pa_nil)))
  (pss_cons (ps_if (pt_cmpR g_eq (pv 2) pe_int (nomark _))
  (pss_one (ps_ret pe_int))
  pss_nil)
  (pss_cons (ps_if (pt_cmpR g_gt (pv 2) (g_cint T.c_MOST_COMPONENTS rfl) (nomark _))
  (pss_one (ps_ret (g_cint T.c_MOST_COMPONENTS rfl)))
  pss_nil)
  (pss_cons (ps_for PassesOwn.never rfl (pi_range1 rfl T.b_range (pa_cons (pv 2) pa_nil)) (pg_name (i := 3) sc_first_fault.nd rfl (by first | exact Or.inl rfl | exact Or.inr rfl))
  (pss_cons (ps_if (pt_not (pt_chain g_le g_le pe_int (pe_ix (g_ix (K := K)) (pv 0) (pv 3) (fun _ _ => rfl)) (g_cint T.c_MOST_EXPORTS rfl)))
    (pss_one (ps_ret (pv 3)))
    pss_nil)
    (pss_one (ps_if (pt_not (g_truth (K := K) (g_call (ok_imports_fit T) (hr.mono (by decide)) (by rfl) pass0 (pa_cons (pv 3) (pa_cons (pe_ix (g_ix (K := K)) (pv 1) (pv 3) (fun _ _ => rfl)) (pa_cons (pv 0) pa_nil)))) (by intro _; rfl)))
    (pss_one (ps_ret (pv 3)))
    pss_nil))))
  (pss_one (ps_ret pe_non)))))), ?_⟩
    walk_at "rd"
    rw [List.length_map]
    refine G.i_d (fun h1 => ?_) (fun h1 => ?_)
    · walk_at "rd"
      exact k (some 0) H (.inl ⟨by omega, rfl⟩) (Same.refl H)
    · walk_at "rd"
      refine G.i_d (fun h2 => ?_) (fun h2 => ?_)
      · walk_at "rd"
        exact k (some 8) H (.inr (.inl ⟨by omega, rfl⟩)) (Same.refl H)
      · walk_at "rd"
        refine G.l_range (fun n σ H' => Same H H' ∧ ∃ v, σ = [some (.ref e), some (.ref a), some (.int (es.length : Nat)), v] ∧ ∀ j, j < n → RowOk es is j) ⟨Same.refl H, none, rfl, fun j hj => absurd hj (Nat.not_lt_zero _)⟩ ?_ ?_
        · rintro n σ' H' hn ⟨s1, v, rfl, hj⟩
          have hn' : n < es.length := by omega
          have he1 := he.ext s1
          have ha1 := ha.ext s1
          have ae := atI_map (is := es) (i := (n : Int)) (Int.natCast_nonneg n) (by omega)
          rw [Int.toNat_natCast] at ae
          have nofit : ¬ RowOk es is n → Q (.int (n : Nat)) H' := fun z => k (some n) H' (.inr (.inr ⟨⟨by omega, by omega⟩, .inl ⟨n, rfl, hn', z, hj⟩⟩)) s1
          have hvn : n < vs.length := by omega
          have yv : vs[n]? = some vs[n] := List.getElem?_eq_getElem hvn
          have yi : is[n]? = some (is.getD n []) := by rw [List.getD_eq_getElem?_getD, List.getElem?_eq_getElem (by omega)]; rfl
          have av : atI vs (n : Int) = some vs[n] := atI_nat yv
          have hd := Dp.same s1 _ _ (hv n _ _ yv yi)
          walk_at "rd"
          refine G.i_d (fun g1 => ?_) (fun g1 => ?_)
          · walk_at "rd"
            refine G.i_nd (fun g2 => ?_) (fun g2 => ?_)
            · walk_at "rd"
              exact nofit fun z => g2 z.1.2
            · walk_at "rd"
              refine ⟨vs[n], e, n, es, _, rfl, hd, he1, fun H2 s2 => ?_⟩
              walk_at "rd"
              refine G.i_nd (fun g3 => ?_) (fun g3 => ?_)
              · walk_at "rd"
                exact k (some n) H2 (.inr (.inr ⟨⟨by omega, by omega⟩, .inl ⟨n, rfl, hn', fun z => g3 z.2, hj⟩⟩)) (s1.trans s2)
              · walk_at "rd"
                refine ⟨s1.trans s2, _, rfl, fun j hjn => ?_⟩
                by_cases q : j = n
                · rw [q]; exact ⟨⟨g1, g2⟩, g3⟩
                · exact hj j (by omega)
          · walk_at "rd"
            exact nofit fun z => g1 z.1.1
        · rintro σ' H' ⟨s1, v, rfl, hj⟩
          walk_at "rd"
          exact k none H' (.inr (.inr ⟨⟨by omega, by omega⟩, .inr ⟨rfl, fun j h => hj j (by omega)⟩⟩)) s1
theorem ok_pairs_of (T : Top K mg) : Cal P w K mg base CX0 1 "pairs_of" ["imports"] (sp_pairs_of K) := by
  refine def_ok T.f_pairs_of sc_pairs_of (fun _ _ _ _ _ _ us hl => match us, hl with | [_], _ => rfl) (fun vs H Q E h => ?_) (fun f cdv A outer s H vs Q E hr h => ?_)
  · obtain ⟨a, ps, rfl, _⟩ := h
    rfl
  · obtain ⟨a, ps, rfl, hd, hl, k⟩ := h
    obtain ⟨a, vs, rfl, ha, hvl, hv⟩ := dp_lst hd
    refine ⟨_, (pss_one (ps_ret (pe_callTy (g_tup (K := K)) (by rfl) T.b_tuple (by decide +kernel) (pa_cons (pe_lc (own := [("component", 1), ("procedure", 2)]) rfl sc_pairs_of.nd (g_it (K := K) (pv 0)) (blkOk_by (own := [("component", 1), ("procedure", 2)]) (N := ["imports", "component", "procedure"]) (sc := defScope s_pairs_of) (by decide +kernel)) (fun _ _ _ _ _ => (ptup_K (K := K) (pg_tup (n := 2) rfl (pgs_cons (pg_name (i := 1) sc_pairs_of.nd rfl (Or.inl rfl)) (pgs_cons (pg_name (i := 2) sc_pairs_of.nd rfl (Or.inl rfl)) pgs_nil))))) (fun _ _ _ _ _ => pts_nil) (fun _ _ _ _ _ => (pe_tup (pa_cons (pv 1) (pa_cons (pv 2) pa_nil))))) pa_nil)))), ?_⟩
    walk_at "rd"
    refine lcD (K := K) (f := pD) walk_list ps (fun _ => none) hvl.symm (fun H' s => ha.ext s) ?_ ?_
    · rintro D i p x acc H1 H2 hD hp hW hL ⟨rfl, hx⟩
      obtain ⟨q, x1, x2, rfl, hq, d1, d2⟩ := dp_two (Dp.same hW.1 _ _ (hv i _ _ hx hp))
      obtain rfl := dp_int d1
      obtain rfl := dp_int d2
      refine v_unp2 hq ?_
      walk_at "rd"
      refine ⟨rfl, ?_⟩
      walk_at "rd"
      refine ⟨by show 2 ≤ sizeLine; decide, fun l hf => ?_⟩
      exact lcD_next same_nil hD hp hW hL hl (Same.over (Same.refl _) hf) (of_two (SqT.of (by rw [mx_new hf]; exact upd_same)) (.int _) (.int _))
    · rintro D H' ys hD s1 hL hd2 hT
      walk_at "rd"
      refine v_tupL hL fun l hl => ?_
      exact k l _ (Same.over s1 (same_none s1 hl)) (hT l hl)
end
/-! ### the class Interface -/
def RsOk (rs : List (Int × List (Int × Int))) : Prop := rs.length ≤ 1000000 ∧ ∀ r ∈ rs, r.2.length ≤ 1000000
/-- an interface of the data rs stands at a -/
def IfAt (K : PySem.W.Frag) (CI : Addr) (H : Hp) (a : Addr) (rs : List (Int × List (Int × Int))) : Prop := ∃ dx e i : Addr, H a = some (.ins CI dx [("exports", .ref e), ("imports", .ref i)]) ∧ SqT K H e ((rs.map (·.1)).map V.int) ∧ Dp K H (.ref i) (imD (rs.map (·.2)))
theorem IfAt.same {K : PySem.W.Frag} {CI a : Addr} {H H' : Hp} {rs : List (Int × List (Int × Int))} (h : IfAt K CI H a rs) (s : Same H H') : IfAt K CI H' a rs := by
  obtain ⟨dx, e, i, h1, h2, h3⟩ := h
  exact ⟨dx, e, i, s _ _ h1, h2.ext s, Dp.same s _ _ h3⟩
theorem lets_mono {C : Addr} {f : Str} {v : V} {H H1 : Hp} {Q : XK} (h : Lets C f v H Q) (s : Same H H1) : Lets C f v H1 Q := fun d H' s' n e => h d H' (s.trans s') (same_none s n) e
def spIfI (K : PySem.W.Frag) (CI CB : Addr) : Sp := fun vs H Q E => ∃ (x dx : Addr) (a : V) (rs : List (Int × List (Int × Int))), vs = [.ref x, a] ∧ H x = some (.ins CI dx []) ∧ Dp K H a (rsD rs) ∧ RsOk rs ∧
  ∀ r, IsFault (rs.map (·.1)) (rs.map (·.2)) r → (∀ i, r = some i → Lets CB "at" (.int (i : Nat)) H E) ∧ (r = none → ∀ H', (∀ b o, b ≠ x → H b = some o → H' b = some o) → IfAt K CI H' x rs → Q .non H')
section
variable {P : Program} {w : World} {K : PySem.W.Frag} {mg : Str → Option Value} {base : Heap} {C : Cs}
theorem ok_Interface_init (T : Top K mg) (Z : Txt K mg C) : MCal P w K mg base (HX P w) 4 C.Interface "__init__" ["self", "rows"] (spIfI K C.Interface C.BadInterface) := by
  refine met_okX Z.m_Interface_init sc_Interface_init (fun _ _ _ _ _ _ us hl => match us, hl with | [_, _], _ => rfl) (fun vs H Q E h => ?_) (fun f cdv A outer s H vs Q E hr h => ?_)
  · obtain ⟨x, dx, a, rs, rfl, _⟩ := h
    rfl
  · obtain ⟨x, dx, a, rs, rfl, hx, hd, ⟨ok1, ok2⟩, k⟩ := h
    obtain ⟨a, vs, rfl, ha, hvl, hv⟩ := dp_lst hd
    refine ⟨_, (pss_cons (ps_set (i := 2) sc_Interface_init.nd rfl (by first | exact Or.inl rfl | exact Or.inr rfl) (pe_callTy (g_tup (K := K)) (by rfl) T.b_tuple (by decide +kernel) (pa_cons (pe_lc (own := [("row", 3)]) rfl sc_Interface_init.nd (g_it (K := K) (pv 1)) (blkOk_by (own := [("row", 3)]) (N := ["self", "rows", "exports", "row", "imports", "fault"]) (sc := defScope s_Interface_init) (by decide +kernel)) (fun _ _ _ _ _ => (pg_name (i := 3) sc_Interface_init.nd rfl (Or.inl rfl))) (fun _ _ _ _ _ => pts_nil) (fun _ _ _ _ _ => (pe_ix (g_ix (K := K)) (pv 3) pe_int (fun _ _ => rfl)))) pa_nil)))
  (pss_cons (ps_set (i := 4) sc_Interface_init.nd rfl (by first | exact Or.inl rfl | exact Or.inr rfl) (pe_callTy (g_tup (K := K)) (by rfl) T.b_tuple (by decide +kernel) (pa_cons (pe_lc (own := [("row", 3)]) rfl sc_Interface_init.nd (g_it (K := K) (pv 1)) (blkOk_by (own := [("row", 3)]) (N := ["self", "rows", "exports", "row", "imports", "fault"]) (sc := defScope s_Interface_init) (by decide +kernel)) (fun _ _ _ _ _ => (pg_name (i := 3) sc_Interface_init.nd rfl (Or.inl rfl))) (fun _ _ _ _ _ => pts_nil) (fun _ _ _ _ _ => (g_call (ok_pairs_of T) (hr.mono (by decide)) (by rfl) pass0 (pa_cons (pe_ix (g_ix (K := K)) (pv 3) pe_int (fun _ _ => rfl)) pa_nil)))) pa_nil)))
  (pss_cons (ps_set (i := 5) sc_Interface_init.nd rfl (by first | exact Or.inl rfl | exact Or.inr rfl) (g_call (ok_first_fault T) (hr.mono (by decide)) (by rfl) pass0 (pa_cons (pv 2) (pa_cons (pv 4) pa_nil))))
  (pss_cons (ps_if (pt_cmpR g_isnot (pv 5) pe_non (nomark _))
  (pss_one (g_raiseN rfl (takesE rfl rfl rfl rfl) (g_mkexN Z.n_BadInterface Z.e_BadInterface (ok_BadInterface_init T Z) (hr.mono (by decide)) (by rfl) (pa_cons (pv 5) pa_nil))))
  pss_nil)
  (pss_cons (sfld_K (K := K) (ps_fld (pv 0) (pv 2) rfl))
  (pss_one (sfld_K (K := K) (ps_fld (pv 0) (pv 4) rfl)))))))), ?_⟩
    walk_at "rd"
    have hx1 : ∀ (i : Nat) (r : Int × List (Int × Int)), (rs.map (·.1))[i]? = some r.1 → True := fun _ _ _ => trivial
    refine lcD (K := K) (f := PyData.int) walk_list (rs.map (·.1)) (fun _ => none) (by rw [List.length_map]; exact hvl.symm) (fun H' s => ha.ext s) ?_ ?_
    · rintro D i p y acc H1 H2 hD hp hW hL ⟨rfl, hy⟩
      have hi : i < rs.length := by have := (List.getElem?_eq_some_iff.mp hp).1; rwa [List.length_map] at this
      have hri : rs[i]? = some rs[i] := List.getElem?_eq_getElem hi
      obtain ⟨q, x1, x2, rfl, hq, d1, d2⟩ := dp_two (Dp.same hW.1 _ _ (hv i _ _ hy hri))
      obtain rfl := dp_int d1
      rw [List.getElem?_map, hri] at hp
      obtain rfl : rs[i].1 = p := Option.some.inj hp
      walk_at "rd"
      refine ⟨rfl, ?_⟩
      walk_at "rd"
      exact lcD_next same_nil hD (by rw [List.getElem?_map, hri]; rfl) hW hL (by rw [List.length_map]; exact ok1) (Same.refl _) (.int _)
    · rintro D1 H1 ys1 hD1 s1 hL1 hd1 hT1
      walk_at "rd"
      refine v_tupL hL1 fun e he => ?_
      have te := hT1 e he
      have s2 : Same H (upd H1 e (.tup ys1)) := Same.over s1 (same_none s1 he)
      generalize upd H1 e (.tup ys1) = H2 at te s2 ⊢
      have ha2 := ha.ext s2
      walk_at "rd"
      refine lcD (K := K) (f := ptD) walk_list (rs.map (·.2)) (fun _ => none) (by rw [List.length_map]; exact hvl.symm) (fun H' s => ha2.ext s) ?_ ?_
      · rintro D i p y acc H3 H4 hD hp hW hL ⟨rfl, hy⟩
        have hi : i < rs.length := by have := (List.getElem?_eq_some_iff.mp hp).1; rwa [List.length_map] at this
        have hri : rs[i]? = some rs[i] := List.getElem?_eq_getElem hi
        obtain ⟨q, x1, x2, rfl, hq, d1, d2⟩ := dp_two (Dp.same (s2.trans hW.1) _ _ (hv i _ _ hy hri))
        have hp' := hp
        rw [List.getElem?_map, hri] at hp'
        obtain rfl : rs[i].2 = p := Option.some.inj hp'
        walk_at "rd"
        refine ⟨rfl, ?_⟩
        walk_at "rd"
        refine ⟨x2, rs[i].2, rfl, d2, ok2 _ (List.getElem_mem hi), fun l H5 s5 d5 => ?_⟩
        exact lcD_next same_nil hD hp hW hL (by rw [List.length_map]; exact ok1) s5 d5
      · rintro D3 H3 ys3 hD3 s3 hL3 hd3 hT3
        walk_at "rd"
        refine v_tupL hL3 fun i hi => ?_
        have ti := hT3 i hi
        have s4 : Same H2 (upd H3 i (.tup ys3)) := Same.over s3 (same_none s3 hi)
        generalize upd H3 i (.tup ys3) = H4 at ti s4 ⊢
        have s24 := s2.trans s4
        have te4 : Dp K (nw H H4) (.ref e) (.tuple ((rs.map (·.1)).map PyData.int)) := Dp.same (mx_mono s4) _ _ te
        have ti4 : Dp K (nw H H4) (.ref i) (imD (rs.map (·.2))) := Dp.same (mx_back same_nil s2) _ _ ti
        obtain ⟨e', ee, hE⟩ := dp_ints te4
        obtain rfl : e = e' := V.ref.inj ee
        walk_at "rd"
        refine ⟨e, .ref i, rs.map (fun r : Int × List (Int × Int) => r.1), rs.map (fun r : Int × List (Int × Int) => r.2), rfl, hE.ext (mx_same same_nil s24), Dp.same (mx_same same_nil s24) _ _ ti4, by rw [List.length_map, List.length_map], fun r H5 hr s5 => ?_⟩
        obtain ⟨kE, kQ⟩ := k r hr
        have s25 := s24.trans s5
        cases r with
        | some n =>
          have hn : n ≤ 8 := by
            rcases hr with ⟨_, h⟩ | ⟨_, h⟩ | ⟨⟨_, h8⟩, ⟨j, h, hj, _⟩ | ⟨h, _⟩⟩
            · cases h; decide
            · cases h; decide
            · cases h; omega
            · cases h
          dsimp only [faultV, List.set_cons_succ, List.set_cons_zero]
          walk_at "rd"
          exact mk_is (log_ok (by omega) (by omega)) (lets_mono (kE n rfl) s25)
        | none =>
          have hx5 := s25 _ _ hx
          have nwx : ∀ (o o' : HO), Same (nw H H5) (upd (upd H5 x o) x o') := fun o o' b u eb => by
            have hb : b ≠ x := fun z => by
              have eb' : mx (fun _ => none) H H5 b = some u := eb
              rw [z, mx_old hx] at eb'
              cases eb'
            rw [upd_ne hb, upd_ne hb]
            exact mx_same same_nil s25 _ _ eb
          have te5 := Dp.same (mx_mono (Hb := fun _ => none) (H := H) s5) _ _ te4
          have ti5 := Dp.same (mx_mono (Hb := fun _ => none) (H := H) s5) _ _ ti4
          dsimp only [faultV, List.set_cons_succ, List.set_cons_zero]
          walk_at "rd"
          refine ⟨x, C.Interface, dx, [], rfl, hx5, Z.k_Interface.cl, Z.a_Interface_exports, by decide, ?_⟩
          walk_at "rd"
          have hp : putF "imports" (.ref i) (putF "exports" (.ref e) []) = ([("exports", V.ref e), ("imports", V.ref i)] : List (Str × V)) := by
            show (if ("exports" : Str) = "imports" then _ else _) = _
            rw [if_neg (by decide +kernel)]
            rfl
          obtain ⟨e', ee, hE⟩ := dp_ints te5
          obtain rfl : e = e' := V.ref.inj ee
          refine ⟨x, C.Interface, dx, _, rfl, upd_same, Z.k_Interface.cl, Z.a_Interface_imports, by show 1 < 1000; decide, ?_⟩
          refine kQ rfl _ (fun b o hb eb => by rw [upd_ne hb, upd_ne hb]; exact s25 _ _ eb) ⟨dx, e, i, by rw [upd_same, hp], hE.ext (nwx _ _), Dp.same (nwx _ _) _ _ ti5⟩
theorem sqT_uniq {H : Hp} {a : Addr} {xs ys : List V} (h1 : H a = some (.tup xs)) (h2 : H a = some (.tup ys)) : xs = ys := by
  rw [h1] at h2
  cases h2
  rfl
/-- what == of two interfaces asks and answers -/
def spIfEq (K : PySem.W.Frag) (CI : Addr) : Sp := fun vs H Q _ => ∃ (a b : Addr) (rs qs : List (Int × List (Int × Int))), vs = [.ref a, .ref b] ∧ IfAt K CI H a rs ∧ IfAt K CI H b qs ∧ Q (.bl (decide (rs = qs))) H
def spIfSize (K : PySem.W.Frag) (CI : Addr) : Sp := fun vs H Q _ => ∃ (a : Addr) (rs : List (Int × List (Int × Int))), vs = [.ref a] ∧ IfAt K CI H a rs ∧ Q (.int (rs.length : Nat)) H
theorem unzip_eq {rs qs : List (Int × List (Int × Int))} : (rs.map (·.1) = qs.map (·.1) ∧ rs.map (·.2) = qs.map (·.2)) ↔ rs = qs := by
  constructor
  · intro ⟨h1, h2⟩
    have l : rs.length = qs.length := by have := congrArg List.length h1; rwa [List.length_map, List.length_map] at this
    refine List.ext_getElem l fun i h3 h4 => ?_
    have e1 := congrArg (fun l => l[i]?) h1
    have e2 := congrArg (fun l => l[i]?) h2
    simp only [List.getElem?_map, List.getElem?_eq_getElem h3, List.getElem?_eq_getElem h4, Option.map_some] at e1 e2
    exact Prod.ext (Option.some.inj e1) (Option.some.inj e2)
  · rintro rfl
    exact ⟨rfl, rfl⟩
theorem lk_e (e i : V) : List.lookup ("exports" : Str) ([("exports", e), ("imports", i)] : List (Str × V)) = some e := by
  have h : (("exports" : Str) == "exports") = true := beq_self_eq_true _
  simp only [List.lookup, h]
theorem lk_i (e i : V) : List.lookup ("imports" : Str) ([("exports", e), ("imports", i)] : List (Str × V)) = some i := by
  have h : (("imports" : Str) == "exports") = false := by decide +kernel
  have h2 : (("imports" : Str) == "imports") = true := beq_self_eq_true _
  simp only [List.lookup, h, h2]
theorem lk_s (e i : V) : List.lookup ("size" : Str) ([("exports", e), ("imports", i)] : List (Str × V)) = none := by
  have h : (("size" : Str) == "exports") = false := by decide +kernel
  have h2 : (("size" : Str) == "imports") = false := by decide +kernel
  simp only [List.lookup, h, h2]
theorem ok_Interface_size (T : Top K mg) (Z : Txt K mg C) : MCal P w K mg base CX0 1 C.Interface "size" ["self"] (spIfSize K C.Interface) := by
  refine met_ok Z.m_Interface_size sc_Interface_size (fun _ _ _ _ _ _ us hl => match us, hl with | [_], _ => rfl) (fun vs H Q E h => ?_) (fun f cdv A outer s H vs Q E hr h => ?_)
  · obtain ⟨a, rs, rfl, _⟩ := h
    rfl
  · obtain ⟨a, rs, rfl, ⟨dx, e, i, h1, h2, h3⟩, k⟩ := h
    refine ⟨_, (pss_one (ps_ret (pe_callB (g_len (K := K)) (by rfl) T.b_len PySem.boot_len (pa_cons (fld_K (K := K) (pe_fld (pv 0) rfl)) pa_nil)))), ?_⟩
    walk_at "rd"
    refine ⟨a, C.Interface, dx, _, _, rfl, h1, Z.k_Interface.cl, Z.a_Interface_exports, lk_e _ _, ?_⟩
    walk_at "rd"
    rw [List.length_map, List.length_map]
    exact k
theorem ok_Interface_eq (T : Top K mg) (Z : Txt K mg C) : MCal P w K mg base CX0 1 C.Interface "__eq__" ["self", "other"] (spIfEq K C.Interface) := by
  refine met_ok Z.m_Interface_eq sc_Interface_eq (fun _ _ _ _ _ _ us hl => match us, hl with | [_, _], _ => rfl) (fun vs H Q E h => ?_) (fun f cdv A outer s H vs Q E hr h => ?_)
  · obtain ⟨a, b, rs, qs, rfl, _⟩ := h
    rfl
  · obtain ⟨a, b, rs, qs, rfl, ⟨dx, e, i, h1, h2, h3⟩, ⟨dy, e', i', g1, g2, g3⟩, k⟩ := h
    refine ⟨_, (pss_one (ps_ret (g_andT (K := K) (pe_callB (g_isi (K := K)) (by rfl) T.b_isinstance (by decide +kernel) (pa_cons (pv 1) (pa_cons (pe_glob (v := .ref C.Interface) rfl Z.n_Interface rfl) pa_nil))) (g_andT (K := K) (pe_cmpR (op_eqDK (K := K) (un64 hr)) (fld_K (K := K) (pe_fld (pv 0) rfl)) (fld_K (K := K) (pe_fld (pv 1) rfl)) (nomark _)) (pe_one (pe_cmpR (op_eqDK (K := K) (un64 hr)) (fld_K (K := K) (pe_fld (pv 0) rfl)) (fld_K (K := K) (pe_fld (pv 1) rfl)) (nomark _))))))), ?_⟩
    have ke := k
    walk_at "rd"
    refine v_isiO g1 Z.k_Interface ?_
    walk_at "rd"
    refine ⟨a, C.Interface, dx, _, _, rfl, h1, Z.k_Interface.cl, Z.a_Interface_exports, lk_e _ _, ?_⟩
    walk_at "rd"
    refine ⟨b, C.Interface, dy, _, _, rfl, g1, Z.k_Interface.cl, Z.a_Interface_exports, lk_e _ _, ?_⟩
    refine v_eqD (Emb.tup Emb.int) (by decide) (of_ints h2) (of_ints g2) ?_
    walk_at "rd"
    refine G.i_d (fun q1 => ?_) (fun q1 => ?_)
    · walk_at "rd"
      refine ⟨a, C.Interface, dx, _, _, rfl, h1, Z.k_Interface.cl, Z.a_Interface_imports, lk_i _ _, ?_⟩
      walk_at "rd"
      refine ⟨b, C.Interface, dy, _, _, rfl, g1, Z.k_Interface.cl, Z.a_Interface_imports, lk_i _ _, ?_⟩
      refine v_eqD emb_im (by decide) h3 g3 ?_
      rw [dec_congr (show (rs.map (·.2) = qs.map (·.2)) ↔ rs = qs from ⟨fun z => unzip_eq.mp ⟨q1, z⟩, fun z => (unzip_eq.mpr z).2⟩)]
      exact k
    · rw [decide_eq_false fun z => q1 (unzip_eq.mpr z).1] at k
      rw [decide_eq_false q1]
      exact k
end


/-! ### the law's own defs -/
section
variable {P : Program} {w : World} {K : PySem.W.Frag} {mg : Str → Option Value} {base : Heap}
/-- in an except suite: of two equal ints -/
def sp_same_int : Sp := fun vs H Q _ => ∃ i : Int, vs = [.int i, .int i] ∧ Q (.bl true) H
theorem okh_l_same (T : Top K mg) : CalH P w K mg base CX0 1 "_law_same" ["actual", "due"] sp_same_int := by
  refine def_okH T.f_l_same sc_l_same (fun _ _ _ _ _ _ us hl => match us, hl with | [_, _], _ => rfl) (fun vs H Q E h => ?_) (fun f cdv A outer s H vs Q E p hp hr h => ?_)
  · obtain ⟨i, rfl, _⟩ := h
    rfl
  · obtain ⟨i, rfl, k⟩ := h
    refine ⟨_, (pss_cons (ps_if (PW.pt (pw_or (g_truth (K := K) (pe_callB (g_isi (K := K)) (by rfl) T.b_isinstance (by decide +kernel) (pa_cons (pv 1) (pa_cons (pe_bltn (v := .ty "tuple") (by rfl) T.b_tuple (by decide +kernel) rfl) pa_nil))) (by intro _; rfl)) (pw_or1 (g_truth (K := K) (pe_callB (g_isi (K := K)) (by rfl) T.b_isinstance (by decide +kernel) (pa_cons (pv 1) (pa_cons (pe_bltn (v := .ty "list") (by rfl) T.b_list (by decide +kernel) rfl) pa_nil))) (by intro _; rfl)))))
  (pss_cons (ps_if (PW.pt (pw_or (pt_cmpR g_ne (pe_callB (g_isi (K := K)) (by rfl) T.b_isinstance (by decide +kernel) (pa_cons (pv 1) (pa_cons (pe_bltn (v := .ty "tuple") (by rfl) T.b_tuple (by decide +kernel) rfl) pa_nil))) (pe_callB (g_isi (K := K)) (by rfl) T.b_isinstance (by decide +kernel) (pa_cons (pv 0) (pa_cons (pe_bltn (v := .ty "tuple") (by rfl) T.b_tuple (by decide +kernel) rfl) pa_nil))) (nomark _)) (pw_or1 (pt_cmpR g_ne (pe_callB (g_isi (K := K)) (by rfl) T.b_isinstance (by decide +kernel) (pa_cons (pv 1) (pa_cons (pe_bltn (v := .ty "list") (by rfl) T.b_list (by decide +kernel) rfl) pa_nil))) (pe_callB (g_isi (K := K)) (by rfl) T.b_isinstance (by decide +kernel) (pa_cons (pv 0) (pa_cons (pe_bltn (v := .ty "list") (by rfl) T.b_list (by decide +kernel) rfl) pa_nil))) (nomark _)))))
    (pss_one (ps_ret pe_bl))
    pss_nil)
    (pss_cons (ps_if (pt_cmpR g_ne (pe_callB (g_len (K := K)) (by rfl) T.b_len PySem.boot_len (pa_cons (pv 0) pa_nil)) (pe_callB (g_len (K := K)) (by rfl) T.b_len PySem.boot_len (pa_cons (pv 1) pa_nil)) (nomark _))
    (pss_one (ps_ret pe_bl))
    pss_nil)
    (pss_cons ps_never
    (pss_one (ps_ret pe_bl)))))
  pss_nil)
  (pss_cons (ps_if (PW.pt (pw_or (pt_cmpR g_is (pv 1) pe_non (nomark _)) (pw_or1 (g_truth (K := K) (pe_callB (g_isi (K := K)) (by rfl) T.b_isinstance (by decide +kernel) (pa_cons (pv 1) (pa_cons (pe_bltn (v := .ty "bool") (by rfl) T.b_bool (by decide +kernel) rfl) pa_nil))) (by intro _; rfl)))))
  (pss_one (ps_ret (g_andT (K := K) (pe_cmpR g_eq (pe_cmpR g_is (pv 0) pe_non (nomark _)) (pe_cmpR g_is (pv 1) pe_non (nomark _)) (nomark _)) (g_andT (K := K) (g_orT (K := K) (pe_cmpR g_is (pv 1) pe_non (nomark _)) (pe_one (pe_callB (g_isi (K := K)) (by rfl) T.b_isinstance (by decide +kernel) (pa_cons (pv 0) (pa_cons (pe_bltn (v := .ty "bool") (by rfl) T.b_bool (by decide +kernel) rfl) pa_nil))))) (pe_one (pe_cmpR g_eq (pv 0) (pv 1) (nomark _)))))))
  pss_nil)
  (pss_cons (ps_if (g_truth (K := K) (pe_callB (g_isi (K := K)) (by rfl) T.b_isinstance (by decide +kernel) (pa_cons (pv 1) (pa_cons (pe_bltn (v := .ty "int") (by rfl) T.b_int (by decide +kernel) rfl) pa_nil))) (by intro _; rfl))
  (pss_one (ps_ret (g_andT (K := K) (pe_callB (g_isi (K := K)) (by rfl) T.b_isinstance (by decide +kernel) (pa_cons (pv 0) (pa_cons (pe_bltn (v := .ty "int") (by rfl) T.b_int (by decide +kernel) rfl) pa_nil))) (g_andT (K := K) (g_notT (K := K) (pe_callB (g_isi (K := K)) (by rfl) T.b_isinstance (by decide +kernel) (pa_cons (pv 0) (pa_cons (pe_bltn (v := .ty "bool") (by rfl) T.b_bool (by decide +kernel) rfl) pa_nil)))) (pe_one (pe_cmpR g_eq (pv 0) (pv 1) (nomark _)))))))
  pss_nil)
  (pss_one (ps_ret (g_andT (K := K) (pe_callB (g_isi (K := K)) (by rfl) T.b_isinstance (by decide +kernel) (pa_cons (pv 0) (pa_cons (pe_bltn (v := .ty "str") (by rfl) T.b_str (by decide +kernel) rfl) pa_nil))) (pe_one (pe_cmpR g_eq (pv 0) (pv 1) (nomark _))))))))), ?_⟩
    walk_at "rd"
    simpa using k
end
/-! ### rows of an interface in the law -/
theorem nodup_snoc {α : Type} [DecidableEq α] {l : List α} {i : Nat} {p : α} (hp : l[i]? = some p) : (l.take (i + 1)).Nodup ↔ (l.take i).Nodup ∧ p ∉ l.take i := by
  rw [List.take_add_one, hp]
  show (l.take i ++ [p]).Nodup ↔ _
  rw [List.nodup_append]
  constructor
  · intro ⟨a, b, c⟩
    exact ⟨a, fun m => c p m p (by simp) rfl⟩
  · intro ⟨a, b⟩
    exact ⟨a, by simp, fun x hx y hy e => b (by have : y = p := by simpa using hy
                                                rw [← this, ← e]; exact hx)⟩
def sp_l_fits (K : PySem.W.Frag) : Sp := fun vs H Q _ => ∃ (a : V) (rs : List (Int × List (Int × Int))) (n : Nat), vs = [a, .int (n : Nat)] ∧ n < rs.length ∧ RsOk rs ∧ Dp K H a (rsD rs) ∧ ∀ H' b, Same H H' → (b = true ↔ RowOk (rs.map (·.1)) (rs.map (·.2)) n) → Q (.bl b) H'
def sp_l_bad (K : PySem.W.Frag) : Sp := fun vs H Q _ => ∃ (a : V) (rs : List (Int × List (Int × Int))), vs = [a] ∧ RsOk rs ∧ Dp K H a (rsD rs) ∧ ∀ H' r, Same H H' → IsFault (rs.map (·.1)) (rs.map (·.2)) r → Q (faultV r) H'
section
variable {P : Program} {w : World} {K : PySem.W.Frag} {mg : Str → Option Value} {base : Heap}
theorem getD_fst {rs : List (Int × List (Int × Int))} {n : Nat} {r : Int × List (Int × Int)} (h : rs[n]? = some r) : (rs.map (·.1)).getD n 0 = r.1 := by
  rw [List.getD_eq_getElem?_getD, List.getElem?_map, h]; rfl
theorem getD_snd {rs : List (Int × List (Int × Int))} {n : Nat} {r : Int × List (Int × Int)} (h : rs[n]? = some r) : (rs.map (·.2)).getD n [] = r.2 := by
  rw [List.getD_eq_getElem?_getD, List.getElem?_map, h]; rfl
theorem ok_l_fits (T : Top K mg) : Cal P w K mg base CX0 1 "_law_fits" ["rows", "at"] (sp_l_fits K) := by
  refine def_ok T.f_l_fits sc_l_fits (fun _ _ _ _ _ _ us hl => match us, hl with | [_, _], _ => rfl) (fun vs H Q E h => ?_) (fun f cdv A outer s H vs Q E hr h => ?_)
  · obtain ⟨a, rs, n, rfl, _⟩ := h
    rfl
  · obtain ⟨a, rs, n, rfl, hn, ⟨ok1, ok2⟩, hd, k⟩ := h
    obtain ⟨a, vs, rfl, ha, hvl, hv⟩ := dp_lst hd
    have yr : rs[n]? = some rs[n] := List.getElem?_eq_getElem hn
    have yv : vs[n]? = some vs[n] := List.getElem?_eq_getElem (by omega)
    obtain ⟨q, x1, x2, hq0, hq, d1, d2⟩ := dp_two (hv n _ _ yv yr)
    obtain rfl := dp_int d1
    have av : atI vs (n : Int) = some (.ref q) := by rw [← hq0]; exact atI_nat yv
    obtain ⟨l, us, rfl, hl, hul, hu⟩ := dp_lst d2
    have e1 := getD_fst yr
    have e2 := getD_snd yr
    have iff0 : RowOk (rs.map (·.1)) (rs.map (·.2)) n ↔ (1 ≤ rs[n].1 ∧ rs[n].1 ≤ 8) ∧ FitsI (rs.map (·.1)) n rs[n].2 := by unfold RowOk; rw [e1, e2]
    have no : ¬ RowOk (rs.map (·.1)) (rs.map (·.2)) n → ∀ H', Same H H' → Q (.bl false) H' := fun z H' s => k H' false s ⟨fun t => (Bool.noConfusion t), fun t => absurd t z⟩
    refine ⟨_, (pss_cons (ps_asg (pe_ix (g_ix (K := K)) (pv 0) (pv 1) (fun _ _ => rfl)) (ptup_K (K := K) (pg_tup (n := 2) rfl (pgs_cons (pg_name (i := 2) sc_l_fits.nd rfl (by first | exact Or.inl rfl | exact Or.inr rfl)) (pgs_cons (pg_name (i := 3) sc_l_fits.nd rfl (by first | exact Or.inl rfl | exact Or.inr rfl)) pgs_nil)))))
  (pss_cons (ps_if (PW.pt (pw_or (pt_not (pt_chain g_le g_le pe_int (pv 2) pe_int)) (pw_or1 (pt_cmpR g_gt (pe_callB (g_len (K := K)) (by rfl) T.b_len PySem.boot_len (pa_cons (pv 3) pa_nil)) pe_int (nomark _)))))
  (pss_one (ps_ret pe_bl))
  pss_nil)
  (pss_cons (ps_for PassesOwn.never rfl (pi_range1 rfl T.b_range (pa_cons (pe_callB (g_len (K := K)) (by rfl) T.b_len PySem.boot_len (pa_cons (pv 3) pa_nil)) pa_nil)) (pg_name (i := 4) sc_l_fits.nd rfl (by first | exact Or.inl rfl | exact Or.inr rfl))
  (pss_cons (ps_asg (pe_ix (g_ix (K := K)) (pv 3) (pv 4) (fun _ _ => rfl)) (ptup_K (K := K) (pg_tup (n := 2) rfl (pgs_cons (pg_name (i := 5) sc_l_fits.nd rfl (by first | exact Or.inl rfl | exact Or.inr rfl)) (pgs_cons (pg_name (i := 6) sc_l_fits.nd rfl (by first | exact Or.inl rfl | exact Or.inr rfl)) pgs_nil)))))
    (pss_cons (ps_if (PW.pt (pw_or (pt_cmpR g_eq (pv 5) (pv 1) (nomark _)) (pw_or (pt_not (pt_chain g_le g_lt pe_int (pv 5) (pe_callB (g_len (K := K)) (by rfl) T.b_len PySem.boot_len (pa_cons (pv 0) pa_nil)))) (pw_or1 (pt_cmpR (op_inDK (K := K) (un65 hr)) (pe_ix (g_ix (K := K)) (pv 3) (pv 4) (fun _ _ => rfl)) (pe_slice (g_sl (K := K)) (pv 3) po_none (po_some (pv 4))) rfl)))))
    (pss_one (ps_ret pe_bl))
    pss_nil)
    (pss_one (ps_if (pt_not (pt_chain g_le g_lt pe_int (pv 6) (pe_ix (g_ix (K := K)) (pe_ix (g_ix (K := K)) (pv 0) (pv 5) (fun _ _ => rfl)) pe_int (fun _ _ => rfl))))
    (pss_one (ps_ret pe_bl))
    pss_nil)))))
  (pss_one (ps_ret pe_bl))))), ?_⟩
    walk_at "rd"
    refine v_unp2 hq ?_
    walk_at "rd"
    refine G.i_d (fun g1 => ?_) (fun g1 => ?_)
    · walk_at "rd"
      refine G.i_nd (fun g2 => ?_) (fun g2 => ?_)
      · walk_at "rd"
        exact no (fun z => g2 (iff0.mp z).1.2) H (Same.refl H)
      · walk_at "rd"
        refine G.i_d (fun g3 => ?_) (fun g3 => ?_)
        · walk_at "rd"
          exact no (fun z => by have := (iff0.mp z).2.1; omega) H (Same.refl H)
        · walk_at "rd"
          refine G.l_range (fun m σ H' => Same H H' ∧ (∃ v4 v5 v6, σ = [some (.ref a), some (.int (n : Nat)), some (.int rs[n].1), some (.ref l), v4, v5, v6]) ∧ (rs[n].2.take m).Nodup ∧ ∀ p ∈ rs[n].2.take m, FitI (rs.map (·.1)) n p) ⟨Same.refl H, ⟨none, none, none, rfl⟩, by simp, by simp⟩ ?_ ?_
          · rintro m σ' H' hm ⟨s1, ⟨v4, v5, v6, rfl⟩, nd, fit⟩
            have hmu : m < us.length := by omega
            have yp : rs[n].2[m]? = some rs[n].2[m] := List.getElem?_eq_getElem (by omega)
            have yu : us[m]? = some us[m] := List.getElem?_eq_getElem hmu
            have dm := Dp.same s1 _ _ (hu m _ _ yu yp)
            obtain ⟨q2, z1, z2, hq20, hq2, f1, f2⟩ := dp_two dm
            obtain rfl := dp_int f1
            obtain rfl := dp_int f2
            have au : atI us (m : Int) = some (.ref q2) := by rw [← hq20]; exact atI_nat yu
            rw [hq20] at dm
            have hl1 := hl.ext s1
            have ha1 := ha.ext s1
            generalize hp : rs[n].2[m] = p at *
            have bad : (¬ FitI (rs.map (·.1)) n p ∨ p ∈ rs[n].2.take m) → ¬ RowOk (rs.map (·.1)) (rs.map (·.2)) n := fun h z => by
              obtain ⟨_, a2, a3⟩ := (iff0.mp z).2
              rcases h with h | h
              · exact h (a3 p (by rw [← hp]; exact List.getElem_mem _))
              · exact ((nodup_snoc yp).mp (a2.sublist (List.take_sublist _ _))).2 h
            walk_at "rd"
            refine v_unp2 hq2 ?_
            walk_at "rd"
            refine G.i_d (fun w1 => ?_) (fun w1 => ?_)
            · walk_at "rd"
              exact no (bad (.inl fun z => z.1 w1)) H' s1
            · walk_at "rd"
              refine G.i_d (fun w2 => ?_) (fun w2 => ?_)
              · walk_at "rd"
                refine G.i_nd (fun w3 => ?_) (fun w3 => ?_)
                · walk_at "rd"
                  exact no (bad (.inl fun z => w3 (by have := z.2.1.2; rw [List.length_map] at this; omega))) H' s1
                · walk_at "rd"
                  refine v_slLs hl1 fun l2 hl2 => ?_
                  rw [cut_take]
                  have s2 : Same H (upd H' l2 (.lst (us.take m))) := Same.over s1 (same_none s1 hl2)
                  have d2 : Dp K (upd H' l2 (.lst (us.take m))) (.ref l2) (.list ((rs[n].2.take m).map pD)) := by
                    refine of_lst (SqL.of upd_same) (by rw [List.length_take, List.length_take]; omega) fun i y x h1 h2 => ?_
                    rw [List.getElem?_take] at h1 h2
                    split at h1
                    · rename_i him
                      rw [if_pos him] at h2
                      exact Dp.same s2 _ _ (hu i y x h1 h2)
                    · cases h1
                  have dm2 := Dp.same (Same.over (Same.refl H') hl2 (o := .lst (us.take m))) _ _ dm
                  generalize upd H' l2 (.lst (us.take m)) = H2 at s2 d2 dm2 ⊢
                  refine v_inD emb_p (by decide) dm2 d2 ?_
                  walk_at "rd"
                  refine G.i_d (fun w4 => ?_) (fun w4 => ?_)
                  · walk_at "rd"
                    exact no (bad (.inr w4)) H2 s2
                  · have hc : p.1.toNat < rs.length := by omega
                    have yr2 : rs[p.1.toNat]? = some rs[p.1.toNat] := List.getElem?_eq_getElem hc
                    have yv2 : vs[p.1.toNat]? = some vs[p.1.toNat] := List.getElem?_eq_getElem (by omega)
                    obtain ⟨q3, t1, t2, hq30, hq3, b1, b2⟩ := dp_two (Dp.same s2 _ _ (hv _ _ _ yv2 yr2))
                    obtain rfl := dp_int b1
                    have av2 : atI vs p.1 = some (.ref q3) := by
                      rw [← hq30]
                      have z := atI_nat yv2
                      rwa [Int.toNat_of_nonneg w2] at z
                    have ha2 := ha.ext s2
                    have ed : (rs.map (·.1)).getD p.1.toNat 0 = rs[p.1.toNat].1 := getD_fst yr2
                    walk_at "rd"
                    refine G.i_d (fun w5 => ?_) (fun w5 => ?_)
                    · walk_at "rd"
                      refine G.i_nd (fun w6 => ?_) (fun w6 => ?_)
                      · walk_at "rd"
                        exact no (bad (.inl fun z => w6 (by have := z.2.2.2; rw [ed] at this; exact this))) H2 s2
                      · walk_at "rd"
                        refine ⟨s2, ⟨_, _, _, rfl⟩, (nodup_snoc yp).mpr ⟨nd, w4⟩, fun x hx => ?_⟩
                        rw [List.take_add_one, yp] at hx
                        rcases List.mem_append.mp hx with h | h
                        · exact fit x h
                        · have : x = p := by simpa using h
                          rw [this]
                          exact ⟨w1, ⟨w2, by rw [List.length_map]; omega⟩, w5, by rw [ed]; exact w6⟩
                    · walk_at "rd"
                      exact no (bad (.inl fun z => w5 z.2.2.1)) H2 s2
              · walk_at "rd"
                exact no (bad (.inl fun z => w2 z.2.1.1)) H' s1
          · rintro σ' H' ⟨s1, ⟨v4, v5, v6, rfl⟩, nd, fit⟩
            walk_at "rd"
            rw [List.take_of_length_le (by omega)] at nd fit
            exact k H' true s1 ⟨fun _ => iff0.mpr ⟨⟨g1, g2⟩, by omega, nd, fit⟩, fun _ => rfl⟩
    · walk_at "rd"
      exact no (fun z => g1 (iff0.mp z).1.1) H (Same.refl H)
theorem ok_l_bad (T : Top K mg) : Cal P w K mg base CX0 2 "_law_bad" ["rows"] (sp_l_bad K) := by
  refine def_ok T.f_l_bad sc_l_bad (fun _ _ _ _ _ _ us hl => match us, hl with | [_], _ => rfl) (fun vs H Q E h => ?_) (fun f cdv A outer s H vs Q E hr h => ?_)
  · obtain ⟨a, rs, rfl, _⟩ := h
    rfl
  · obtain ⟨a, rs, rfl, ok, hd, k⟩ := h
    obtain ⟨a, vs, rfl, ha, hvl, hv⟩ := dp_lst hd
    refine ⟨_, (pss_cons (ps_if (pt_cmpR g_gt (pe_callB (g_len (K := K)) (by rfl) T.b_len PySem.boot_len (pa_cons (pv 0) pa_nil)) pe_int (nomark _))
  (pss_one (ps_ret pe_int))
  pss_nil)
  (pss_cons (ps_for PassesOwn.never rfl (pi_range1 rfl T.b_range (pa_cons (pe_callB (g_len (K := K)) (by rfl) T.b_len PySem.boot_len (pa_cons (pv 0) pa_nil)) pa_nil)) (pg_name (i := 1) sc_l_bad.nd rfl (by first | exact Or.inl rfl | exact Or.inr rfl))
  (pss_one (ps_if (pt_not (g_truth (K := K) (g_call (ok_l_fits T) (hr.mono (by decide)) (by rfl) pass0 (pa_cons (pv 0) (pa_cons (pv 1) pa_nil))) (by intro _; rfl)))
    (pss_one (ps_ret (pv 1)))
    pss_nil)))
  (pss_cons (ps_if (pt_cmpR g_eq (pe_callB (g_len (K := K)) (by rfl) T.b_len PySem.boot_len (pa_cons (pv 0) pa_nil)) pe_int (nomark _))
  (pss_one (ps_ret pe_int))
  pss_nil)
  (pss_one (ps_ret pe_non))))), ?_⟩
    walk_at "rd"
    refine G.i_d (fun g1 => ?_) (fun g1 => ?_)
    · walk_at "rd"
      exact k H (some 8) (Same.refl H) (.inr (.inl ⟨by rw [List.length_map]; omega, rfl⟩))
    · walk_at "rd"
      refine G.l_range (fun m σ H' => Same H H' ∧ (∃ v1, σ = [some (.ref a), v1]) ∧ ∀ j, j < m → RowOk (rs.map (·.1)) (rs.map (·.2)) j) ⟨Same.refl H, ⟨none, rfl⟩, fun j hj => absurd hj (Nat.not_lt_zero _)⟩ ?_ ?_
      · rintro m σ' H' hm ⟨s1, ⟨v1, rfl⟩, hj⟩
        walk_at "rd"
        refine ⟨.ref a, rs, m, rfl, by omega, ok, Dp.same s1 _ _ hd, fun H2 b s2 hb => ?_⟩
        cases b with
        | true =>
          walk_at "rd"
          refine ⟨s1.trans s2, ⟨_, rfl⟩, fun j hjm => ?_⟩
          by_cases q : j = m
          · rw [q]; exact hb.mp rfl
          · exact hj j (by omega)
        | false =>
          walk_at "rd"
          exact k H2 (some m) (s1.trans s2) (.inr (.inr ⟨⟨by rw [List.length_map]; omega, by rw [List.length_map]; omega⟩, .inl ⟨m, rfl, by rw [List.length_map]; omega, fun z => (Bool.noConfusion (hb.mpr z)), hj⟩⟩))
      · rintro σ' H' ⟨s1, ⟨v1, rfl⟩, hj⟩
        have ha1 := ha.ext s1
        walk_at "rd"
        refine G.i_d (fun g2 => ?_) (fun g2 => ?_)
        · walk_at "rd"
          exact k H' (some 0) s1 (.inl ⟨by rw [List.length_map]; omega, rfl⟩)
        · walk_at "rd"
          exact k H' none s1 (.inr (.inr ⟨⟨by rw [List.length_map]; omega, by rw [List.length_map]; omega⟩, .inr ⟨rfl, fun j h => hj j (by rw [List.length_map] at h; omega)⟩⟩))
end


/-! ### drawn rows -/
def sp_l_rows (K : PySem.W.Frag) : Sp := fun vs H Q _ => ∃ (p sc : Addr), vs = [.ref p, .int 8] ∧ PoolAt H p sc ∧ ∀ R rs ys H', PoolAt H' p sc → R ≠ p → R ≠ sc → LstS K H' [p, R] R rD rs ys → (1 ≤ rs.length ∧ rs.length ≤ 8) → (∀ r ∈ rs, r.2.length ≤ 5) → Q (.ref R) H'
section
variable {P : Program} {w : World} {K : PySem.W.Frag} {mg : Str → Option Value} {base : Heap}
theorem ok_l_rows (T : Top K mg) : Cal P w K mg base CX0 2 "_law_rows" ["pool", "most"] (sp_l_rows K) := by
  refine def_ok T.f_l_rows sc_l_rows (fun _ _ _ _ _ _ us hl => match us, hl with | [_, _], _ => rfl) (fun vs H Q E h => ?_) (fun f cdv A outer s H vs Q E hr h => ?_)
  · obtain ⟨p, sc, rfl, _⟩ := h
    rfl
  · obtain ⟨p, sc, rfl, hp, k⟩ := h
    refine ⟨_, (pss_cons (ps_set (i := 2) sc_l_rows.nd rfl (by first | exact Or.inl rfl | exact Or.inr rfl) (pe_op (g_add (K := K)) pe_int (g_call (ok_l_draw T) (hr.mono (by decide)) (by rfl) pass0 (pa_cons (pv 0) (pa_cons (pv 1) pa_nil)))))
  (pss_cons (ps_setLc (i := 3) (own := [("k", 4)]) rfl sc_l_rows.nd rfl rfl (sw_true rfl rfl rfl (by decide +kernel)) (pi_range1 rfl T.b_range (pa_cons (pv 2) pa_nil)) (blkOk_by (own := [("k", 4)]) (N := ["pool", "most", "size", "exports", "k", "rows", "imports", "other", "procedure"]) (sc := defScope s_l_rows) (by decide +kernel)) (fun _ _ _ _ _ => (pg_name (i := 4) sc_l_rows.nd rfl (Or.inl rfl))) (fun _ _ _ _ _ => pts_nil) (fun _ _ _ _ _ => (pe_op (g_add (K := K)) pe_int (g_call (ok_l_draw T) (hr.mono (by decide)) (by rfl) pass0 (pa_cons (pv 0) (pa_cons pe_int pa_nil))))))
  (pss_cons (ps_set (i := 5) sc_l_rows.nd rfl (by first | exact Or.inl rfl | exact Or.inr rfl) (pe_lst pa_nil))
  (pss_cons (ps_for PassesOwn.never rfl (pi_range1 rfl T.b_range (pa_cons (pv 2) pa_nil)) (pg_name (i := 4) sc_l_rows.nd rfl (by first | exact Or.inl rfl | exact Or.inr rfl))
  (pss_cons (ps_set (i := 6) sc_l_rows.nd rfl (by first | exact Or.inl rfl | exact Or.inr rfl) (pe_lst pa_nil))
    (pss_cons (ps_for PassesOwn.never rfl (pi_range1 rfl T.b_range (pa_cons (pv 2) pa_nil)) (pg_name (i := 7) sc_l_rows.nd rfl (by first | exact Or.inl rfl | exact Or.inr rfl))
    (pss_one (ps_for PassesOwn.never rfl (pi_range1 rfl T.b_range (pa_cons (pe_ix (g_ix (K := K)) (pv 3) (pv 7) (fun _ _ => rfl)) pa_nil)) (pg_name (i := 8) sc_l_rows.nd rfl (by first | exact Or.inl rfl | exact Or.inr rfl))
      (pss_one (ps_if (PW.pt (pw_and (pt_cmpR g_ne (pv 7) (pv 4) (nomark _)) (pw_and (pt_cmpR g_gt (g_call (ok_l_draw T) (hr.mono (by decide)) (by rfl) pass0 (pa_cons (pv 0) (pa_cons pe_int pa_nil))) pe_int (nomark _)) (pw_and1 (pt_cmpR g_lt (pe_callB (g_len (K := K)) (by rfl) T.b_len PySem.boot_len (pa_cons (pv 6) pa_nil)) pe_int (nomark _))))))
        (pss_one (ps_expr (bm_K (K := K) (pe_bm PySem.F.plainAttrs_list PySem.F.slot_list_append PySem.F.type_list_append mt_append (pv 6) (pa_cons (pe_tup (pa_cons (pv 7) (pa_cons (pv 8) pa_nil))) pa_nil)))))
        pss_nil)))))
    (pss_cut (ps_if (pt_cmpR g_eq (g_call (ok_l_draw T) (hr.mono (by decide)) (by rfl) pass0 (pa_cons (pv 0) (pa_cons pe_int pa_nil))) pe_int (nomark _))
    (pss_one (ps_set (i := 6) sc_l_rows.nd rfl (by first | exact Or.inl rfl | exact Or.inr rfl) (g_revL (K := K) (pv 6))))
    pss_nil)
    (pss_one (ps_expr (bm_K (K := K) (pe_bm PySem.F.plainAttrs_list PySem.F.slot_list_append PySem.F.type_list_append mt_append (pv 5) (pa_cons (pe_tup (pa_cons (pe_ix (g_ix (K := K)) (pv 3) (pv 4) (fun _ _ => rfl)) (pa_cons (pv 6) pa_nil))) pa_nil)))))))))
  (pss_one (ps_ret (pv 5))))))), ?_⟩
    walk_at "rd"
    refine ⟨p, sc, 8, rfl, hp, by decide, fun r0 H1 hp b1 r00 r01 => ?_⟩
    walk_at "rd"
    refine G.l_lc walk_range (fun D i acc H' => ∃ es : List Int, acc = es.map V.int ∧ es.length = i ∧ (∀ e ∈ es, 1 ≤ e ∧ e ≤ 3) ∧ PoolAt H' p sc ∧ D ≠ p ∧ D ≠ sc)
      (fun D hD => ⟨[], rfl, rfl, by simp, hp.laid hD, (hp.ne hD).symm, (hp.ne' hD).symm⟩) (fun _ _ _ _ _ _ => trivial) ?_ ?_
    · rintro D i acc x H3 H4 hD hi ⟨es, rfl, he, hes, hp, n1, n2⟩ hL ⟨rfl, rfl⟩
      walk_at "rd"
      refine ⟨rfl, ?_⟩
      walk_at "rd"
      refine ⟨p, sc, 3, rfl, hp, by decide, fun r1 H5 hp b5 r10 r11 => ?_⟩
      walk_at "rd"
      refine G.lc_next (by rw [b5 D n1]; exact hL) (by rw [List.length_map]; walk_at "sz") ⟨es ++ [1 + r1], by simp, by simp [he], fun e h => ?_, hp.upd n1 n2, n1, n2⟩
      rcases List.mem_append.mp h with q | q
      · exact hes e q
      · have : e = 1 + r1 := by simpa using q
        omega
    · rintro E' acc H3 hE0 ⟨es, rfl, he, hes, hp, n1, n2⟩ hE
      walk_at "rd"
      refine ⟨by decide, fun R hR => ?_⟩
      have hp4 := hp.laid (o := .lst []) hR
      have hE4 : upd H3 R (.lst []) E' = some (.lst (es.map V.int)) := by rw [upd_ne (ne_of_none hE hR)]; exact hE
      have hR4 : upd H3 R (.lst []) R = some (.lst []) := upd_same
      have nRp := (hp.ne hR).symm
      have nRs := (hp.ne' hR).symm
      have nER := ne_of_none hE hR
      generalize upd H3 R (.lst []) = H4 at hp4 hE4 hR4 ⊢
      walk_at "rd"
      refine G.l_range (fun m σ H' => ∃ (rs : List (Int × List (Int × Int))) (ys : List V) (v4 v6 v7 v8 : Option V), σ = [some (.ref p), some (.int 8), some (.int (1 + r0)), some (.ref E'), v4, some (.ref R), v6, v7, v8] ∧
        PoolAt H' p sc ∧ H' E' = some (.lst (es.map V.int)) ∧ LstS K H' [p, R] R rD rs ys ∧ rs.length = m ∧ ∀ r ∈ rs, r.2.length ≤ 5) ⟨[], [], none, none, none, none, rfl, hp4, hE4, LstS.nil hR4, rfl, by simp⟩ ?_ ?_
      · rintro m σ' H5 hm ⟨rs, ys, v4, v6, v7, v8, rfl, hp5, hE5, hL5, hrs, h5⟩
        walk_at "rd"
        refine ⟨by decide, fun I hI => ?_⟩
        have nIp := (hp5.ne hI).symm
        have nIs := (hp5.ne' hI).symm
        have nEI := ne_of_none hE5 hI
        have nRI := ne_of_none hL5.at_ hI
        have hp6 := hp5.laid (o := .lst []) hI
        have hE6 : upd H5 I (.lst []) E' = some (.lst (es.map V.int)) := by rw [upd_ne nEI]; exact hE5
        have hL6 : LstS K (upd H5 I (.lst [])) [p, R, I] R rD rs ys := hL5.more hI (by simp)
        have hI6 : upd H5 I (.lst []) I = some (.lst []) := upd_same
        generalize upd H5 I (.lst []) = H6 at hp6 hE6 hL6 hI6 ⊢
        have Inn0 : True := trivial
        walk_at "rd"
        refine G.l_range (fun _ σ H' => ∃ (im : List (Int × Int)) (zs : List V) (v7 v8 : Option V), σ = [some (.ref p), some (.int 8), some (.int (1 + r0)), some (.ref E'), some (.int (m : Nat)), some (.ref R), some (.ref I), v7, v8] ∧
          PoolAt H' p sc ∧ H' E' = some (.lst (es.map V.int)) ∧ LstS K H' [p, R, I] R rD rs ys ∧ LstS K H' [p, R, I] I pD im zs ∧ im.length ≤ 5) ⟨[], [], _, _, rfl, hp6, hE6, hL6, LstS.nil hI6, by decide⟩ ?_ ?_
        · rintro c σ' H7 hc ⟨im, zs, v7, v8, rfl, hp7, hE7, hL7, hI7, him⟩
          have aE : atI (es.map V.int) (c : Int) = some (.int (es.getD c 0)) := by
            have := atI_map (is := es) (i := (c : Int)) (Int.natCast_nonneg _) (by omega)
            rwa [Int.toNat_natCast] at this
          have hec : es.getD c 0 ∈ es := by
            rw [List.getD_eq_getElem?_getD, List.getElem?_eq_getElem (by omega)]
            exact List.getElem_mem _
          have hb := hes _ hec
          walk_at "rd"
          refine G.l_range (fun _ σ H' => ∃ (im : List (Int × Int)) (zs : List V) (v8 : Option V), σ = [some (.ref p), some (.int 8), some (.int (1 + r0)), some (.ref E'), some (.int (m : Nat)), some (.ref R), some (.ref I), some (.int (c : Nat)), v8] ∧
            PoolAt H' p sc ∧ H' E' = some (.lst (es.map V.int)) ∧ LstS K H' [p, R, I] R rD rs ys ∧ LstS K H' [p, R, I] I pD im zs ∧ im.length ≤ 5) ⟨im, zs, _, rfl, hp7, hE7, hL7, hI7, him⟩ ?_ ?_
          · rintro d σ' H8 hd ⟨im, zs, v8, rfl, hp8, hE8, hL8, hI8, him⟩
            walk_at "rd"
            refine G.i_nd (fun g1 => ?_) (fun g1 => ?_)
            · walk_at "rd"
              refine ⟨p, sc, 5, rfl, hp8, by decide, fun r2 H9 hp9 b9 r20 r21 => ?_⟩
              have hE9 : H9 E' = some (.lst (es.map V.int)) := by rw [b9 E' n1]; exact hE8
              have hL9 := hL8.but (List.mem_cons_self) nRp b9
              have hI9 := hI8.but (List.mem_cons_self) nIp b9
              have hIa := hI9.at_
              have hzl := hI9.len
              walk_at "rd"
              refine G.i_d (fun g2 => ?_) (fun g2 => ?_)
              · walk_at "rd"
                refine G.i_d (fun g3 => ?_) (fun g3 => ?_)
                · walk_at "rd"
                  refine ⟨by show 2 ≤ sizeLine; decide, fun q hq => ?_⟩
                  walk_at "rd"
                  have q1 := (hp9.ne hq).symm
                  have q2 := (ne_of_none hL9.at_ hq).symm
                  have q3 := (ne_of_none hI9.at_ hq).symm
                  exact ⟨im ++ [((c : Int), (d : Int))], zs ++ [.ref q], _, rfl, (hp9.laid hq).upd nIp nIs, by rw [upd_ne nEI, upd_ne (ne_of_none hE9 hq)]; exact hE9, (hL9.new hq).other (by simp) nRI,
                    (hI9.new hq).app (by simp) (of_two (SqT.of (by rw [hid_out (by simp [q1, q2, q3])]; exact upd_same)) (.int _) (.int _)), by rw [List.length_append, List.length_singleton]; omega⟩
                · walk_at "rd"
                  exact ⟨im, zs, _, rfl, hp9, hE9, hL9, hI9, him⟩
              · walk_at "rd"
                exact ⟨im, zs, _, rfl, hp9, hE9, hL9, hI9, him⟩
            · walk_at "rd"
              exact ⟨im, zs, _, rfl, hp8, hE8, hL8, hI8, him⟩
          · rintro σ' H8 ⟨im, zs, v8, rfl, hp8, hE8, hL8, hI8, him⟩
            exact ⟨im, zs, _, _, rfl, hp8, hE8, hL8, hI8, him⟩
        · rintro σ' H7 ⟨im, zs, v7, v8, rfl, hp7, hE7, hL7, hI7, him⟩
          show tCut _ _ _ _ _
          refine G.r_cut (fun σ H' => ∃ (J : Addr) (im : List (Int × Int)) (v7 v8 : Option V), σ = [some (.ref p), some (.int 8), some (.int (1 + r0)), some (.ref E'), some (.int (m : Nat)), some (.ref R), some (.ref J), v7, v8] ∧
            PoolAt H' p sc ∧ H' E' = some (.lst (es.map V.int)) ∧ LstS K H' [p, R] R rD rs ys ∧ Dp K (hid H' [p, R]) (.ref J) (psD im) ∧ im.length ≤ 5) ?_ ?_
          · walk_at "rd"
            refine ⟨p, sc, 3, rfl, hp7, by decide, fun r2 H9 hp9 b9 r20 r21 => ?_⟩
            have hE9 : H9 E' = some (.lst (es.map V.int)) := by rw [b9 E' n1]; exact hE7
            have hL9 := hL7.but (List.mem_cons_self) nRp b9
            have hI9 := hI7.but (List.mem_cons_self) nIp b9
            walk_at "rd"
            refine G.i_d (fun g1 => ?_) (fun g1 => ?_)
            · walk_at "rd"
              refine ⟨I, zs, rfl, SqL.of hI9.at_, fun l hl => ?_⟩
              walk_at "rd"
              have q1 := (hp9.ne hl).symm
              have q2 := (ne_of_none hL9.at_ hl).symm
              refine ⟨l, im.reverse, _, _, rfl, hp9.laid hl, by rw [upd_ne (ne_of_none hE9 hl)]; exact hE9, (hL9.new hl).less (by simp), ?_, by rw [List.length_reverse]; exact him⟩
              refine of_lst (SqL.of (by rw [hid_out (by simp [q1, q2])]; exact upd_same)) (by rw [List.length_reverse, List.length_reverse, hI9.len]) fun i y x h1 h2 => ?_
              have hi := (List.getElem?_eq_some_iff.mp h1).1
              rw [List.length_reverse] at hi
              rw [List.getElem?_reverse hi] at h1
              rw [List.getElem?_reverse (by rw [← hI9.len]; exact hi), ← hI9.len] at h2
              exact Dp.same (fun b o e => hid_new hl b o (hid_sub (by simp) b o e)) _ _ (hI9.it _ y x h1 h2)
            · walk_at "rd"
              exact ⟨I, im, _, _, rfl, hp9, hE9, hL9.less (by simp), hI9.fin (by simp) (by simp [nIp, nRI.symm]), him⟩
          · rintro σ' H8 ⟨J, im, v7, v8, rfl, hp8, hE8, hL8, dJ, him⟩
            have aE : atI (es.map V.int) (m : Int) = some (.int (es.getD m 0)) := by
              have := atI_map (is := es) (i := (m : Int)) (Int.natCast_nonneg _) (by omega)
              rwa [Int.toNat_natCast] at this
            have hRa := hL8.at_
            have hyl := hL8.len
            walk_at "rd"
            refine ⟨by show 2 ≤ sizeLine; decide, fun q hq => ?_⟩
            walk_at "rd"
            have q1 := (hp8.ne hq).symm
            have q2 := (ne_of_none hL8.at_ hq).symm
            refine ⟨rs ++ [(es.getD m 0, im)], ys ++ [.ref q], _, _, _, _, rfl, (hp8.laid hq).upd nRp nRs, by rw [upd_ne nER, upd_ne (ne_of_none hE8 hq)]; exact hE8,
              (hL8.new hq).app (by simp) (of_two (SqT.of (by rw [hid_out (by simp [q1, q2])]; exact upd_same)) (.int _) (Dp.same (hid_new hq) _ _ dJ)), by rw [List.length_append, List.length_singleton, hrs], fun r hr => ?_⟩
            rcases List.mem_append.mp hr with h | h
            · exact h5 r h
            · have : r = (es.getD m 0, im) := by simpa using h
              rw [this]; exact him
      · rintro σ' H5 ⟨rs, ys, v4, v6, v7, v8, rfl, hp5, hE5, hL5, hrs, h5⟩
        walk_at "rd"
        exact k R rs ys H5 hp5 nRp nRs hL5 ⟨by omega, by omega⟩ h5
end
def sp_l_drawn_rows (K : PySem.W.Frag) : Sp := fun vs H Q _ => ∃ (p sc : Addr), vs = [.ref p] ∧ PoolAt H p sc ∧ ∀ R rs ys H', PoolAt H' p sc → R ≠ p → R ≠ sc → LstS K H' [p, R] R rD rs ys → rs.length ≤ 16 → (∀ r ∈ rs, r.2.length ≤ 10) → Q (.ref R) H'
section
variable {P : Program} {w : World} {K : PySem.W.Frag} {mg : Str → Option Value} {base : Heap}
theorem lstS_cat {H : Hp} {L L' : List Addr} {R D l : Addr} {α : Type} {f : α → PyData} {xs zs : List α} {ys ws : List V} (a : LstS K H L R f xs ys) (b : LstS K H L D f zs ws) (hl : H l = none) (h : ∀ b ∈ L', b ∈ L ∨ b = l) : LstS K (upd H l (.lst (ys ++ ws))) L' l f (xs ++ zs) (ys ++ ws) := by
  refine ⟨upd_same, by rw [List.length_append, List.length_append, a.len, b.len], fun i y x h1 h2 => Dp.same (hid_more hl h) _ _ ?_⟩
  by_cases hi : i < ys.length
  · rw [List.getElem?_append_left hi] at h1
    rw [List.getElem?_append_left (by rw [← a.len]; exact hi)] at h2
    exact a.it i y x h1 h2
  · rw [List.getElem?_append_right (by omega)] at h1
    rw [List.getElem?_append_right (by rw [← a.len]; omega), ← a.len] at h2
    exact b.it _ y x h1 h2
theorem lstS_take {H : Hp} {L L' : List Addr} {R l : Addr} {α : Type} {f : α → PyData} {xs : List α} {ys : List V} {c : Nat} (a : LstS K H L R f xs ys) (hl : H l = none) (h : ∀ b ∈ L', b ∈ L ∨ b = l) : LstS K (upd H l (.lst (ys.take c))) L' l f (xs.take c) (ys.take c) := by
  refine ⟨upd_same, by rw [List.length_take, List.length_take, a.len], fun i y x h1 h2 => Dp.same (hid_more hl h) _ _ ?_⟩
  rw [List.getElem?_take] at h1 h2
  split at h1
  · rename_i hi
    rw [if_pos hi] at h2
    exact a.it i y x h1 h2
  · cases h1
def DrF (K : PySem.W.Frag) (p sc R : Addr) (H : Hp) : Prop := PoolAt H p sc ∧ R ≠ p ∧ R ≠ sc ∧ ∃ rs ys, LstS K H [p, R] R rD rs ys ∧ rs.length ≤ 16 ∧ ∀ r ∈ rs, r.2.length ≤ 10
theorem ixN_at {n j : Nat} (hj : j < n) : ixN n (j : Int) = some j := by
  unfold ixN
  rw [if_pos (Int.natCast_nonneg j), if_pos (by omega), Int.toNat_natCast]
theorem of_snoc {H : Hp} {l : Addr} {us : List V} {im : List (Int × Int)} {y : V} {x : Int × Int} (h : SqL K H l (us ++ [y])) (hl : us.length = im.length) (hu : ∀ (i : Nat) y x, us[i]? = some y → im[i]? = some x → Dp K H y (pD x)) (d : Dp K H y (pD x)) : Dp K H (.ref l) (psD (im ++ [x])) := by
  refine of_lst h (by simp [hl]) fun i v z h1 h2 => ?_
  by_cases hi : i < us.length
  · rw [List.getElem?_append_left hi] at h1
    rw [List.getElem?_append_left (by omega)] at h2
    exact hu i v z h1 h2
  · rw [List.getElem?_append_right (by omega)] at h1
    rw [List.getElem?_append_right (by omega), ← hl] at h2
    have e : i - us.length = 0 := by
      have := (List.getElem?_eq_some_iff.mp h1).1
      rw [List.length_singleton] at this
      omega
    rw [e] at h1 h2
    cases h1
    cases h2
    exact d
/-- what stands while the drawn rows are changed at the place n -/
def Dr1 (K : PySem.W.Frag) (p sc R J : Addr) (n : Nat) (im : List (Int × Int)) (H : Hp) : Prop := PoolAt H p sc ∧ (∃ rs ys, LstS K H [p, R] R rD rs ys ∧ n < rs.length ∧ rs.length ≤ 8 ∧ ∀ r ∈ rs, r.2.length ≤ 6) ∧ Dp K (hid H [p, R]) (.ref J) (psD im)
theorem Dr1.put {p sc R J q l : Addr} {n : Nat} {im im' : List (Int × Int)} {H : Hp} {rs : List (Int × List (Int × Int))} {ys : List V} {e : Int} (hp : PoolAt H p sc) (nRp : R ≠ p) (nRs : R ≠ sc) (a : LstS K H [p, R] R rD rs ys) (hn : n < rs.length) (h8 : rs.length ≤ 8) (h6 : ∀ r ∈ rs, r.2.length ≤ 6) (dJ : Dp K (hid H [p, R]) (.ref J) (psD im))
    (hq : H q = none) (d : Dp K (hid H [p, R]) (.ref l) (psD im')) (h' : im'.length ≤ 6) : Dr1 K p sc R J n im (upd (upd H q (.tup [.int e, .ref l])) R (.lst (ys.set n (.ref q)))) := by
  have q1 := (hp.ne hq).symm
  have q2 := (ne_of_none a.at_ hq).symm
  refine ⟨(hp.laid hq).upd nRp nRs, ⟨rs.set n (e, im'), _, (a.new hq).put (x := (e, im')) (by simp) (of_two (SqT.of (by rw [hid_out (by simp [q1, q2])]; exact upd_same)) (.int _) (Dp.same (hid_new hq) _ _ d)), by rw [List.length_set]; exact hn, by rw [List.length_set]; exact h8, fun r hr => ?_⟩, ?_⟩
  · rcases List.mem_or_eq_of_mem_set hr with h | h
    · exact h6 r h
    · rw [h]; exact h'
  · rw [hid_upd (by simp)]
    exact Dp.same (hid_new hq) _ _ dJ
theorem ok_l_drawn_rows (T : Top K mg) : Cal P w K mg base CX0 3 "_law_drawn_rows" ["pool"] (sp_l_drawn_rows K) := by
  refine def_ok T.f_l_drawn_rows sc_l_drawn_rows (fun _ _ _ _ _ _ us hl => match us, hl with | [_], _ => rfl) (fun vs H Q E h => ?_) (fun f cdv A outer s H vs Q E hr h => ?_)
  · obtain ⟨p, sc, rfl, _⟩ := h
    rfl
  · obtain ⟨p, sc, rfl, hp, k⟩ := h
    refine ⟨_, (pss_cons (ps_set (i := 1) sc_l_drawn_rows.nd rfl (by first | exact Or.inl rfl | exact Or.inr rfl) (g_call (ok_l_rows T) (hr.mono (by decide)) (by rfl) pass0 (pa_cons (pv 0) (pa_cons pe_int pa_nil))))
  (pss_cons (ps_set (i := 2) sc_l_drawn_rows.nd rfl (by first | exact Or.inl rfl | exact Or.inr rfl) (g_call (ok_l_draw T) (hr.mono (by decide)) (by rfl) pass0 (pa_cons (pv 0) (pa_cons pe_int pa_nil))))
  (pss_cons (ps_set (i := 3) sc_l_drawn_rows.nd rfl (by first | exact Or.inl rfl | exact Or.inr rfl) (g_call (ok_l_draw T) (hr.mono (by decide)) (by rfl) pass0 (pa_cons (pv 0) (pa_cons (pe_callB (g_len (K := K)) (by rfl) T.b_len PySem.boot_len (pa_cons (pv 1) pa_nil)) pa_nil))))
  (pss_cons (ps_asg (pe_ix (g_ix (K := K)) (pv 1) (pv 3) (fun _ _ => rfl)) (ptup_K (K := K) (pg_tup (n := 2) rfl (pgs_cons (pg_name (i := 4) sc_l_drawn_rows.nd rfl (by first | exact Or.inl rfl | exact Or.inr rfl)) (pgs_cons (pg_name (i := 5) sc_l_drawn_rows.nd rfl (by first | exact Or.inl rfl | exact Or.inr rfl)) pgs_nil)))))
  (pss_cut (ps_if (pt_cmpR g_eq (pv 2) pe_int (nomark _))
  (pss_one (ps_asg (pe_tup (pa_cons (g_call (ok_l_draw T) (hr.mono (by decide)) (by rfl) pass0 (pa_cons (pv 0) (pa_cons pe_int pa_nil))) (pa_cons (pv 5) pa_nil))) (pg_sub (pv 1) (pv 3) set_list)))
  pss_nil)
  (pss_cut (ps_if (PW.pt (pw_and (pt_cmpR g_eq (pv 2) pe_int (nomark _)) (pw_and1 (g_truth (K := K) (pv 5) (by intro _; rfl)))))
  (pss_one (ps_asg (pe_tup (pa_cons (pv 4) (pa_cons (pe_op (g_catS (K := K)) (pv 5) (pe_lst (pa_cons (pe_ix (g_ix (K := K)) (pv 5) (g_call (ok_l_draw T) (hr.mono (by decide)) (by rfl) pass0 (pa_cons (pv 0) (pa_cons (pe_callB (g_len (K := K)) (by rfl) T.b_len PySem.boot_len (pa_cons (pv 5) pa_nil)) pa_nil))) (fun _ _ => rfl)) pa_nil))) pa_nil))) (pg_sub (pv 1) (pv 3) set_list)))
  pss_nil)
  (pss_cut (ps_if (pt_cmpR g_eq (pv 2) pe_int (nomark _))
  (pss_one (ps_asg (pe_tup (pa_cons (pv 4) (pa_cons (pe_op (g_catS (K := K)) (pv 5) (pe_lst (pa_cons (pe_tup (pa_cons (pe_op g_sub (g_call (ok_l_draw T) (hr.mono (by decide)) (by rfl) pass0 (pa_cons (pv 0) (pa_cons pe_int pa_nil))) pe_int) (pa_cons (pe_op g_sub (g_call (ok_l_draw T) (hr.mono (by decide)) (by rfl) pass0 (pa_cons (pv 0) (pa_cons pe_int pa_nil))) pe_int) pa_nil))) pa_nil))) pa_nil))) (pg_sub (pv 1) (pv 3) set_list)))
  pss_nil)
  (pss_cut (ps_if (pt_cmpR g_eq (pv 2) pe_int (nomark _))
  (pss_one (ps_set (i := 1) sc_l_drawn_rows.nd rfl (by first | exact Or.inl rfl | exact Or.inr rfl) (pe_op (g_add (K := K)) (pv 1) (pe_lc (own := [("k", 6)]) rfl sc_l_drawn_rows.nd (pi_range1 rfl T.b_range (pa_cons (g_call (ok_l_draw T) (hr.mono (by decide)) (by rfl) pass0 (pa_cons (pv 0) (pa_cons pe_int pa_nil))) pa_nil)) (blkOk_by (own := [("k", 6)]) (N := ["pool", "rows", "way", "place", "exported", "imports", "k"]) (sc := defScope s_l_drawn_rows) (by decide +kernel)) (fun _ _ _ _ _ => (pg_name (i := 6) sc_l_drawn_rows.nd rfl (Or.inl rfl))) (fun _ _ _ _ _ => pts_nil) (fun _ _ _ _ _ => (pe_tup (pa_cons pe_int (pa_cons (pe_lst pa_nil) pa_nil))))))))
  pss_nil)
  (pss_cut (ps_if (pt_cmpR g_eq (pv 2) pe_int (nomark _))
  (pss_one (ps_set (i := 1) sc_l_drawn_rows.nd rfl (by first | exact Or.inl rfl | exact Or.inr rfl) (pe_slice (g_sl (K := K)) (pv 1) po_none (po_some (g_call (ok_l_draw T) (hr.mono (by decide)) (by rfl) pass0 (pa_cons (pv 0) (pa_cons pe_int pa_nil)))))))
  pss_nil)
  (pss_cut (ps_if (pt_cmpR g_eq (pv 2) pe_int (nomark _))
  (pss_one (ps_set (i := 1) sc_l_drawn_rows.nd rfl (by first | exact Or.inl rfl | exact Or.inr rfl) (pe_lst (pa_cons (pe_tup (pa_cons pe_int (pa_cons (pe_lc (own := [("k", 6)]) rfl sc_l_drawn_rows.nd (pi_range1 rfl T.b_range (pa_cons (g_call (ok_l_draw T) (hr.mono (by decide)) (by rfl) pass0 (pa_cons (pv 0) (pa_cons pe_int pa_nil))) pa_nil)) (blkOk_by (own := [("k", 6)]) (N := ["pool", "rows", "way", "place", "exported", "imports", "k"]) (sc := defScope s_l_drawn_rows) (by decide +kernel)) (fun _ _ _ _ _ => (pg_name (i := 6) sc_l_drawn_rows.nd rfl (Or.inl rfl))) (fun _ _ _ _ _ => pts_nil) (fun _ _ _ _ _ => (pe_tup (pa_cons pe_int (pa_cons (pv 6) pa_nil))))) pa_nil))) (pa_cons (pe_tup (pa_cons pe_int (pa_cons (pe_lc (own := [("k", 6)]) rfl sc_l_drawn_rows.nd (pi_range1 rfl T.b_range (pa_cons (g_call (ok_l_draw T) (hr.mono (by decide)) (by rfl) pass0 (pa_cons (pv 0) (pa_cons pe_int pa_nil))) pa_nil)) (blkOk_by (own := [("k", 6)]) (N := ["pool", "rows", "way", "place", "exported", "imports", "k"]) (sc := defScope s_l_drawn_rows) (by decide +kernel)) (fun _ _ _ _ _ => (pg_name (i := 6) sc_l_drawn_rows.nd rfl (Or.inl rfl))) (fun _ _ _ _ _ => pts_nil) (fun _ _ _ _ _ => (pe_tup (pa_cons pe_int (pa_cons (pv 6) pa_nil))))) pa_nil))) pa_nil)))))
  pss_nil)
  (pss_one (ps_ret (pv 1))))))))))))), ?_⟩
    walk_at "rd"
    refine ⟨p, sc, rfl, hp, fun R rs ys H1 hp1 nRp nRs (hL1 : LstS K H1 [p, R] R rD rs ys) ⟨hl1, hl2⟩ h5 => ?_⟩
    walk_at "rd"
    refine ⟨p, sc, 9, rfl, hp1, by decide, fun way H2 hp2 b2 w0 w1 => ?_⟩
    have hL2 := hL1.but (List.mem_cons_self) nRp b2
    have hR2 := hL2.at_
    have hyl := hL2.len
    walk_at "rd"
    refine ⟨p, sc, _, rfl, hp2, by omega, fun pl H3 hp3 b3 p0 p1 => ?_⟩
    have hL3 := hL2.but (List.mem_cons_self) nRp b3
    have hR3 := hL3.at_
    obtain ⟨n, rfl⟩ : ∃ n : Nat, pl = n := ⟨pl.toNat, by omega⟩
    have hn : n < ys.length := by omega
    have yv : ys[n]? = some ys[n] := List.getElem?_eq_getElem hn
    have yr : rs[n]? = some rs[n] := List.getElem?_eq_getElem (by omega)
    obtain ⟨q, x1, x2, hq0, hq, d1, d2⟩ := dp_two (hL3.it n _ _ yv yr)
    obtain rfl := dp_int d1
    have av : atI ys (n : Int) = some (.ref q) := by rw [← hq0]; exact atI_nat yv
    obtain ⟨J, us, rfl, hJ, hul, hu⟩ := dp_lst d2
    have him : rs[n].2.length ≤ 5 := h5 _ (List.getElem_mem _)
    generalize rs[n].2 = im at d2 hul hu him
    generalize rs[n].1 = e at d1 hq
    walk_at "rd"
    refine v_unp2 (hq.ext hid_le) ?_
    walk_at "rd"
    have stp : True := trivial
    show tCut _ _ _ _ _
    refine G.r_cut (fun σ H' => σ = [some (.ref p), some (.ref R), some (.int way), some (.int (n : Nat)), some (.int e), some (.ref J), none] ∧ Dr1 K p sc R J n im H') ?_ ?_
    · walk_at "rd"
      refine G.i_d (fun g1 => ?_) (fun g1 => ?_)
      · walk_at "rd"
        refine ⟨p, sc, 11, rfl, hp3, by decide, fun r1 H4 hp4 b4 r10 r11 => ?_⟩
        have hL4 := hL3.but (List.mem_cons_self) nRp b4
        have dJ4 : Dp K (hid H4 [p, R]) (.ref J) (psD im) := by rw [hid_eq (List.mem_cons_self) b4]; exact d2
        walk_at "rd"
        refine ⟨by show 2 ≤ sizeLine; decide, fun q hq => ?_⟩
        have hRq := (hL4.new (o := .tup [.int r1, .ref J]) hq).at_
        have hix := ixN_at hn
        walk_at "rd"
        exact ⟨rfl, Dr1.put hp4 nRp nRs hL4 (by omega) hl2 (fun r hr => by have := h5 r hr; omega) dJ4 hq dJ4 (by omega)⟩
      · walk_at "rd"
        exact ⟨rfl, hp3, ⟨rs, ys, hL3, by omega, hl2, fun r hr => by have := h5 r hr; omega⟩, d2⟩
    clear hu hul hJ us d2 yv yr av hn hL3 hR3 hL2 hR2 hL1 h5 hl1 hl2 hyl hq hq0 d1 p1
    rintro σ' H4 ⟨rfl, hp4, ⟨rs, ys, hL4, hn4, hl4, h6⟩, dJ⟩
    obtain ⟨J', us, eJ, hJ, hul, hu⟩ := dp_lst dJ
    obtain rfl : J = J' := V.ref.inj eJ
    have hJ4 := hJ.ext hid_le
    show tCut _ _ _ _ _
    refine G.r_cut (fun σ H' => σ = [some (.ref p), some (.ref R), some (.int way), some (.int (n : Nat)), some (.int e), some (.ref J), none] ∧ Dr1 K p sc R J n im H') ?_ ?_
    · have skip : Dr1 K p sc R J n im H4 := ⟨hp4, ⟨rs, ys, hL4, hn4, hl4, h6⟩, dJ⟩
      walk_at "rd"
      refine G.i_d (fun g1 => ?_) (fun g1 => ?_)
      · walk_at "rd"
        refine t_lstS hJ4 ?_
        refine G.i_b (fun g2 => ?_) (fun g2 => ?_)
        · have hus : 0 < us.length := by
            cases us with
            | nil => cases g2
            | cons _ _ => simp
          walk_at "rd"
          refine ⟨p, sc, _, rfl, hp4, by omega, fun r1 H5 hp5 b5 r10 r11 => ?_⟩
          have hL5 := hL4.but (List.mem_cons_self) nRp b5
          have eh : hid H5 [p, R] = hid H4 [p, R] := hid_eq (List.mem_cons_self) b5
          have dJ5 : Dp K (hid H5 [p, R]) (.ref J) (psD im) := by rw [eh]; exact dJ
          have hJh5 : SqL K (hid H5 [p, R]) J us := by rw [eh]; exact hJ
          have hu5 : ∀ (i : Nat) y x, us[i]? = some y → im[i]? = some x → Dp K (hid H5 [p, R]) y (pD x) := by rw [eh]; exact hu
          have hJ5 := hJh5.ext hid_le
          obtain ⟨c, rfl⟩ : ∃ c : Nat, r1 = c := ⟨r1.toNat, by omega⟩
          have hc : c < us.length := by omega
          have yu : us[c]? = some us[c] := List.getElem?_eq_getElem hc
          have yi : im[c]? = some im[c] := List.getElem?_eq_getElem (by omega)
          have au : atI us (c : Int) = some us[c] := atI_nat yu
          walk_at "rd"
          refine ⟨by show 1 ≤ sizeLine; decide, fun l1 hl1 => ?_⟩
          have s6 : Same (hid H5 [p, R]) (hid (upd H5 l1 (.lst [us[c]])) [p, R]) := hid_new hl1
          have hp6 := hp5.laid (o := .lst [us[c]]) hl1
          have hL6 := hL5.new (o := .lst [us[c]]) hl1
          have hl16 : upd H5 l1 (.lst [us[c]]) l1 = some (.lst [us[c]]) := upd_same
          generalize upd H5 l1 (.lst [us[c]]) = H6 at s6 hp6 hL6 hl16 ⊢
          refine v_catS ((hJh5.ext s6).ext hid_le) (SqL.of hl16) (by rw [line_val, List.length_singleton]; omega) fun l2 hl2 => ?_
          have s7 : Same (hid H5 [p, R]) (hid (upd H6 l2 (.lst (us ++ [us[c]]))) [p, R]) := s6.trans (hid_new hl2)
          have hp7 := hp6.laid (o := .lst (us ++ [us[c]])) hl2
          have n1 := (hp6.ne hl2).symm
          have n2 := (ne_of_none hL6.at_ hl2).symm
          have hL7 := hL6.new (o := .lst (us ++ [us[c]])) hl2
          have d7 : Dp K (hid (upd H6 l2 (.lst (us ++ [us[c]]))) [p, R]) (.ref l2) (psD (im ++ [im[c]])) :=
            of_snoc (SqL.of (by rw [hid_out (by simp [n1, n2])]; exact upd_same)) hul (fun i y x h1 h2 => Dp.same s7 _ _ (hu5 i y x h1 h2)) (Dp.same s7 _ _ (hu5 c _ _ yu yi))
          generalize upd H6 l2 (.lst (us ++ [us[c]])) = H7 at s7 hp7 hL7 d7 ⊢
          walk_at "rd"
          refine ⟨by show 2 ≤ sizeLine; decide, fun q hq => ?_⟩
          have hRq := (hL7.new (o := .tup [.int e, .ref l2]) hq).at_
          have hix := ixN_at (show n < ys.length by rw [hL7.len]; exact hn4)
          walk_at "rd"
          exact ⟨rfl, Dr1.put hp7 nRp nRs hL7 hn4 hl4 h6 (Dp.same s7 _ _ dJ5) hq d7 (by rw [List.length_append, List.length_singleton]; omega)⟩
        · walk_at "rd"
          exact ⟨rfl, skip⟩
      · walk_at "rd"
        exact ⟨rfl, skip⟩
    clear hu hul hJ us hJ4 dJ hL4 hn4 hl4 h6 hp4 eJ rs ys
    rintro σ' H4 ⟨rfl, hp4, ⟨rs, ys, hL4, hn4, hl4, h6⟩, dJ⟩
    obtain ⟨J', us, eJ, hJ, hul, hu⟩ := dp_lst dJ
    obtain rfl : J = J' := V.ref.inj eJ
    show tCut _ _ _ _ _
    refine G.r_cut (fun σ H' => σ = [some (.ref p), some (.ref R), some (.int way), some (.int (n : Nat)), some (.int e), some (.ref J), none] ∧ Dr1 K p sc R J n im H') ?_ ?_
    · walk_at "rd"
      refine G.i_d (fun g1 => ?_) (fun g1 => ?_)
      · walk_at "rd"
        refine ⟨p, sc, 11, rfl, hp4, by decide, fun r1 H5 hp5 b5 r10 r11 => ?_⟩
        walk_at "rd"
        refine ⟨p, sc, 5, rfl, hp5, by decide, fun r2 H6 hp6 b6 r20 r21 => ?_⟩
        have b56 : ∀ b, b ≠ p → H6 b = H4 b := fun b hb => (b6 b hb).trans (b5 b hb)
        have hL6 := hL4.but (List.mem_cons_self) nRp b56
        have eh : hid H6 [p, R] = hid H4 [p, R] := hid_eq (List.mem_cons_self) b56
        have dJ6 : Dp K (hid H6 [p, R]) (.ref J) (psD im) := by rw [eh]; exact dJ
        have hJh6 : SqL K (hid H6 [p, R]) J us := by rw [eh]; exact hJ
        have hu6 : ∀ (i : Nat) y x, us[i]? = some y → im[i]? = some x → Dp K (hid H6 [p, R]) y (pD x) := by rw [eh]; exact hu
        clear hL4 hJ hu dJ hp5 hp4 b5 b6 b56
        walk_at "rd"
        refine ⟨by show 2 ≤ sizeLine; decide, fun q0 hq0 => ?_⟩
        have s7 : Same (hid H6 [p, R]) (hid (upd H6 q0 (.tup [.int (r1 - 1), .int (r2 - 1)])) [p, R]) := hid_new hq0
        have m1 := (hp6.ne hq0).symm
        have m2 := (ne_of_none hL6.at_ hq0).symm
        have hp7 := hp6.laid (o := .tup [.int (r1 - 1), .int (r2 - 1)]) hq0
        have hL7 := hL6.new (o := .tup [.int (r1 - 1), .int (r2 - 1)]) hq0
        have dq7 : Dp K (hid (upd H6 q0 (.tup [.int (r1 - 1), .int (r2 - 1)])) [p, R]) (.ref q0) (pD (r1 - 1, r2 - 1)) := of_two (SqT.of (by rw [hid_out (by simp [m1, m2])]; exact upd_same)) (.int _) (.int _)
        generalize upd H6 q0 (.tup [.int (r1 - 1), .int (r2 - 1)]) = H7 at s7 hp7 hL7 dq7 ⊢
        walk_at "rd"
        refine ⟨by show 1 ≤ sizeLine; decide, fun l1 hl1 => ?_⟩
        have s8 : Same (hid H7 [p, R]) (hid (upd H7 l1 (.lst [.ref q0])) [p, R]) := hid_new hl1
        have hp8 := hp7.laid (o := .lst [.ref q0]) hl1
        have hL8 := hL7.new (o := .lst [.ref q0]) hl1
        have hl18 : upd H7 l1 (.lst [.ref q0]) l1 = some (.lst [.ref q0]) := upd_same
        generalize upd H7 l1 (.lst [.ref q0]) = H8 at s8 hp8 hL8 hl18 ⊢
        refine v_catS (((hJh6.ext s7).ext s8).ext hid_le) (SqL.of hl18) (by rw [line_val, List.length_singleton]; omega) fun l2 hl2 => ?_
        have s9 : Same (hid H8 [p, R]) (hid (upd H8 l2 (.lst (us ++ [.ref q0]))) [p, R]) := hid_new hl2
        have hp9 := hp8.laid (o := .lst (us ++ [.ref q0])) hl2
        have n1 := (hp8.ne hl2).symm
        have n2 := (ne_of_none hL8.at_ hl2).symm
        have hL9 := hL8.new (o := .lst (us ++ [.ref q0])) hl2
        have d9 : Dp K (hid (upd H8 l2 (.lst (us ++ [.ref q0]))) [p, R]) (.ref l2) (psD (im ++ [(r1 - 1, r2 - 1)])) :=
          of_snoc (SqL.of (by rw [hid_out (by simp [n1, n2])]; exact upd_same)) hul (fun i y x h1 h2 => Dp.same ((s7.trans s8).trans s9) _ _ (hu6 i y x h1 h2)) (Dp.same (s8.trans s9) _ _ dq7)
        generalize upd H8 l2 (.lst (us ++ [.ref q0])) = H9 at s9 hp9 hL9 d9 ⊢
        walk_at "rd"
        refine ⟨by show 2 ≤ sizeLine; decide, fun q hq => ?_⟩
        have hRq := (hL9.new (o := .tup [.int e, .ref l2]) hq).at_
        have hix := ixN_at (show n < ys.length by rw [hL9.len]; exact hn4)
        walk_at "rd"
        exact ⟨rfl, Dr1.put hp9 nRp nRs hL9 hn4 hl4 h6 (Dp.same ((s7.trans s8).trans s9) _ _ dJ6) hq d9 (by rw [List.length_append, List.length_singleton]; omega)⟩
      · walk_at "rd"
        exact ⟨rfl, hp4, ⟨rs, ys, hL4, hn4, hl4, h6⟩, dJ⟩
    clear hu hul hJ us dJ hL4 hn4 hl4 h6 hp4 eJ rs ys
    rintro σ' H4 ⟨rfl, hp4, ⟨rs, ys, hL4, hn4, hl4, h6⟩, dJ⟩
    clear dJ hn4
    show tCut _ _ _ _ _
    refine G.r_cut (fun σ H' => ∃ R', σ = [some (.ref p), some (.ref R'), some (.int way), some (.int (n : Nat)), some (.int e), some (.ref J), none] ∧ DrF K p sc R' H') ?_ ?_
    · walk_at "rd"
      refine G.i_d (fun g1 => ?_) (fun g1 => ?_)
      · walk_at "rd"
        refine ⟨p, sc, 9, rfl, hp4, by decide, fun r1 H5 hp5 b5 r10 r11 => ?_⟩
        have hL5 := hL4.but (List.mem_cons_self) nRp b5
        clear hL4 hp4 b5
        walk_at "rd"
        refine G.l_lc walk_range (fun D i acc H' => PoolAt H' p sc ∧ LstS K H' [p, R, D] R rD rs ys ∧ LstS K H' [p, R, D] D rD (List.replicate i (1, [])) acc ∧ D ≠ p ∧ D ≠ sc ∧ R ≠ D)
          (fun D hD => ⟨hp5.laid hD, hL5.more hD (by simp), LstS.nil upd_same, (hp5.ne hD).symm, (hp5.ne' hD).symm, ne_of_none hL5.at_ hD⟩) (fun _ _ _ _ _ _ => trivial) ?_ ?_
        · rintro D i acc x H6 H7 hD hi ⟨hp6, hL6, hD6, m1, m2, m3⟩ hL ⟨rfl, rfl⟩
          have hal := hD6.len
          rw [List.length_replicate] at hal
          walk_at "rd"
          refine ⟨rfl, ?_⟩
          walk_at "rd"
          refine ⟨by decide, fun q1 hq1 => ?_⟩
          walk_at "rd"
          refine ⟨by show 2 ≤ sizeLine; decide, fun q2 hq2 => ?_⟩
          have hp8 := (hp6.laid (o := .lst []) hq1).laid (o := .tup [.int 1, .ref q1]) hq2
          have hL8 := (hL6.new (o := .lst []) hq1).new (o := .tup [.int 1, .ref q1]) hq2
          have hD8 := (hD6.new (o := .lst []) hq1).new (o := .tup [.int 1, .ref q1]) hq2
          have nq : q1 ≠ q2 := fun z => by rw [← z, upd_same] at hq2; cases hq2
          have hq1' : upd (upd H7 q1 (.lst [])) q2 (.tup [.int 1, .ref q1]) q1 = some (.lst []) := by rw [upd_ne nq]; exact upd_same
          have k1 : q1 ∉ [p, R, D] := by
            have a1 := (hp6.ne hq1).symm
            have a2 := (ne_of_none hL6.at_ hq1).symm
            have a3 := (ne_of_none hD6.at_ hq1).symm
            simp [a1, a2, a3]
          have k2 : q2 ∉ [p, R, D] := by
            have a1 := ((hp6.laid (o := .lst []) hq1).ne hq2).symm
            have a2 := (ne_of_none (hL6.new (o := .lst []) hq1).at_ hq2).symm
            have a3 := (ne_of_none (hD6.new (o := .lst []) hq1).at_ hq2).symm
            simp [a1, a2, a3]
          refine G.lc_next hD8.at_ (by rw [line_val]; omega) ⟨hp8.upd m1 m2, hL8.other (by simp) m3, ?_, m1, m2, m3⟩
          rw [List.replicate_succ']
          exact hD8.app (by simp) (of_two (SqT.of (by rw [hid_out k2]; exact upd_same)) (.int _) (of_lst (xs := []) (SqL.of (by rw [hid_out k1]; exact hq1')) rfl (by simp)))
        · rintro D acc H6 hD ⟨hp6, hL6, hD6, m1, m2, m3⟩ hL
          have hal := hD6.len
          rw [List.length_replicate] at hal
          have hyl := hL6.len
          refine G.v_addL hL6.at_ hL (by rw [line_val]; omega) fun l hl => ?_
          walk_at "rd"
          refine ⟨l, rfl, hp6.laid hl, (hp6.ne hl).symm, (hp6.ne' hl).symm, _, _, lstS_cat hL6 hD6 hl (by simp), by rw [List.length_append, List.length_replicate]; omega, fun r hr => ?_⟩
          rcases List.mem_append.mp hr with h | h
          · have := h6 r h; omega
          · rw [List.eq_of_mem_replicate h]; exact Nat.zero_le _
      · walk_at "rd"
        exact ⟨R, rfl, hp4, nRp, nRs, rs, ys, hL4, by omega, fun r hr => by have := h6 r hr; omega⟩
    clear hL4 hp4 h6 hl4 rs ys nRp nRs
    rintro σ' H4 ⟨R, rfl, hp4, nRp, nRs, rs, ys, hL4, hl4, h6⟩
    show tCut _ _ _ _ _
    refine G.r_cut (fun σ H' => ∃ R', σ = [some (.ref p), some (.ref R'), some (.int way), some (.int (n : Nat)), some (.int e), some (.ref J), none] ∧ DrF K p sc R' H') ?_ ?_
    · walk_at "rd"
      refine G.i_d (fun g1 => ?_) (fun g1 => ?_)
      · walk_at "rd"
        refine ⟨p, sc, 2, rfl, hp4, by decide, fun r1 H5 hp5 b5 r10 r11 => ?_⟩
        have hL5 := hL4.but (List.mem_cons_self) nRp b5
        obtain ⟨c, rfl⟩ : ∃ c : Nat, r1 = c := ⟨r1.toNat, by omega⟩
        walk_at "rd"
        refine v_slLs (SqL.of hL5.at_) fun l hl => ?_
        rw [cut_take]
        walk_at "rd"
        exact ⟨l, rfl, hp5.laid hl, (hp5.ne hl).symm, (hp5.ne' hl).symm, _, _, lstS_take hL5 hl (by simp), by rw [List.length_take]; omega, fun r hr => h6 r (List.mem_of_mem_take hr)⟩
      · walk_at "rd"
        exact ⟨R, rfl, hp4, nRp, nRs, rs, ys, hL4, hl4, h6⟩
    clear hL4 hp4 h6 hl4 rs ys nRp nRs
    rintro σ' H4 ⟨R, rfl, hp4, nRp, nRs, rs, ys, hL4, hl4, h6⟩
    show tCut _ _ _ _ _
    refine G.r_cut (fun σ H' => ∃ R', σ = [some (.ref p), some (.ref R'), some (.int way), some (.int (n : Nat)), some (.int e), some (.ref J), none] ∧ DrF K p sc R' H') ?_ ?_
    · walk_at "rd"
      refine G.i_d (fun g1 => ?_) (fun g1 => ?_)
      · walk_at "rd"
        refine ⟨p, sc, 10, rfl, hp4, by decide, fun r1 H5 hp5 b5 r10 r11 => ?_⟩
        clear hL4 h6 hl4 nRp nRs hp4 b5
        walk_at "rd"
        refine G.l_lc walk_range (fun D i acc H' => PoolAt H' p sc ∧ (∃ im, LstS K H' [p, D] D pD im acc ∧ im.length = i) ∧ D ≠ p ∧ D ≠ sc)
          (fun D hD => ⟨hp5.laid hD, ⟨[], LstS.nil upd_same, rfl⟩, (hp5.ne hD).symm, (hp5.ne' hD).symm⟩) (fun _ _ _ _ _ _ => trivial) ?_ ?_
        · rintro D i acc x H6 H7 hD hi ⟨hp6, ⟨im, hD6, him⟩, m1, m2⟩ hL ⟨rfl, rfl⟩
          have hal := hD6.len
          walk_at "rd"
          refine ⟨rfl, ?_⟩
          walk_at "rd"
          refine ⟨by show 2 ≤ sizeLine; decide, fun q2 hq2 => ?_⟩
          have k2 : q2 ∉ [p, D] := by
            have a1 := (hp6.ne hq2).symm
            have a3 := (ne_of_none hD6.at_ hq2).symm
            simp [a1, a3]
          refine G.lc_next (hD6.new hq2).at_ (by rw [line_val]; omega) ⟨(hp6.laid hq2).upd m1 m2, ⟨im ++ [(1, 0 + (i : Int))], (hD6.new hq2).app (by simp) (of_two (SqT.of (by rw [hid_out k2]; exact upd_same)) (.int _) (.int _)), by rw [List.length_append, List.length_singleton, him]⟩, m1, m2⟩
        · rintro D acc H6 hD ⟨hp6, ⟨im, hD6, him⟩, m1, m2⟩ hL
          have dD : Dp K (hid H6 [p]) (.ref D) (psD im) := hD6.fin (by simp) (by simp [m1])
          walk_at "rd"
          refine ⟨by show 2 ≤ sizeLine; decide, fun q1 hq1 => ?_⟩
          have dq : Dp K (hid (upd H6 q1 (.tup [.int 8, .ref D])) [p]) (.ref q1) (rD (8, im)) := of_two (SqT.of (by rw [hid_out (by simp [(hp6.ne hq1).symm])]; exact upd_same)) (.int _) (Dp.same (hid_new hq1) _ _ dD)
          have hp7 := hp6.laid (o := .tup [.int 8, .ref D]) hq1
          generalize upd H6 q1 (.tup [.int 8, .ref D]) = H7 at dq hp7 ⊢
          clear hL dD hD6 hp6 hq1
          walk_at "rd"
          refine ⟨p, sc, 9, rfl, hp7, by decide, fun r2 H8 hp8 b8 r20 r21 => ?_⟩
          have dq8 : Dp K (hid H8 [p]) (.ref q1) (rD (8, im)) := by rw [hid_eq (List.mem_cons_self) b8]; exact dq
          walk_at "rd"
          refine G.l_lc walk_range (fun D i acc H' => PoolAt H' p sc ∧ (∃ im, LstS K H' [p, D] D pD im acc ∧ im.length = i) ∧ D ≠ p ∧ D ≠ sc ∧ Dp K (hid H' [p, D]) (.ref q1) (rD (8, im)))
            (fun D hD => ⟨hp8.laid hD, ⟨[], LstS.nil upd_same, rfl⟩, (hp8.ne hD).symm, (hp8.ne' hD).symm, Dp.same (hid_more hD (by simp)) _ _ dq8⟩) (fun _ _ _ _ _ _ => trivial) ?_ ?_
          · rintro D2 i acc x H9 H10 hD2 hi ⟨hp9, ⟨im2, hD9, him2⟩, m1, m2, dq9⟩ hL ⟨rfl, rfl⟩
            have hal := hD9.len
            walk_at "rd"
            refine ⟨rfl, ?_⟩
            walk_at "rd"
            refine ⟨by show 2 ≤ sizeLine; decide, fun q2 hq2 => ?_⟩
            have k2 : q2 ∉ [p, D2] := by
              have a1 := (hp9.ne hq2).symm
              have a3 := (ne_of_none hD9.at_ hq2).symm
              simp [a1, a3]
            refine G.lc_next (hD9.new hq2).at_ (by rw [line_val]; omega) ⟨(hp9.laid hq2).upd m1 m2, ⟨im2 ++ [(0, 0 + (i : Int))], (hD9.new hq2).app (by simp) (of_two (SqT.of (by rw [hid_out k2]; exact upd_same)) (.int _) (.int _)), by rw [List.length_append, List.length_singleton, him2]⟩, m1, m2, ?_⟩
            rw [hid_upd (by simp)]
            exact Dp.same (hid_new hq2) _ _ dq9
          · rintro D2 acc H9 hD2 ⟨hp9, ⟨im2, hD9, him2⟩, m1, m2, dq9⟩ hL
            have dD : Dp K (hid H9 [p]) (.ref D2) (psD im2) := hD9.fin (by simp) (by simp [m1])
            have dq10 : Dp K (hid H9 [p]) (.ref q1) (rD (8, im)) := Dp.same (hid_sub (by simp)) _ _ dq9
            walk_at "rd"
            refine ⟨by show 2 ≤ sizeLine; decide, fun q2 hq2 => ?_⟩
            have d11 : Dp K (hid (upd H9 q2 (.tup [.int 8, .ref D2])) [p]) (.ref q2) (rD (8, im2)) := of_two (SqT.of (by rw [hid_out (by simp [(hp9.ne hq2).symm])]; exact upd_same)) (.int _) (Dp.same (hid_new hq2) _ _ dD)
            have dq11 := Dp.same (hid_new (L := [p]) (o := .tup [.int 8, .ref D2]) hq2) _ _ dq10
            have hp11 := hp9.laid (o := .tup [.int 8, .ref D2]) hq2
            generalize upd H9 q2 (.tup [.int 8, .ref D2]) = H11 at d11 dq11 hp11 ⊢
            walk_at "rd"
            refine ⟨by show 2 ≤ sizeLine; decide, fun R hR => ?_⟩
            walk_at "rd"
            have nRp := (hp11.ne hR).symm
            refine ⟨R, rfl, hp11.laid hR, nRp, (hp11.ne' hR).symm, [(8, im), (8, im2)], _, ⟨upd_same, rfl, fun i y x h1 h2 => Dp.same (hid_more (L := [p]) hR (by simp)) _ _ ?_⟩, by show 2 ≤ 16; decide, fun r hr => ?_⟩
            · match i, h1, h2 with
              | 0, h1, h2 => cases h1; cases h2; exact dq11
              | 1, h1, h2 => cases h1; cases h2; exact d11
              | i + 2, h1, h2 => simp at h1
            · rcases List.mem_cons.mp hr with h | h
              · rw [h]; show im.length ≤ 10; omega
              · have : r = (8, im2) := by simpa using h
                rw [this]; show im2.length ≤ 10; omega
      · walk_at "rd"
        exact ⟨R, rfl, hp4, nRp, nRs, rs, ys, hL4, hl4, h6⟩
    clear hL4 hp4 h6 hl4 rs ys nRp nRs
    rintro σ' H4 ⟨R, rfl, hp4, nRp, nRs, rs, ys, hL4, hl4, h6⟩
    walk_at "rd"
    exact k R rs ys H4 hp4 nRp nRs hL4 hl4 h6
end


/-! ### interfaces that are unlike -/
/-- valid rows -/
def NoF (rs : List (Int × List (Int × Int))) : Prop := 0 < rs.length ∧ rs.length ≤ 8 ∧ ∀ j, j < rs.length → RowOk (rs.map (·.1)) (rs.map (·.2)) j
theorem noF_none {rs : List (Int × List (Int × Int))} {r : Option Nat} (h : NoF rs) (f : IsFault (rs.map (·.1)) (rs.map (·.2)) r) : r = none := by
  obtain ⟨h1, h2, h3⟩ := h
  rcases f with ⟨e, _⟩ | ⟨e, _⟩ | ⟨_, ⟨i, _, hi, hn, _⟩ | ⟨e, _⟩⟩
  · rw [List.length_map] at e; omega
  · rw [List.length_map] at e; omega
  · rw [List.length_map] at hi; exact absurd (h3 i hi) hn
  · exact e
theorem noF_of {rs : List (Int × List (Int × Int))} (f : IsFault (rs.map (·.1)) (rs.map (·.2)) none) : NoF rs := by
  rcases f with ⟨_, e⟩ | ⟨_, e⟩ | ⟨⟨a, b⟩, ⟨i, e, _⟩ | ⟨_, h⟩⟩
  · cases e
  · cases e
  · cases e
  · rw [List.length_map] at a b h
    exact ⟨a, b, h⟩
theorem getD_set {α : Type} {l : List α} {k i : Nat} {x d : α} : (l.set k x).getD i d = if k = i ∧ i < l.length then x else l.getD i d := by
  rw [List.getD_eq_getElem?_getD, List.getD_eq_getElem?_getD, List.getElem?_set]
  by_cases h : k = i
  · subst h
    by_cases h2 : k < l.length
    · simp [h2]
    · simp [h2]
  · simp [h]
theorem fitI_mono {es es' : List Int} {c : Int} {p : Int × Int} (hl : es'.length = es.length) (hm : ∀ i, es.getD i 0 ≤ es'.getD i 0) (h : FitI es c p) : FitI es' c p := by
  obtain ⟨a, ⟨b, c'⟩, d, e⟩ := h
  exact ⟨a, ⟨b, by omega⟩, d, by have := hm p.1.toNat; omega⟩
theorem noF_set {rs : List (Int × List (Int × Int))} {k : Nat} {e : Int} {c : List (Int × Int)} (h : NoF rs) (hk : k < rs.length) (h1 : (rs.map (·.1)).getD k 0 ≤ e) (h2 : e ≤ 8) (h3 : FitsI (rs.map (·.1)) k c) : NoF (rs.set k (e, c)) := by
  obtain ⟨a1, a2, a3⟩ := h
  have m1 : (rs.set k (e, c)).map (·.1) = (rs.map (·.1)).set k e := by rw [List.map_set]
  have m2 : (rs.set k (e, c)).map (·.2) = (rs.map (·.2)).set k c := by rw [List.map_set]
  have hm : ∀ i, (rs.map (·.1)).getD i 0 ≤ ((rs.map (·.1)).set k e).getD i 0 := fun i => by
    rw [getD_set]
    split
    · rename_i q; rw [← q.1]; exact h1
    · exact Int.le_refl _
  have hl : ((rs.map (·.1)).set k e).length = (rs.map (·.1)).length := List.length_set
  refine ⟨by rw [List.length_set]; exact a1, by rw [List.length_set]; exact a2, fun j hj => ?_⟩
  rw [List.length_set] at hj
  obtain ⟨⟨b1, b2⟩, b3, b4, b5⟩ := a3 j hj
  rw [m1, m2]
  unfold RowOk FitsI
  rw [getD_set, getD_set]
  by_cases q : k = j
  · subst q
    rw [if_pos ⟨rfl, by rw [List.length_map]; exact hk⟩, if_pos ⟨rfl, by rw [List.length_map]; exact hk⟩]
    exact ⟨⟨by omega, h2⟩, h3.1, h3.2.1, fun p hp => fitI_mono hl hm (h3.2.2 p hp)⟩
  · rw [if_neg fun z => q z.1, if_neg fun z => q z.1]
    exact ⟨⟨b1, b2⟩, b3, b4, fun p hp => fitI_mono hl hm (b5 p hp)⟩
/-- imports that fit, other than im -/
def Good (es : List Int) (k : Nat) (im c : List (Int × Int)) : Prop := FitsI es k c ∧ c ≠ im
theorem good_drop {es : List Int} {k : Nat} {im : List (Int × Int)} (h : FitsI es k im) (n : 0 < im.length) : Good es k im (im.drop 1) :=
  ⟨⟨by rw [List.length_drop]; have := h.1; omega, h.2.1.sublist (List.drop_sublist _ _), fun p hp => h.2.2 p (List.mem_of_mem_drop hp)⟩, fun e => by have := congrArg List.length e; rw [List.length_drop] at this; omega⟩
theorem good_turn {es : List Int} {k : Nat} {im : List (Int × Int)} (h : FitsI es k im) (n : 1 < im.length) : Good es k im (im.drop 1 ++ im.take 1) := by
  have pm : (im.drop 1 ++ im.take 1).Perm im := by
    have := List.perm_append_comm (l₁ := im.drop 1) (l₂ := im.take 1)
    rwa [List.take_append_drop] at this
  refine ⟨⟨by rw [pm.length_eq]; exact h.1, pm.nodup_iff.mpr h.2.1, fun p hp => h.2.2 p (pm.mem_iff.mp hp)⟩, fun e => ?_⟩
  match im, n, h, e with
  | a :: b :: t, _, h, e =>
    have e2 : b = a := by
      have := congrArg List.head? e
      simpa using this
    have := h.2.1
    rw [e2] at this
    simp at this
theorem good_new {es : List Int} {k : Nat} {im : List (Int × Int)} {q : Int × Int} (h : FitsI es k im) (n : 0 < im.length) (hq : q ∉ im) (f : FitI es k q) : Good es k im (im.drop 1 ++ [q]) := by
  refine ⟨⟨by rw [List.length_append, List.length_drop, List.length_singleton]; have := h.1; omega, ?_, fun p hp => ?_⟩, fun e => hq (by rw [← e]; simp)⟩
  · rw [List.nodup_append]
    exact ⟨h.2.1.sublist (List.drop_sublist _ _), by simp, fun x hx y hy e => hq (by
      have : y = q := by simpa using hy
      rw [← this, ← e]
      exact List.mem_of_mem_drop hx)⟩
  · rcases List.mem_append.mp hp with z | z
    · exact h.2.2 p (List.mem_of_mem_drop z)
    · have : p = q := by simpa using z
      rw [this]; exact f
theorem set_cut {α : Type} {l : List α} {k : Nat} {x : α} (h : k < l.length) : l.take k ++ [x] ++ l.drop (k + 1) = l.set k x := by
  rw [List.set_eq_take_append_cons_drop, if_pos h, List.append_assoc]
  rfl
section
variable {K : PySem.W.Frag}
theorem of_set {H : Hp} {l : Addr} {α : Type} {f : α → PyData} {xs : List α} {ys : List V} {k : Nat} {v : V} {x : α} (h : SqL K H l (ys.set k v)) (hl : ys.length = xs.length) (hu : ∀ (i : Nat) y x, ys[i]? = some y → xs[i]? = some x → Dp K H y (f x)) (d : Dp K H v (f x)) : Dp K H (.ref l) (.list ((xs.set k x).map f)) := by
  refine of_lst h (by rw [List.length_set, List.length_set, hl]) fun i y z h1 h2 => ?_
  by_cases hi : k = i
  · subst hi
    have h3 := (List.getElem?_eq_some_iff.mp h1).1
    rw [List.length_set] at h3
    rw [List.getElem?_set_self h3] at h1
    rw [List.getElem?_set_self (by omega)] at h2
    cases h1
    cases h2
    exact d
  · rw [List.getElem?_set_ne hi] at h1 h2
    exact hu i y z h1 h2
/-- a valid interface is made -/
theorem mk_if {CI CB : Addr} {H : Hp} {a : V} {rs : List (Int × List (Int × Int))} {Q : VK} {E : XK} (d : Dp K H a (rsD rs)) (ok : RsOk rs) (n : NoF rs) (k : ∀ x H', Same H H' → IfAt K CI H' x rs → Q (.ref x) H') : MkI CI (spIfI K CI CB) [a] H Q E := fun x dx hx hdx ne => by
  have s1 : Same H (upd (upd H dx (.own x)) x (.ins CI dx [])) := Same.over (Same.over (Same.refl H) hdx) hx
  refine ⟨x, dx, a, rs, rfl, upd_same, Dp.same s1 _ _ d, ok, fun r hr => ⟨fun i e => ?_, fun e H' kp at_ => ⟨rfl, k x H' (fun b o eb => kp b o (ne_of_none eb hx) (s1 _ _ eb)) at_⟩⟩⟩
  rw [noF_none n hr] at e
  cases e
/-- an interface that is not valid -/
theorem mk_ifX {CI CB : Addr} {H : Hp} {a : V} {rs : List (Int × List (Int × Int))} {Q : VK} {E : XK} {i : Nat} (d : Dp K H a (rsD rs)) (ok : RsOk rs) (u : ∀ r, IsFault (rs.map (·.1)) (rs.map (·.2)) r → r = some i) (k : Lets CB "at" (.int (i : Nat)) H E) : MkI CI (spIfI K CI CB) [a] H Q E := fun x dx hx hdx ne => by
  have s1 : Same H (upd (upd H dx (.own x)) x (.ins CI dx [])) := Same.over (Same.over (Same.refl H) hdx) hx
  refine ⟨x, dx, a, rs, rfl, upd_same, Dp.same s1 _ _ d, ok, fun r hr => ⟨fun j e => ?_, fun e => ?_⟩⟩
  · rw [u r hr] at e
    cases e
    exact lets_mono k s1
  · rw [u r hr] at e
    cases e
theorem v_eqIf {CI a b : Addr} {H : Hp} {rs qs : List (Int × List (Int × Int))} {Q : VK} (h1 : IfAt K CI H a rs) (h2 : IfAt K CI H b qs) (k : Q (.bl (decide (rs = qs))) H) : rEqO CI (spIfEq K CI) (.ref a) (.ref b) H Q := by
  obtain ⟨dx, e, i, x1, _⟩ := id h1
  obtain ⟨dy, e', i', y1, _⟩ := id h2
  exact ⟨a, b, dx, dy, _, _, rfl, rfl, x1, y1, a, b, rs, qs, rfl, h1, h2, _, rfl, k⟩
end
theorem same_hid {H H' : Hp} {L : List Addr} (s : Same H H') (n : ∀ b ∈ L, H b = none) : Same H (hid H' L) := fun b o e => by
  rw [hid_out fun z => by rw [n b z] at e; cases e]
  exact s _ _ e
section
variable {K : PySem.W.Frag}
theorem of_app {H : Hp} {l : Addr} {us1 us2 : List V} {im1 im2 : List (Int × Int)} (h : SqL K H l (us1 ++ us2)) (l1 : us1.length = im1.length) (l2 : us2.length = im2.length) (h1 : ∀ (i : Nat) y x, us1[i]? = some y → im1[i]? = some x → Dp K H y (pD x)) (h2 : ∀ (i : Nat) y x, us2[i]? = some y → im2[i]? = some x → Dp K H y (pD x)) : Dp K H (.ref l) (psD (im1 ++ im2)) := by
  refine of_lst h (by rw [List.length_append, List.length_append, l1, l2]) fun i v z a b => ?_
  by_cases hi : i < us1.length
  · rw [List.getElem?_append_left hi] at a
    rw [List.getElem?_append_left (by omega)] at b
    exact h1 i v z a b
  · rw [List.getElem?_append_right (by omega)] at a
    rw [List.getElem?_append_right (by omega), ← l1] at b
    exact h2 _ v z a b
theorem rd_repl {σ : L2.St} {H1 : Hp} {a J' : Addr} {vs : List V} {rs : List (Int × List (Int × Int))} {n : Nat} {e' : Int} {c : List (Int × Int)} {tA tB : TE} {Q : List V → Hp → Prop} (h0 : σ[0]? = some (some (.ref a))) (h2 : σ[2]? = some (some (.int (n : Nat)))) (ha : SqL K H1 a vs) (hvl : vs.length = rs.length)
    (hv : ∀ (i : Nat) y r, vs[i]? = some y → rs[i]? = some r → Dp K H1 y (rD r)) (hn : n < rs.length) (hA : ∀ (H : Hp) (R : VK), R (.int e') H → tA σ H R) (hB : ∀ (H : Hp) (R : VK), R (.ref J') H → tB σ H R) (dJ : Dp K H1 (.ref J') (psD c)) (hz : vs.length ≤ 8)
    (k : ∀ l H2, Same H1 H2 → Dp K H2 (.ref l) (rsD (rs.set n (e', c))) → Q [.ref l] H2) :
    tCons (tOp (gAdd K) (tOp (gAdd K) (tSl (gSl K) (tVar 0) tNoPart (tPart (tVar 2))) (tLst (tCons (tTup (tCons tA (tCons tB tNil))) tNil))) (tSl (gSl K) (tVar 0) (tPart (tOp (gAdd K) (tVar 2) (tC (.int 1)))) tNoPart)) tNil σ H1 Q := by
  refine G.r_cons (G.r_op (G.r_op (G.r_sl (G.r_var h0 (G.r_nopart (G.r_part (G.r_var h2 (G.r_exint (v_slLs ha fun l1 hl1 => ?_)))))))))
  rw [cut_take]
  have s1 : Same H1 (upd H1 l1 (.lst (vs.take n))) := Same.over (Same.refl _) hl1
  have g1 : upd H1 l1 (.lst (vs.take n)) l1 = some (.lst (vs.take n)) := upd_same
  generalize upd H1 l1 (.lst (vs.take n)) = H2 at s1 g1 ⊢
  refine G.r_lst (G.r_cons (G.r_tup (G.r_cons (hA _ _ (G.r_cons (hB _ _ (G.r_nil ⟨by show 2 ≤ sizeLine; decide, fun q hq => ?_⟩)))))))
  have s2 : Same H2 (upd H2 q (.tup [.int e', .ref J'])) := Same.over (Same.refl _) hq
  have dq : Dp K (upd H2 q (.tup [.int e', .ref J'])) (.ref q) (rD (e', c)) := of_two (SqT.of upd_same) (.int _) (Dp.same (s1.trans s2) _ _ dJ)
  have g2 := s2 _ _ g1
  generalize upd H2 q (.tup [.int e', .ref J']) = H3 at s2 dq g2 ⊢
  refine G.r_nil ⟨by show 1 ≤ sizeLine; decide, fun l2 hl2 => ?_⟩
  have s3 : Same H3 (upd H3 l2 (.lst [.ref q])) := Same.over (Same.refl _) hl2
  have g3 : upd H3 l2 (.lst [.ref q]) l2 = some (.lst [.ref q]) := upd_same
  have g13 := s3 _ _ g2
  generalize upd H3 l2 (.lst [.ref q]) = H4 at s3 g3 g13 ⊢
  refine G.v_addL g13 g3 (by rw [line_val, List.length_take, List.length_singleton]; omega) fun l3 hl3 => ?_
  have s4 : Same H4 (upd H4 l3 (.lst (vs.take n ++ [.ref q]))) := Same.over (Same.refl _) hl3
  have g4 : upd H4 l3 (.lst (vs.take n ++ [.ref q])) l3 = some (.lst (vs.take n ++ [.ref q])) := upd_same
  generalize upd H4 l3 (.lst (vs.take n ++ [.ref q])) = H5 at s4 g4 ⊢
  have s15 := ((s1.trans s2).trans s3).trans s4
  refine G.r_sl (G.r_var h0 (G.r_part (G.r_op (G.r_var h2 (G.r_c (G.v_addI (G.r_exint (G.r_nopart (v_slLs (ha.ext s15) fun l4 hl4 => ?_)))))))))
  have ec : cutV vs (some ((n : Int) + 1)) none = vs.drop (n + 1) := cut_drop (n := n + 1)
  rw [ec]
  have s5 : Same H5 (upd H5 l4 (.lst (vs.drop (n + 1)))) := Same.over (Same.refl _) hl4
  have g5 : upd H5 l4 (.lst (vs.drop (n + 1))) l4 = some (.lst (vs.drop (n + 1))) := upd_same
  have g45 := s5 _ _ g4
  generalize upd H5 l4 (.lst (vs.drop (n + 1))) = H6 at s5 g5 g45 ⊢
  refine G.v_addL g45 g5 (by rw [line_val, List.length_append, List.length_take, List.length_drop, List.length_singleton]; omega) fun l5 hl5 => ?_
  refine G.r_nil (k l5 _ (s15.trans (s5.trans (Same.over (Same.refl _) hl5))) ?_)
  rw [set_cut (by omega)]
  have s6 : Same H6 (upd H6 l5 (.lst (vs.set n (.ref q)))) := Same.over (Same.refl _) hl5
  exact of_set (SqL.of upd_same) hvl (fun i y r h1 h2 => Dp.same (s15.trans (s5.trans s6)) _ _ (hv i y r h1 h2)) (Dp.same (((s3.trans s4).trans s5).trans s6) _ _ dq)
end
def sp_l_unlike (K : PySem.W.Frag) (CI : Addr) : Sp := fun vs H Q _ => ∃ (a : V) (m : Addr) (rs : List (Int × List (Int × Int))), vs = [a, .ref m] ∧ Dp K H a (rsD rs) ∧ NoF rs ∧ IfAt K CI H m rs ∧ ∀ H', Same H H' → Q (.bl true) H'
section
variable {P : Program} {w : World} {K : PySem.W.Frag} {mg : Str → Option Value} {base : Heap} {C : Cs}
theorem ok_l_unlike (T : Top K mg) (Z : Txt K mg C) : Cal P w K mg base CX0 6 "_law_unlike" ["rows", "made"] (sp_l_unlike K C.Interface) := by
  refine def_ok T.f_l_unlike sc_l_unlike (fun _ _ _ _ _ _ us hl => match us, hl with | [_, _], _ => rfl) (fun vs H Q E h => ?_) (fun f cdv A outer s H vs Q E hr h => ?_)
  · obtain ⟨a, m, rs, rfl, _⟩ := h
    rfl
  · obtain ⟨a, m, rs, rfl, hd, nf, hm, k⟩ := h
    obtain ⟨a, vs, rfl, ha, hvl, hv⟩ := dp_lst hd
    refine ⟨_, (pss_cons (ps_for PassesOwn.never rfl (pi_range1 rfl T.b_range (pa_cons (pe_callB (g_len (K := K)) (by rfl) T.b_len PySem.boot_len (pa_cons (pv 0) pa_nil)) pa_nil)) (pg_name (i := 2) sc_l_unlike.nd rfl (by first | exact Or.inl rfl | exact Or.inr rfl))
  (pss_cons (ps_asg (pe_ix (g_ix (K := K)) (pv 0) (pv 2) (fun _ _ => rfl)) (ptup_K (K := K) (pg_tup (n := 2) rfl (pgs_cons (pg_name (i := 3) sc_l_unlike.nd rfl (by first | exact Or.inl rfl | exact Or.inr rfl)) (pgs_cons (pg_name (i := 4) sc_l_unlike.nd rfl (by first | exact Or.inl rfl | exact Or.inr rfl)) pgs_nil)))))
    (pss_cut (ps_if (pt_cmpR g_lt (pv 3) pe_int (nomark _))
    (pss_cons (ps_set (i := 5) sc_l_unlike.nd rfl (by first | exact Or.inl rfl | exact Or.inr rfl) (g_makeX Z.k_Interface (ok_Interface_init T Z) (hr.mono (by decide)) (by rfl) Z.n_Interface takesN (pa_cons (pe_op (g_add (K := K)) (pe_op (g_add (K := K)) (pe_slice (g_sl (K := K)) (pv 0) po_none (po_some (pv 2))) (pe_lst (pa_cons (pe_tup (pa_cons (pe_op (g_add (K := K)) (pv 3) pe_int) (pa_cons (pv 4) pa_nil))) pa_nil))) (pe_slice (g_sl (K := K)) (pv 0) (po_some (pe_op (g_add (K := K)) (pv 2) pe_int)) po_none)) pa_nil)))
      (pss_one (ps_if (pt_not (g_truth (K := K) (g_call (ok_l_same T 1) (hr.mono (by decide)) (by rfl) pass0 (pa_cons (pe_cmpR (op_eqO (ok_Interface_eq T Z) (hr.mono (by decide))) (pv 5) (pv 1) (nomark _)) (pa_cons pe_bl pa_nil))) (by intro _; rfl)))
      (pss_one (ps_ret pe_bl))
      pss_nil)))
    pss_nil)
    (pss_cons (ps_set (i := 6) sc_l_unlike.nd rfl (by first | exact Or.inl rfl | exact Or.inr rfl) (pe_lst pa_nil))
    (pss_cut (ps_if (pt_cmpR g_gt (pe_callB (g_len (K := K)) (by rfl) T.b_len PySem.boot_len (pa_cons (pv 4) pa_nil)) pe_int (nomark _))
    (pss_one (ps_set (i := 6) sc_l_unlike.nd rfl (by first | exact Or.inl rfl | exact Or.inr rfl) (pe_lst (pa_cons (pe_slice (g_sl (K := K)) (pv 4) (po_some pe_int) po_none) pa_nil))))
    pss_nil)
    (pss_cut (ps_if (pt_cmpR g_gt (pe_callB (g_len (K := K)) (by rfl) T.b_len PySem.boot_len (pa_cons (pv 4) pa_nil)) pe_int (nomark _))
    (pss_one (ps_expr (bm_K (K := K) (pe_bm PySem.F.plainAttrs_list PySem.F.slot_list_append PySem.F.type_list_append mt_append (pv 6) (pa_cons (pe_op (g_add (K := K)) (pe_slice (g_sl (K := K)) (pv 4) (po_some pe_int) po_none) (pe_slice (g_sl (K := K)) (pv 4) po_none (po_some pe_int))) pa_nil)))))
    pss_nil)
    (pss_cons (ps_for PassesOwn.never rfl (pi_range1 rfl T.b_range (pa_cons (pe_callB (g_len (K := K)) (by rfl) T.b_len PySem.boot_len (pa_cons (pv 0) pa_nil)) pa_nil)) (pg_name (i := 7) sc_l_unlike.nd rfl (by first | exact Or.inl rfl | exact Or.inr rfl))
    (pss_one (ps_for PassesOwn.never rfl (pi_range1 rfl T.b_range (pa_cons (pe_ix (g_ix (K := K)) (pe_ix (g_ix (K := K)) (pv 0) (pv 7) (fun _ _ => rfl)) pe_int (fun _ _ => rfl)) pa_nil)) (pg_name (i := 8) sc_l_unlike.nd rfl (by first | exact Or.inl rfl | exact Or.inr rfl))
      (pss_one (ps_if (PW.pt (pw_and (pt_cmpR g_ne (pv 7) (pv 2) (nomark _)) (pw_and (pt_cmpR (op_notInDK (K := K) (un65 hr)) (pe_tup (pa_cons (pv 7) (pa_cons (pv 8) pa_nil))) (pv 4) rfl) (pw_and1 (pt_cmpR g_gt (pe_callB (g_len (K := K)) (by rfl) T.b_len PySem.boot_len (pa_cons (pv 4) pa_nil)) pe_int (nomark _))))))
        (pss_one (ps_expr (bm_K (K := K) (pe_bm PySem.F.plainAttrs_list PySem.F.slot_list_append PySem.F.type_list_append mt_append (pv 6) (pa_cons (pe_op (g_add (K := K)) (pe_slice (g_sl (K := K)) (pv 4) (po_some pe_int) po_none) (pe_lst (pa_cons (pe_tup (pa_cons (pv 7) (pa_cons (pv 8) pa_nil))) pa_nil))) pa_nil)))))
        pss_nil)))))
    (pss_one (ps_for PassesOwn.never rfl (g_it (K := K) (pe_slice (g_sl (K := K)) (pv 6) po_none (po_some pe_int))) (pg_name (i := 9) sc_l_unlike.nd rfl (by first | exact Or.inl rfl | exact Or.inr rfl))
    (pss_one (ps_if (pt_not (g_truth (K := K) (g_call (ok_l_same T 1) (hr.mono (by decide)) (by rfl) pass0 (pa_cons (pe_cmpR (op_eqO (ok_Interface_eq T Z) (hr.mono (by decide))) (pv 1) (g_makeX Z.k_Interface (ok_Interface_init T Z) (hr.mono (by decide)) (by rfl) Z.n_Interface takesN (pa_cons (pe_op (g_add (K := K)) (pe_op (g_add (K := K)) (pe_slice (g_sl (K := K)) (pv 0) po_none (po_some (pv 2))) (pe_lst (pa_cons (pe_tup (pa_cons (pv 3) (pa_cons (pv 9) pa_nil))) pa_nil))) (pe_slice (g_sl (K := K)) (pv 0) (po_some (pe_op (g_add (K := K)) (pv 2) pe_int)) po_none)) pa_nil)) (nomark _)) (pa_cons pe_bl pa_nil))) (by intro _; rfl)))
      (pss_one (ps_ret pe_bl))
      pss_nil)))))))))))
  (pss_one (ps_ret pe_bl))), ?_⟩
    have h8 : vs.length ≤ 8 := by rw [hvl]; exact nf.2.1
    have rok : RsOk rs := ⟨by have := nf.2.1; omega, fun r hr => by
      obtain ⟨j, hj, rfl⟩ := List.getElem_of_mem hr
      have z := (nf.2.2 j hj).2.1
      rw [getD_snd (List.getElem?_eq_getElem hj)] at z
      omega⟩
    walk_at "rd"
    refine G.l_range (fun n σ H' => Same H H' ∧ ∃ v2 v3 v4 v5 v6 v7 v8 v9, σ = [some (.ref a), some (.ref m), v2, v3, v4, v5, v6, v7, v8, v9]) ⟨Same.refl H, none, none, none, none, none, none, none, none, rfl⟩ ?_ ?_
    · rintro n σ' H1 hn ⟨s1, v2, v3, v4, v5, v6, v7, v8, v9, rfl⟩
      have hn' : n < rs.length := by omega
      have yv : vs[n]? = some vs[n] := List.getElem?_eq_getElem (by omega)
      have yr : rs[n]? = some rs[n] := List.getElem?_eq_getElem hn'
      have ha1 := ha.ext s1
      have hv1 : ∀ (i : Nat) y r, vs[i]? = some y → rs[i]? = some r → Dp K H1 y (rD r) := fun i y r h1 h2 => Dp.same s1 _ _ (hv i y r h1 h2)
      obtain ⟨q, x1, x2, hq0, hq, d1, d2⟩ := dp_two (hv n _ _ yv yr)
      obtain rfl := dp_int d1
      have av : atI vs (n : Int) = some (.ref q) := by rw [← hq0]; exact atI_nat yv
      obtain ⟨J, us, rfl, hJ, hul, hu⟩ := dp_lst d2
      obtain ⟨⟨e1, e8⟩, fit⟩ := nf.2.2 n hn'
      rw [getD_fst yr] at e1 e8
      rw [getD_snd yr] at fit
      have gk : (rs.map (·.1)).getD n 0 = rs[n].1 := getD_fst yr
      have him8 := fit.1
      have hrsn : rs[n] = (rs[n].1, rs[n].2) := rfl
      -- the interface with rows[n] replaced
      have ok' : ∀ (e : Int) (c : List (Int × Int)), c.length ≤ 8 → RsOk (rs.set n (e, c)) := fun e c hc => ⟨by rw [List.length_set]; exact rok.1, fun r hr => by
        rcases List.mem_or_eq_of_mem_set hr with h | h
        · exact rok.2 r h
        · rw [h]; show c.length ≤ 1000000; omega⟩
      have ne' : ∀ (e : Int) (c : List (Int × Int)), (e, c) ≠ (rs[n].1, rs[n].2) → rs.set n (e, c) ≠ rs := fun e c h z => by
        have := congrArg (fun l => l[n]?) z
        simp only [List.getElem?_set_self hn', yr] at this
        exact h (Option.some.inj this)
      generalize hE : rs[n].1 = e at *
      generalize hI : rs[n].2 = im at *
      walk_at "rd"
      refine v_unp2 (hq.ext s1) ?_
      walk_at "rd"
      show tCut _ _ _ _ _
      refine G.r_cut (fun σ H' => Same H1 H' ∧ ∃ v5 v6 v7 v8 v9, σ = [some (.ref a), some (.ref m), some (.int (n : Nat)), some (.int e), some (.ref J), v5, v6, v7, v8, v9]) ?_ ?_
      · walk_at "rd"
        refine G.i_d (fun g1 => ?_) (fun g1 => ?_)
        · refine G.r_seq (G.r_asg (G.r_mkX ?_))
          refine rd_repl (e' := e + 1) (J' := J) (c := im) rfl rfl ha1 hvl hv1 hn' (fun H R h => ⟨_, rfl, .inl ⟨_, _, rfl, rfl, h⟩⟩) (fun H R h => ⟨_, rfl, h⟩) (Dp.same s1 _ _ d2) h8 fun l H2 s2 dl => ?_
          refine mk_if dl (ok' _ _ him8) (noF_set nf hn' (by rw [gk]; omega) (by omega) fit) fun x H3 s3 at_ => ?_
          walk_at "rd"
          refine v_eqIf at_ (hm.same ((s1.trans s2).trans s3)) ?_
          rw [decide_eq_false (ne' _ _ fun z => by have := congrArg Prod.fst z; simp only at this; omega)]
          walk_at "rd"
          refine ⟨.bl false, .bl false, rfl, .bl false, ?_⟩
          walk_at "rd"
          exact ⟨s2.trans s3, _, _, _, _, _, rfl⟩
        · walk_at "rd"
          exact ⟨Same.refl _, _, _, _, _, _, rfl⟩
      · rintro σ' H2 ⟨s2, v5, v6, v7, v8, v9, rfl⟩
        have s12 := s1.trans s2
        walk_at "rd"
        refine ⟨by decide, fun D hD => ?_⟩
        have hD0 := same_none s12 hD
        have sD : Same H (upd H2 D (.lst [])) := Same.over s12 hD0
        have gD : upd H2 D (.lst []) D = some (.lst []) := upd_same
        generalize upd H2 D (.lst []) = H3 at sD gD ⊢
        have hJ3 := hJ.ext sD
        have St : True := trivial
        walk_at "rd"
        show tCut _ _ _ _ _
        refine G.r_cut (fun σ H' => Same H H' ∧ ∃ D cs zs, σ = [some (.ref a), some (.ref m), some (.int (n : Nat)), some (.int e), some (.ref J), v5, some (.ref D), v7, v8, v9] ∧ H D = none ∧ LstS K H' [D] D psD cs zs ∧ (∀ c ∈ cs, Good (rs.map (·.1)) n im c) ∧ cs.length ≤ 1) ?_ ?_
        · walk_at "rd"
          refine G.i_d (fun g1 => ?_) (fun g1 => ?_)
          · walk_at "rd"
            refine v_slLs hJ3 fun l hl => ?_
            have ec : cutV us (some 1) none = us.drop 1 := cut_drop (n := 1)
            rw [ec]
            have s4 : Same H3 (upd H3 l (.lst (us.drop 1))) := Same.over (Same.refl _) hl
            have dl : Dp K (upd H3 l (.lst (us.drop 1))) (.ref l) (psD (im.drop 1)) := of_lst (SqL.of upd_same) (by rw [List.length_drop, List.length_drop, hul]) fun i y x h1 h2 => by
              rw [List.getElem?_drop] at h1 h2
              exact Dp.same (sD.trans s4) _ _ (hu _ y x h1 h2)
            generalize upd H3 l (.lst (us.drop 1)) = H4 at s4 dl ⊢
            walk_at "rd"
            refine ⟨by show 1 ≤ sizeLine; decide, fun D2 hD2 => ?_⟩
            walk_at "rd"
            have s5 := (sD.trans s4)
            have n0 := same_none s5 hD2
            refine ⟨Same.over s5 n0, D2, [im.drop 1], _, rfl, n0, ⟨upd_same, rfl, fun i y x h1 h2 => ?_⟩, fun c hc => ?_, by show 1 ≤ 1; decide⟩
            · match i, h1, h2 with
              | 0, h1, h2 => cases h1; cases h2; exact Dp.same (hid_more (L := []) hD2 (by simp)) _ _ (by rw [show hid H4 [] = H4 from funext fun b => hid_out (by simp)]; exact dl)
              | i + 1, h1, h2 => simp at h1
            · have : c = im.drop 1 := by simpa using hc
              rw [this]; exact good_drop fit (by omega)
          · walk_at "rd"
            exact ⟨sD, D, [], [], rfl, hD0, LstS.nil gD, by simp, by decide⟩
        clear gD hD0 sD hJ3 hD
        rintro σ' H3 ⟨s3, D, cs, zs, rfl, hD0, hL3, hG3, hc3⟩
        have hJ3 := hJ.ext s3
        show tCut _ _ _ _ _
        refine G.r_cut (fun σ H' => Same H H' ∧ ∃ cs zs, σ = [some (.ref a), some (.ref m), some (.int (n : Nat)), some (.int e), some (.ref J), v5, some (.ref D), v7, v8, v9] ∧ LstS K H' [D] D psD cs zs ∧ (∀ c ∈ cs, Good (rs.map (·.1)) n im c) ∧ cs.length ≤ 2) ?_ ?_
        · walk_at "rd"
          refine G.i_d (fun g1 => ?_) (fun g1 => ?_)
          · have hDa := hL3.at_
            have hzl := hL3.len
            walk_at "rd"
            refine v_slLs hJ3 fun l1 hl1 => ?_
            have ec : cutV us (some 1) none = us.drop 1 := cut_drop (n := 1)
            rw [ec]
            have s4 : Same H3 (upd H3 l1 (.lst (us.drop 1))) := Same.over (Same.refl _) hl1
            have g4 : upd H3 l1 (.lst (us.drop 1)) l1 = some (.lst (us.drop 1)) := upd_same
            have hL4 := hL3.new (o := .lst (us.drop 1)) hl1
            generalize upd H3 l1 (.lst (us.drop 1)) = H4 at s4 g4 hL4 ⊢
            have hJ4 := hJ3.ext s4
            walk_at "rd"
            refine v_slLs hJ4 fun l2 hl2 => ?_
            have ec2 : cutV us none (some 1) = us.take 1 := cut_take (n := 1)
            rw [ec2]
            have s5 : Same H4 (upd H4 l2 (.lst (us.take 1))) := Same.over (Same.refl _) hl2
            have g5 : upd H4 l2 (.lst (us.take 1)) l2 = some (.lst (us.take 1)) := upd_same
            have g45 := s5 _ _ g4
            have hL5 := hL4.new (o := .lst (us.take 1)) hl2
            generalize upd H4 l2 (.lst (us.take 1)) = H5 at s5 g5 g45 hL5 ⊢
            refine G.v_addL g45 g5 (by rw [line_val, List.length_drop, List.length_take]; omega) fun l3 hl3 => ?_
            have s6 : Same H5 (upd H5 l3 (.lst (us.drop 1 ++ us.take 1))) := Same.over (Same.refl _) hl3
            have n3 := (ne_of_none hL5.at_ hl3).symm
            have hL6 := hL5.new (o := .lst (us.drop 1 ++ us.take 1)) hl3
            have sH6 : Same H (hid (upd H5 l3 (.lst (us.drop 1 ++ us.take 1))) [D]) := same_hid (((s3.trans s4).trans s5).trans s6) (by simp [hD0])
            have d6 : Dp K (hid (upd H5 l3 (.lst (us.drop 1 ++ us.take 1))) [D]) (.ref l3) (psD (im.drop 1 ++ im.take 1)) :=
              of_app (SqL.of (by rw [hid_out (by simp [n3])]; exact upd_same)) (by rw [List.length_drop, List.length_drop, hul]) (by rw [List.length_take, List.length_take, hul])
                (fun i y x h1 h2 => by
                  rw [List.getElem?_drop] at h1 h2
                  exact Dp.same sH6 _ _ (hu _ y x h1 h2))
                (fun i y x h1 h2 => by
                  rw [List.getElem?_take] at h1 h2
                  split at h1
                  · rename_i hi
                    rw [if_pos hi] at h2
                    exact Dp.same sH6 _ _ (hu _ y x h1 h2)
                  · cases h1)
            have sf := ((s3.trans s4).trans s5).trans s6
            generalize upd H5 l3 (.lst (us.drop 1 ++ us.take 1)) = H6 at hL6 d6 sf ⊢
            have hDa6 := hL6.at_
            walk_at "rd"
            refine ⟨Same.over sf hD0, cs ++ [im.drop 1 ++ im.take 1], _, rfl, hL6.app (by simp) d6, fun c hc => ?_, by rw [List.length_append, List.length_singleton]; omega⟩
            rcases List.mem_append.mp hc with h | h
            · exact hG3 c h
            · have : c = im.drop 1 ++ im.take 1 := by simpa using h
              rw [this]; exact good_turn fit (by omega)
          · walk_at "rd"
            exact ⟨s3, cs, zs, rfl, hL3, hG3, by omega⟩
        clear hL3 hG3 hc3 cs zs s3 hJ3
        rintro σ' H3 ⟨s3, cs, zs, rfl, hL3, hG3, hc3⟩
        have ha3 := ha.ext s3
        walk_at "rd"
        refine G.l_range (fun u σ H' => Same H H' ∧ ∃ cs zs v7 v8, σ = [some (.ref a), some (.ref m), some (.int (n : Nat)), some (.int e), some (.ref J), v5, some (.ref D), v7, v8, v9] ∧ LstS K H' [D] D psD cs zs ∧ (∀ c ∈ cs, Good (rs.map (·.1)) n im c) ∧ cs.length ≤ 2 + 8 * u) ⟨s3, cs, zs, _, _, rfl, hL3, hG3, by omega⟩ ?_ ?_
        · clear hL3 hG3 hc3 cs zs s3 ha3
          rintro u σ' H3 hu3 ⟨s3, cs, zs, v7, v8, rfl, hL3, hG3, hc3⟩
          have hu8 : u < rs.length := by omega
          have yvu : vs[u]? = some vs[u] := List.getElem?_eq_getElem (by omega)
          have yru : rs[u]? = some rs[u] := List.getElem?_eq_getElem hu8
          obtain ⟨qu, w1, w2, hqu0, hqu, du1, du2⟩ := dp_two (Dp.same s3 _ _ (hv u _ _ yvu yru))
          obtain rfl := dp_int du1
          have avu : atI vs (u : Int) = some (.ref qu) := by rw [← hqu0]; exact atI_nat yvu
          have eu8 := (nf.2.2 u hu8).1
          rw [getD_fst yru] at eu8
          have ha3 := ha.ext s3
          walk_at "rd"
          refine G.l_range (fun pr σ H' => Same H H' ∧ ∃ cs zs v8, σ = [some (.ref a), some (.ref m), some (.int (n : Nat)), some (.int e), some (.ref J), v5, some (.ref D), some (.int (u : Nat)), v8, v9] ∧ LstS K H' [D] D psD cs zs ∧ (∀ c ∈ cs, Good (rs.map (·.1)) n im c) ∧ cs.length ≤ 2 + 8 * u + pr) ⟨s3, cs, zs, _, rfl, hL3, hG3, by omega⟩ ?_ ?_
          · rintro pr σ' H3 hpr ⟨s3, cs, zs, v8, rfl, hL3, hG3, hc3⟩
            have hJ3 := hJ.ext s3
            walk_at "rd"
            refine G.i_nd (fun g1 => ?_) (fun g1 => ?_)
            · walk_at "rd"
              refine ⟨by show 2 ≤ sizeLine; decide, fun q1 hq1 => ?_⟩
              have s4 : Same H3 (upd H3 q1 (.tup [.int (u : Nat), .int (pr : Nat)])) := Same.over (Same.refl _) hq1
              have g4 : upd H3 q1 (.tup [.int (u : Nat), .int (pr : Nat)]) q1 = some (.tup [.int (u : Nat), .int (pr : Nat)]) := upd_same
              have hL4 := hL3.new (o := .tup [.int (u : Nat), .int (pr : Nat)]) hq1
              generalize upd H3 q1 (.tup [.int (u : Nat), .int (pr : Nat)]) = H4 at s4 g4 hL4 ⊢
              have hJ4 := hJ3.ext s4
              walk_at "rd"
              refine v_notinD (u := ((u : Int), (pr : Int))) (us := im) emb_p (by decide) (of_two (SqT.of g4) (.int _) (.int _)) (Dp.same (s3.trans s4) _ _ d2) ?_
              walk_at "rd"
              refine G.i_nd (fun g2 => ?_) (fun g2 => ?_)
              · walk_at "rd"
                refine G.i_d (fun g3 => ?_) (fun g3 => ?_)
                · have hDa := hL4.at_
                  have hzl := hL4.len
                  walk_at "rd"
                  refine v_slLs hJ4 fun l1 hl1 => ?_
                  have ec : cutV us (some 1) none = us.drop 1 := cut_drop (n := 1)
                  rw [ec]
                  have s5 : Same H4 (upd H4 l1 (.lst (us.drop 1))) := Same.over (Same.refl _) hl1
                  have g5 : upd H4 l1 (.lst (us.drop 1)) l1 = some (.lst (us.drop 1)) := upd_same
                  have hL5 := hL4.new (o := .lst (us.drop 1)) hl1
                  generalize upd H4 l1 (.lst (us.drop 1)) = H5 at s5 g5 hL5 ⊢
                  walk_at "rd"
                  refine ⟨by show 2 ≤ sizeLine; decide, fun q2 hq2 => ?_⟩
                  have s6 : Same H5 (upd H5 q2 (.tup [.int (u : Nat), .int (pr : Nat)])) := Same.over (Same.refl _) hq2
                  have g6 : upd H5 q2 (.tup [.int (u : Nat), .int (pr : Nat)]) q2 = some (.tup [.int (u : Nat), .int (pr : Nat)]) := upd_same
                  have n6 := (ne_of_none hL5.at_ hq2).symm
                  have hL6 := hL5.new (o := .tup [.int (u : Nat), .int (pr : Nat)]) hq2
                  have g56 := s6 _ _ g5
                  generalize upd H5 q2 (.tup [.int (u : Nat), .int (pr : Nat)]) = H6 at s6 g6 hL6 g56 ⊢
                  walk_at "rd"
                  refine ⟨by show 1 ≤ sizeLine; decide, fun l2 hl2 => ?_⟩
                  have s7 : Same H6 (upd H6 l2 (.lst [.ref q2])) := Same.over (Same.refl _) hl2
                  have g7 : upd H6 l2 (.lst [.ref q2]) l2 = some (.lst [.ref q2]) := upd_same
                  have hL7 := hL6.new (o := .lst [.ref q2]) hl2
                  have g57 := s7 _ _ g56
                  have g67 := s7 _ _ g6
                  generalize upd H6 l2 (.lst [.ref q2]) = H7 at s7 g7 hL7 g57 g67 ⊢
                  refine G.v_addL g57 g7 (by rw [line_val, List.length_drop, List.length_singleton]; omega) fun l3 hl3 => ?_
                  have s8 : Same H7 (upd H7 l3 (.lst (us.drop 1 ++ [.ref q2]))) := Same.over (Same.refl _) hl3
                  have n3 := (ne_of_none hL7.at_ hl3).symm
                  have hL8 := hL7.new (o := .lst (us.drop 1 ++ [.ref q2])) hl3
                  have sf := ((((s3.trans s4).trans s5).trans s6).trans s7).trans s8
                  have sH8 : Same H (hid (upd H7 l3 (.lst (us.drop 1 ++ [.ref q2]))) [D]) := same_hid sf (by simp [hD0])
                  have d8 : Dp K (hid (upd H7 l3 (.lst (us.drop 1 ++ [.ref q2]))) [D]) (.ref l3) (psD (im.drop 1 ++ [((u : Int), (pr : Int))])) :=
                    of_snoc (SqL.of (by rw [hid_out (by simp [n3])]; exact upd_same)) (by rw [List.length_drop, List.length_drop, hul])
                      (fun i y x h1 h2 => by
                        rw [List.getElem?_drop] at h1 h2
                        exact Dp.same sH8 _ _ (hu _ y x h1 h2)) (of_two (SqT.of (by rw [hid_out (by simp [n6])]; exact s8 _ _ g67)) (.int _) (.int _))
                  generalize upd H7 l3 (.lst (us.drop 1 ++ [.ref q2])) = H8 at hL8 d8 sf ⊢
                  have hDa8 := hL8.at_
                  walk_at "rd"
                  refine ⟨Same.over sf hD0, cs ++ [im.drop 1 ++ [((u : Int), (pr : Int))]], _, _, rfl, hL8.app (by simp) d8, fun c hc => ?_, by rw [List.length_append, List.length_singleton]; omega⟩
                  rcases List.mem_append.mp hc with h | h
                  · exact hG3 c h
                  · have : c = im.drop 1 ++ [((u : Int), (pr : Int))] := by simpa using h
                    rw [this]
                    refine good_new fit (by omega) g2 ⟨g1, ⟨by show (0 : Int) ≤ (u : Int); omega, by rw [List.length_map]; show (u : Int) < _; omega⟩, by show (0 : Int) ≤ (pr : Int); omega, ?_⟩
                    show (pr : Int) < (rs.map (·.1)).getD ((u : Int)).toNat 0
                    rw [Int.toNat_natCast, getD_fst yru]
                    exact hpr
                · walk_at "rd"
                  exact ⟨s3.trans s4, cs, zs, _, rfl, hL4, hG3, by omega⟩
              · walk_at "rd"
                exact ⟨s3.trans s4, cs, zs, _, rfl, hL4, hG3, by omega⟩
            · walk_at "rd"
              exact ⟨s3, cs, zs, _, rfl, hL3, hG3, by omega⟩
          · rintro σ' H4 ⟨s4, cs, zs, v8, rfl, hL4, hG4, hc4⟩
            exact ⟨s4, cs, zs, _, _, rfl, hL4, hG4, by omega⟩
        · clear hL3 hG3 hc3 cs zs s3 ha3
          rintro σ' H3 ⟨s3, cs, zs, v7, v8, rfl, hL3, hG3, hc3⟩
          walk_at "rd"
          refine v_slLs (SqL.of hL3.at_) fun l hl => ?_
          have ec : cutV zs none (some 4) = zs.take 4 := cut_take (n := 4)
          rw [ec]
          have s4 : Same H3 (upd H3 l (.lst (zs.take 4))) := Same.over (Same.refl _) hl
          have g4 : upd H3 l (.lst (zs.take 4)) l = some (.lst (zs.take 4)) := upd_same
          have hL4 := hL3.new (o := .lst (zs.take 4)) hl
          have sf := s3.trans s4
          generalize upd H3 l (.lst (zs.take 4)) = H4 at s4 g4 hL4 sf ⊢
          clear hL3 s3 s4
          walk_at "rd"
          refine G.l_list (fun u σ H' => Same H4 H' ∧ ∃ v9, σ = [some (.ref a), some (.ref m), some (.int (n : Nat)), some (.int e), some (.ref J), v5, some (.ref D), v7, v8, v9]) ⟨Same.refl _, _, rfl⟩ (fun i σ H' h => (SqL.of g4).ext h.1) ?_ ?_
          · rintro u x σ' H5 hx ⟨s5, v9, rfl⟩
            rw [List.getElem?_take] at hx
            have hxz : zs[u]? = some x := by
              split at hx
              · exact hx
              · cases hx
            have hlt := (List.getElem?_eq_some_iff.mp hxz).1
            have hcu : u < cs.length := by rw [← hL4.len]; exact hlt
            have hc : cs[u]? = some cs[u] := List.getElem?_eq_getElem hcu
            have dx := Dp.same (fun b o eb => s5 b o (hid_le b o eb)) _ _ (hL4.it u x _ hxz hc)
            obtain ⟨Jx, ux, rfl, _, _, _⟩ := dp_lst dx
            have gc := hG3 _ (List.getElem_mem hcu : cs[u] ∈ cs)
            generalize cs[u] = c at dx gc
            have s15 : Same H H5 := sf.trans s5
            refine G.r_name (σ := [some (.ref a), some (.ref m), some (.int (n : Nat)), some (.int e), some (.ref J), v5, some (.ref D), v7, v8, v9]) ?_
            refine G.r_ifS (G.r_not (G.r_tr (G.r_call (G.r_cons (G.r_op (G.r_var rfl (G.r_mkX ?_)))))))
            refine rd_repl (e' := e) (J' := Jx) (c := c) rfl rfl (ha.ext s15) hvl (fun i y r h1 h2 => Dp.same s15 _ _ (hv i y r h1 h2)) hn' (fun H R h => ⟨_, rfl, h⟩) (fun H R h => ⟨_, rfl, h⟩) dx h8 fun l2 H6 s6 dl => ?_
            refine mk_if dl (ok' _ _ gc.1.1) (noF_set nf hn' (by rw [gk]; exact Int.le_refl _) (by omega) gc.1) fun x H7 s7 at_ => ?_
            refine v_eqIf (hm.same (s15.trans (s6.trans s7))) at_ ?_
            rw [decide_eq_false fun z => ne' _ _ (fun y => gc.2 (by have := congrArg Prod.snd y; exact this)) z.symm]
            walk_at "rd"
            refine ⟨.bl false, .bl false, rfl, .bl false, ?_⟩
            walk_at "rd"
            exact ⟨s5.trans (s6.trans s7), _, rfl⟩
          · rintro σ' H5 ⟨s5, v9, rfl⟩
            exact ⟨sf.trans s5, _, _, _, _, _, _, _, _, rfl⟩
    · rintro σ' H1 ⟨s1, v2, v3, v4, v5, v6, v7, v8, v9, rfl⟩
      walk_at "rd"
      exact k H1 s1
end


/-! ### the law on interfaces -/
theorem fault_uniq {es : List Int} {is : List (List (Int × Int))} {r r' : Option Nat} (h : IsFault es is r) (h' : IsFault es is r') : r = r' := by
  rcases h with ⟨a, rfl⟩ | ⟨a, rfl⟩ | ⟨⟨a, b⟩, ⟨i, rfl, hi, hn, hj⟩ | ⟨rfl, hj⟩⟩ <;> rcases h' with ⟨a', rfl⟩ | ⟨a', rfl⟩ | ⟨⟨a', b'⟩, ⟨i', rfl, hi', hn', hj'⟩ | ⟨rfl, hj'⟩⟩
  all_goals first | rfl | omega | skip
  · rcases Nat.lt_trichotomy i i' with z | z | z
    · exact absurd (hj' i z) hn
    · rw [z]
    · exact absurd (hj i' z) hn'
  · exact absurd (hj' i hi) hn
  · exact absurd (hj i' hi') hn'
theorem lk_here1 {k : Str} {v : V} {r : List (Str × V)} : List.lookup k ((k, v) :: r) = some v := by
  have e : (k == k) = true := beq_self_eq_true k
  simp only [List.lookup, e]
/-- equal data on both sides -/
def Das (K : PySem.W.Frag) (d : PyData) (n : Nat) : Prop := ∀ (H : Hp) (x y : V), Dp K H x d → Dp K H y d → Da K H n x y
theorem das_int {K : PySem.W.Frag} {i : Int} : Das K (.int i) 1 := fun H x y h1 h2 => by
  rw [dp_int h1, dp_int h2]
  exact .int i
theorem das_tup {K : PySem.W.Frag} {α : Type} {f : α → PyData} {xs : List α} {n : Nat} (hl : xs.length ≤ 1000000) (h : ∀ x, x ∈ xs → Das K (f x) n) : Das K (.tuple (xs.map f)) (n + 1) := fun H x y h1 h2 => by
  obtain ⟨a, vs, rfl, s1, l1, i1⟩ := dp_tup h1
  obtain ⟨b, ws, rfl, s2, l2, i2⟩ := dp_tup h2
  refine .tup s1 s2 (by omega) (by omega) fun i u w hu hw => ?_
  have hi : i < xs.length := by have := (List.getElem?_eq_some_iff.mp hu).1; omega
  have hx : xs[i]? = some xs[i] := List.getElem?_eq_getElem hi
  exact h _ (List.getElem_mem hi) H u w (i1 i u _ hu hx) (i2 i w _ hw hx)
theorem das_pair {K : PySem.W.Frag} {p : Int × Int} : Das K (pD p) 2 := fun H x y h1 h2 => by
  obtain ⟨a, x1, x2, rfl, s1, a1, a2⟩ := dp_two h1
  obtain ⟨b, y1, y2, rfl, s2, b1, b2⟩ := dp_two h2
  rw [dp_int a1, dp_int a2] at s1
  rw [dp_int b1, dp_int b2] at s2
  refine .tup s1 s2 rfl (by show 2 ≤ 1000000; decide) fun i u w hu hw => ?_
  rw [hu] at hw
  cases hw
  match i, hu with
  | 0, hu => cases hu; exact .int _
  | 1, hu => cases hu; exact .int _
  | i + 2, hu => simp at hu
theorem da_mono {K : PySem.W.Frag} {H : Hp} : ∀ {n : Nat} {x y : V}, Da K H n x y → Da K H (n + 1) x y
  | _, _, _, .non => .non
  | _, _, _, .bl b => .bl b
  | _, _, _, .int i => .int i
  | _, _, _, .str z => .str z
  | n + 1, _, _, .lst a b c d e => .lst a b c d fun i x y h1 h2 => da_mono (e i x y h1 h2)
  | n + 1, _, _, .tup a b c d e => .tup a b c d fun i x y h1 h2 => da_mono (e i x y h1 h2)
theorem das_mono {K : PySem.W.Frag} {d : PyData} {n : Nat} (h : Das K d n) : Das K d (n + 1) := fun H x y h1 h2 => da_mono (h H x y h1 h2)
def sp_law (K : PySem.W.Frag) : Sp := fun vs H Q _ => ∃ (a : Addr) (ns : List Int), vs = [.ref a] ∧ SqL K H a (ns.map V.int) ∧ ns.length ≤ 63 ∧ ∀ H', Q (.bl true) H'
section
variable {P : Program} {w : World} {K : PySem.W.Frag} {mg : Str → Option Value} {base : Heap} {C : Cs}
theorem ok_law (T : Top K mg) (Z : Txt K mg C) : Cal P w K mg base CX0 7 "law" ["script"] (sp_law K) := by
  refine def_ok T.f_law sc_law (fun _ _ _ _ _ _ us hl => match us, hl with | [_], _ => rfl) (fun vs H Q E h => ?_) (fun f cdv A outer s H vs Q E hr h => ?_)
  · obtain ⟨a, ns, rfl, _⟩ := h
    rfl
  · obtain ⟨a, ns, rfl, hS, hl, k⟩ := h
    refine ⟨_, (pss_cons (ps_set (i := 1) sc_law.nd rfl (by first | exact Or.inl rfl | exact Or.inr rfl) (g_call (ok_l_pool T) (hr.mono (by decide)) (by rfl) pass0 (pa_cons (pv 0) (pa_cons pe_int pa_nil))))
  (pss_cons (ps_set (i := 2) sc_law.nd rfl (by first | exact Or.inl rfl | exact Or.inr rfl) (g_call (ok_l_drawn_rows T) (hr.mono (by decide)) (by rfl) pass0 (pa_cons (pv 1) pa_nil)))
  (pss_cons (ps_setLc (i := 3) (own := [("row", 4)]) rfl sc_law.nd rfl rfl (sw_true rfl rfl rfl (by decide +kernel)) (g_it (K := K) (pv 2)) (blkOk_by (own := [("row", 4)]) (N := ["script", "pool", "rows", "passed", "row", "bad", "made", "e", "due"]) (sc := defScope s_law) (by decide +kernel)) (fun _ _ _ _ _ => (pg_name (i := 4) sc_law.nd rfl (Or.inl rfl))) (fun _ _ _ _ _ => pts_nil) (fun _ _ _ _ _ => (pe_tup (pa_cons (pe_ix (g_ix (K := K)) (pv 4) pe_int (fun _ _ => rfl)) (pa_cons (pe_callTy (g_list (K := K)) (by rfl) T.b_list (by decide +kernel) (pa_cons (pe_ix (g_ix (K := K)) (pv 4) pe_int (fun _ _ => rfl)) pa_nil)) pa_nil)))))
  (pss_cons (ps_set (i := 5) sc_law.nd rfl (by first | exact Or.inl rfl | exact Or.inr rfl) (g_call (ok_l_bad T) (hr.mono (by decide)) (by rfl) pass0 (pa_cons (pv 2) pa_nil)))
  (pss_cons (g_try (K := K) (i := 7) rfl rfl sc_law.nd rfl rfl ⟨rfl, by decide, Or.inl Z.n_BlameError⟩ takesN
  (fun W pn xe tk _ =>
  (pss_one (ps_set (i := 6) sc_law.nd rfl (by first | exact Or.inl rfl | exact Or.inr rfl) (g_makeX Z.k_Interface (ok_Interface_init T Z) (hr.mono (by decide)) (by rfl) Z.n_Interface tk (pa_cons (pv 3) pa_nil)))))
  (fun a oe cls d pn hz hf =>
  (pss_cons (ps_if (PW.pt (pw_or (g_truth (K := K) (pe_callB (call_isE' (L2N.Zn.zc hz) hf rfl) (by rfl) T.b_isinstance (by decide +kernel) (pa_cons (pv 7) (pa_cons (pe_glob (v := .ref C.BadText) rfl Z.n_BadText rfl) pa_nil))) (by intro _; rfl)) (pw_or1 (pt_cmpR (op_neDK (K := K) (by have z := un64 hr; exact z)) (pv 3) (pv 2) (nomark _)))))
    (pss_one (ps_ret pe_bl))
    pss_nil)
    (pss_one (ps_ret (g_andT (K := K) (pe_cmpR g_isnot (pv 5) pe_non (nomark _)) (g_andT (K := K) (pe_callB (call_isE' (L2N.Zn.zc hz) hf rfl) (by rfl) T.b_isinstance (by decide +kernel) (pa_cons (pv 7) (pa_cons (pe_glob (v := .ref C.BadInterface) rfl Z.n_BadInterface rfl) pa_nil))) (pe_one (g_callH (okh_l_same T) (L2H.roomH_mark (hr.mono (by decide)) _) (hot_of hz hf) (by rfl) (pa_cons (pe_xfE (L2N.Zn.zc hz) hf rfl (pv 7)) (pa_cons (pv 5) pa_nil)))))))))))
  (pss_cons (ps_if (PW.pt (pw_or (pt_cmpR g_isnot (pv 5) pe_non (nomark _)) (pw_or (pt_cmpR (op_neDK (K := K) (by have z := un64 hr; exact z)) (pv 3) (pv 2) (nomark _)) (pw_or1 (pt_not (g_truth (K := K) (g_call (ok_l_unlike T Z) (hr.mono (by decide)) (by rfl) pass0 (pa_cons (pv 2) (pa_cons (pv 6) pa_nil))) (by intro _; rfl)))))))
  (pss_one (ps_ret pe_bl))
  pss_nil)
  (pss_cons (ps_set (i := 8) sc_law.nd rfl (by first | exact Or.inl rfl | exact Or.inr rfl) (pe_lst (pa_cons (pe_callTy (g_tup (K := K)) (by rfl) T.b_tuple (by decide +kernel) (pa_cons (pe_lc (own := [("row", 4)]) rfl sc_law.nd (g_it (K := K) (pv 2)) (blkOk_by (own := [("row", 4)]) (N := ["script", "pool", "rows", "passed", "row", "bad", "made", "e", "due"]) (sc := defScope s_law) (by decide +kernel)) (fun _ _ _ _ _ => (pg_name (i := 4) sc_law.nd rfl (Or.inl rfl))) (fun _ _ _ _ _ => pts_nil) (fun _ _ _ _ _ => (pe_ix (g_ix (K := K)) (pv 4) pe_int (fun _ _ => rfl)))) pa_nil)) (pa_cons (pe_callTy (g_tup (K := K)) (by rfl) T.b_tuple (by decide +kernel) (pa_cons (pe_lc (own := [("row", 4)]) rfl sc_law.nd (g_it (K := K) (pv 2)) (blkOk_by (own := [("row", 4)]) (N := ["script", "pool", "rows", "passed", "row", "bad", "made", "e", "due"]) (sc := defScope s_law) (by decide +kernel)) (fun _ _ _ _ _ => (pg_name (i := 4) sc_law.nd rfl (Or.inl rfl))) (fun _ _ _ _ _ => pts_nil) (fun _ _ _ _ _ => (pe_callTy (g_tup (K := K)) (by rfl) T.b_tuple (by decide +kernel) (pa_cons (pe_ix (g_ix (K := K)) (pv 4) pe_int (fun _ _ => rfl)) pa_nil)))) pa_nil)) pa_nil))))
  (pss_cons (ps_if (PW.pt (pw_or (pt_not (g_truth (K := K) (g_call (ok_l_same T 5) (hr.mono (by decide)) (by rfl) pass0 (pa_cons (pe_lst (pa_cons (fld_K (K := K) (pe_fld (pv 6) rfl)) (pa_cons (fld_K (K := K) (pe_fld (pv 6) rfl)) pa_nil))) (pa_cons (pv 8) pa_nil))) (by intro _; rfl))) (pw_or1 (pt_not (g_truth (K := K) (g_call (ok_l_same T 5) (hr.mono (by decide)) (by rfl) pass0 (pa_cons (g_meth0 (ok_Interface_size T Z) Z.k_Interface.cl (hr.mono (by decide)) pass0 (pv 6)) (pa_cons (pe_callB (g_len (K := K)) (by rfl) T.b_len PySem.boot_len (pa_cons (pv 2) pa_nil)) pa_nil))) (by intro _; rfl))))))
  (pss_one (ps_ret pe_bl))
  pss_nil)
  (pss_one (ps_ret (g_call (ok_l_same T 5) (hr.mono (by decide)) (by rfl) pass0 (pa_cons (pe_cmpR (op_eqO (ok_Interface_eq T Z) (hr.mono (by decide))) (g_makeX Z.k_Interface (ok_Interface_init T Z) (hr.mono (by decide)) (by rfl) Z.n_Interface takesN (pa_cons (pe_callTy (g_list (K := K)) (by rfl) T.b_list (by decide +kernel) (pa_cons (pv 2) pa_nil)) pa_nil)) (pv 6) (nomark _)) (pa_cons pe_bl pa_nil))))))))))))), ?_⟩
    walk_at "rd"
    refine ⟨a, ns, 0, rfl, hS, fun p sc H1 hp0 hsc0 s1 hp => ?_⟩
    walk_at "rd"
    refine ⟨p, sc, rfl, hp, fun R rs ys H2 hp2 nRp nRs (hL : LstS K H2 [p, R] R rD rs ys) r16 r10 => ?_⟩
    have hid0 : hid H2 [] = H2 := funext fun b => hid_out (by simp)
    have hd : Dp K H2 (.ref R) (rsD rs) := by
      have := hL.fin (L' := []) (by simp) (by simp)
      rwa [hid0] at this
    have rok : RsOk rs := ⟨by omega, fun r hr => by have := r10 r hr; omega⟩
    clear hL hp2 nRp nRs hid0 hp hp0 hsc0 s1 hS
    obtain ⟨R', vs, eR, hR, hvl, hv⟩ := dp_lst hd
    obtain rfl : R = R' := V.ref.inj eR
    walk_at "rd"
    refine lcD (K := K) (f := rD) walk_list rs H2 hvl.symm (fun H' s => hR.ext s) ?_ ?_
    · rintro D i r x acc H3 H4 hD hr hW hL ⟨rfl, hx⟩
      obtain ⟨q, x1, x2, rfl, hq0, d1, d2⟩ := dp_two (hv i _ _ hx hr)
      obtain rfl := dp_int d1
      obtain ⟨J, us, rfl, hJ, hul, hu⟩ := dp_lst d2
      have hq := hq0.ext hW.1
      walk_at "rd"
      refine ⟨rfl, ?_⟩
      walk_at "rd"
      refine ⟨J, us, rfl, .inl (hJ.ext hW.1), fun l hl => ?_⟩
      walk_at "rd"
      refine ⟨by show 2 ≤ sizeLine; decide, fun q2 hq2 => ?_⟩
      have sl : Same H4 (upd H4 l (.lst us)) := Same.over (Same.refl _) hl
      have n2 := same_none sl hq2
      have nl : l ≠ q2 := fun z => by rw [← z, upd_same] at hq2; cases hq2
      exact lcD_next (Same.refl H2) hD hr hW hL rok.1 (Same.over sl n2) (of_two (SqT.of (by rw [mx_new n2]; exact upd_same)) (.int _)
        (of_lst (SqL.of (by rw [mx_new hl, upd_ne nl]; exact upd_same)) hul fun i y x h1 h2 => Dp.same (mx_base hW.1) _ _ (hu i y x h1 h2)))
    · rintro D H3 ws hD s3 hL3 hd3 _
      have hp3 : Dp K H3 (.ref D) (rsD rs) := Dp.same (mx_same (Same.refl _) s3) _ _ hd3
      walk_at "rd"
      refine ⟨.ref R, rs, rfl, rok, Dp.same s3 _ _ hd, fun H4 r s4 hr => ?_⟩
      have hp4 := Dp.same s4 _ _ hp3
      have hr4 := Dp.same (s3.trans s4) _ _ hd
      walk_at "rd"
      cases r with
      | some i =>
        have hi : i ≤ 16 := by
          rcases hr with ⟨_, h⟩ | ⟨_, h⟩ | ⟨⟨_, h8⟩, ⟨j, h, hj, _⟩ | ⟨h, _⟩⟩
          · cases h; decide
          · cases h; decide
          · cases h; omega
          · cases h
        dsimp only [faultV, List.set_cons_succ, List.set_cons_zero]
        walk_at "rd"
        refine mk_ifX hp4 rok (fun r' h' => fault_uniq h' hr) fun d H5 s5 hd5 e5 => ?_
        refine r_caught Z.x_BadInterface_BlameError fun ea hea => ?_
        walk_at "rd"
        refine ⟨.ref C.BadText, .ref C.BadText, C.BadInterface, d, _, false, rfl, .own _, rfl, Z.e_BadInterface, rfl, e5, Z.q_BadInterface_BadText, ?_⟩
        walk_at "rd"
        refine v_neD emb_rs (by decide) (Dp.same s5 _ _ hp4) (Dp.same s5 _ _ hr4) ?_
        rw [decide_eq_true rfl]
        walk_at "rd"
        refine ⟨.ref C.BadInterface, .ref C.BadInterface, C.BadInterface, d, _, true, rfl, .own _, rfl, Z.e_BadInterface, rfl, e5, Z.q_BadInterface_BadInterface, ?_⟩
        walk_at "rd"
        refine ⟨_, rfl, C.BadInterface, d, _, _, rfl, rfl, Z.e_BadInterface, Z.a_BadInterface_at, rfl, e5, lk_here1, ?_⟩
        walk_at "rd"
        refine ⟨_, rfl, ?_⟩
        exact k _
      | none =>
        have nf := noF_of hr
        dsimp only [faultV, List.set_cons_succ, List.set_cons_zero]
        walk_at "rd"
        refine mk_if hp4 rok nf fun x H5 s5 at5 => ?_
        walk_at "rd"
        refine v_neD emb_rs (by decide) (Dp.same s5 _ _ hp4) (Dp.same s5 _ _ hr4) ?_
        rw [decide_eq_true rfl]
        walk_at "rd"
        refine ⟨.ref R, x, rs, rfl, Dp.same s5 _ _ hr4, nf, at5, fun H6 s6 => ?_⟩
        walk_at "rd"
        have s26 := ((s3.trans s4).trans s5).trans s6
        have at6 := at5.same s6
        have hR6 := hR.ext s26
        walk_at "rd"
        refine lcD (K := K) (f := PyData.int) walk_list (rs.map (·.1)) (fun _ => none) (by rw [List.length_map]; exact hvl.symm) (fun H' s => hR6.ext s) ?_ ?_
        · rintro D1 i e x1 acc H7 H8 hD1 hr1 hW hL1 ⟨rfl, hx1⟩
          have hi : i < rs.length := by have := (List.getElem?_eq_some_iff.mp hr1).1; rwa [List.length_map] at this
          have hri : rs[i]? = some rs[i] := List.getElem?_eq_getElem hi
          obtain ⟨q, x1, x2, rfl, hq0, d1, d2⟩ := dp_two (hv i _ _ hx1 hri)
          obtain rfl := dp_int d1
          have hr2 := hr1
          rw [List.getElem?_map, hri] at hr2
          obtain rfl : rs[i].1 = e := Option.some.inj hr2
          have hq := hq0.ext (s26.trans hW.1)
          walk_at "rd"
          refine ⟨rfl, ?_⟩
          walk_at "rd"
          exact lcD_next same_nil hD1 hr1 hW hL1 (by rw [List.length_map]; omega) (Same.refl _) (.int _)
        · rintro D1 H7 ws1 hD1 s7 hL1 _ hT1
          walk_at "rd"
          refine v_tupL hL1 fun e1 he1 => ?_
          have te := hT1 e1 he1
          have s8 : Same H7 (upd H7 e1 (.tup ws1)) := Same.over (Same.refl _) he1
          generalize upd H7 e1 (.tup ws1) = H8 at te s8 ⊢
          have s68 := s7.trans s8
          have te8 := Dp.same (mx_same same_nil s68) _ _ te
          have hR8 := hR6.ext s68
          walk_at "rd"
          refine lcD (K := K) (f := ptD) walk_list (rs.map (·.2)) H8 (by rw [List.length_map]; exact hvl.symm) (fun H' s => hR8.ext s) ?_ ?_
          · rintro D2 i e x1 acc H9 H10 hD2 hr1 hW hL2 ⟨rfl, hx1⟩
            have hi : i < rs.length := by have := (List.getElem?_eq_some_iff.mp hr1).1; rwa [List.length_map] at this
            have hri : rs[i]? = some rs[i] := List.getElem?_eq_getElem hi
            obtain ⟨q, x1, x2, rfl, hq0, d1, d2⟩ := dp_two (hv i _ _ hx1 hri)
            obtain rfl := dp_int d1
            obtain ⟨J, us, rfl, hJ, hul, hu⟩ := dp_lst d2
            have hr2 := hr1
            rw [List.getElem?_map, hri] at hr2
            obtain rfl : rs[i].2 = e := Option.some.inj hr2
            have sq := (s26.trans s68).trans hW.1
            have hq := hq0.ext sq
            walk_at "rd"
            refine ⟨rfl, ?_⟩
            walk_at "rd"
            refine ⟨J, us, rfl, .inl ⟨hJ.ext sq, fun l hl => ?_⟩⟩
            exact lcD_next (Same.refl H8) hD2 hr1 hW hL2 (by rw [List.length_map]; omega) (Same.over (Same.refl _) hl) (of_tup (SqT.of (by rw [mx_new hl]; exact upd_same)) hul fun i y x h1 h2 => Dp.same (mx_base hW.1) _ _ (Dp.same (s26.trans s68) _ _ (hu i y x h1 h2)))
          · rintro D2 H9 ws2 hD2 s9 hL2 _ hT2
            walk_at "rd"
            refine v_tupL hL2 fun i1 hi1 => ?_
            have ti := hT2 i1 hi1
            have s10 : Same H9 (upd H9 i1 (.tup ws2)) := Same.over (Same.refl _) hi1
            generalize upd H9 i1 (.tup ws2) = H10 at ti s10 ⊢
            have s810 := s9.trans s10
            have ti10 := Dp.same (mx_same (Same.refl _) s810) _ _ ti
            have te10 := Dp.same s810 _ _ te8
            walk_at "rd"
            refine ⟨by show 2 ≤ sizeLine; decide, fun du hdu => ?_⟩
            have s11 : Same H10 (upd H10 du (.lst [.ref e1, .ref i1])) := Same.over (Same.refl _) hdu
            have g11 : upd H10 du (.lst [.ref e1, .ref i1]) du = some (.lst [.ref e1, .ref i1]) := upd_same
            generalize upd H10 du (.lst [.ref e1, .ref i1]) = H11 at s11 g11 ⊢
            have te11 := Dp.same s11 _ _ te10
            have ti11 := Dp.same s11 _ _ ti10
            have s611 := (s68.trans s810).trans s11
            have hR11 := hR6.ext s611
            have r11 := Dp.same (s6.trans s611) _ _ (Dp.same s5 _ _ hr4)
            have at11 := at6.same s611
            obtain ⟨dx, fe, fi, f1, f2, f3⟩ := id at11
            walk_at "rd"
            refine ⟨x, C.Interface, dx, _, _, rfl, f1, Z.k_Interface.cl, Z.a_Interface_exports, lk_e _ _, ?_⟩
            walk_at "rd"
            refine ⟨x, C.Interface, dx, _, _, rfl, f1, Z.k_Interface.cl, Z.a_Interface_imports, lk_i _ _, ?_⟩
            walk_at "rd"
            refine ⟨by show 2 ≤ sizeLine; decide, fun l2 hl2 => ?_⟩
            have s12 : Same H11 (upd H11 l2 (.lst [.ref fe, .ref fi])) := Same.over (Same.refl _) hl2
            have g12 : upd H11 l2 (.lst [.ref fe, .ref fi]) l2 = some (.lst [.ref fe, .ref fi]) := upd_same
            generalize upd H11 l2 (.lst [.ref fe, .ref fi]) = H12 at s12 g12 ⊢
            have hR12 := hR11.ext s12
            have f12 := s12 _ _ f1
            have at12 := at11.same s12
            have r12 := Dp.same s12 _ _ r11
            walk_at "rd"
            refine ⟨.ref l2, .ref du, rfl, .lst (SqL.of g12) (SqL.of (s12 _ _ g11)) rfl (by show 2 ≤ 1000000; decide) fun i u v hu2 hv2 => ?_, ?_⟩
            · match i, hu2, hv2 with
              | 0, hu2, hv2 =>
                cases hu2
                cases hv2
                exact das_mono (das_mono (das_tup (by rw [List.length_map]; omega) fun x _ => das_int)) _ _ _ (Dp.same s12 _ _ (of_ints f2)) (Dp.same s12 _ _ te11)
              | 1, hu2, hv2 =>
                cases hu2
                cases hv2
                exact das_tup (by rw [List.length_map]; omega) (fun c hc => das_tup (by
                  obtain ⟨r, hr, rfl⟩ := List.mem_map.mp hc
                  have := r10 r hr
                  omega) fun p _ => das_pair) _ _ _ (Dp.same s12 _ _ f3) (Dp.same s12 _ _ ti11)
              | i + 2, hu2, hv2 => simp at hu2
            · walk_at "rd"
              refine ⟨x, dx, _, rfl, f12, lk_s _ _, ?_⟩
              walk_at "rd"
              refine ⟨x, rs, rfl, at12, ?_⟩
              walk_at "rd"
              refine ⟨_, _, rfl, by rw [hvl]; exact .int _, ?_⟩
              walk_at "rd"
              refine ⟨R, vs, rfl, .inl hR12, fun l3 hl3 => ?_⟩
              have s13 : Same H12 (upd H12 l3 (.lst vs)) := Same.over (Same.refl _) hl3
              have d13 : Dp K (upd H12 l3 (.lst vs)) (.ref l3) (rsD rs) := of_lst (SqL.of upd_same) hvl fun i y x h1 h2 => Dp.same (((s26.trans s611).trans s12).trans s13) _ _ (hv i y x h1 h2)
              generalize upd H12 l3 (.lst vs) = H13 at s13 d13 ⊢
              walk_at "rd"
              refine mk_if d13 rok nf fun x3 H14 s14 at14 => ?_
              walk_at "rd"
              refine v_eqIf at14 (at12.same (s13.trans s14)) ?_
              rw [decide_eq_true rfl]
              walk_at "rd"
              refine ⟨.bl true, .bl true, rfl, .bl true, ?_⟩
              exact k _
end


theorem exm_mk {K : PySem.W.Frag} {R S : Addr} {b : Bool} (h1 : PySem.W.subIn K (.ref S) (.type "BaseException") = some true) (h2 : PySem.W.isClsIn K S = true) (h3 : PySem.W.typeIn K (.ref S) = some (.type "type")) (h4 : PySem.W.subIn K (.ref R) (.ref S) = some b) :
    PySem.W.exmOne K (.ref R) (.ref S) = some b := by
  have z2 : ((PySem.W.clsIn K S).isSome && PySem.W.typeIn K (.ref S) == some (.type "type")) = true := by
    have y : (PySem.W.clsIn K S).isSome = true := h2
    rw [y, h3] <;> rfl
  have z1 : (PySem.W.subIn K (.ref S) (.type "BaseException") == some true) = true := by rw [h1] <;> rfl
  unfold PySem.W.exmOne
  rw [if_pos z1]
  unfold PySem.W.kitCls
  exact (if_pos z2).trans h4
theorem kit_mk {K : PySem.W.Frag} {R S : Addr} {b : Bool} (h2 : PySem.W.isClsIn K S = true) (h3 : PySem.W.typeIn K (.ref S) = some (.type "type")) (h5 : PySem.W.subIn K (.ref S) (.ref S) = some true) (h4 : PySem.W.subIn K (.ref R) (.ref S) = some b) :
    PySem.W.kitOne K (.ref R) (.ref S) = some b := by
  have z2 : ((PySem.W.clsIn K S).isSome && PySem.W.typeIn K (.ref S) == some (.type "type")) = true := by
    have y : (PySem.W.clsIn K S).isSome = true := h2
    rw [y, h3] <;> rfl
  unfold PySem.W.kitOne
  by_cases e : R = S
  · rw [if_pos (by rw [e]; exact beq_self_eq_true _)]
    rw [e, h5] at h4
    exact h4
  · rw [if_neg fun z => e (Value.ref.inj (beq_iff_eq.mp z))]
    unfold PySem.W.kitCls
    exact (if_pos z2).trans h4
theorem txt_mk {K : PySem.W.Frag} {h : Heap} {mg : Str → Option Value} (X : K.In h) (G : h.Ns mainGlobals mg)
    {A_BlameError : Addr}
    {A_BadText : Addr}
    {A_BadInterface : Addr}
    {A_Interface : Addr}
    (n_BlameError : PySem.W.nsIn K mainGlobals "BlameError" = some (some (.ref A_BlameError)))
    (ex_BlameError : PySem.W.subIn K (.ref A_BlameError) (.type "BaseException") = some true)
    (ty_BlameError : PySem.W.typeIn K (.ref A_BlameError) = some (.type "type"))
    (ic_BlameError : PySem.W.isClsIn K A_BlameError = true)
    (ss_BlameError : PySem.W.subIn K (.ref A_BlameError) (.ref A_BlameError) = some true)
    (ga_BlameError : PySem.W.specialIn K (.ref A_BlameError) "__getattribute__" = some (some (.builtin "type.__getattribute__")))
    (rd_BlameError : PySem.W.readsIn K A_BlameError (.type "type") = true)
    (it_BlameError : PySem.W.findCls K (.ref A_BlameError) (.type "type") "__init__" = some (.val (.builtin "ValueError.__init__")))
    (n_BadText : PySem.W.nsIn K mainGlobals "BadText" = some (some (.ref A_BadText)))
    (ex_BadText : PySem.W.subIn K (.ref A_BadText) (.type "BaseException") = some true)
    (ty_BadText : PySem.W.typeIn K (.ref A_BadText) = some (.type "type"))
    (ic_BadText : PySem.W.isClsIn K A_BadText = true)
    (ss_BadText : PySem.W.subIn K (.ref A_BadText) (.ref A_BadText) = some true)
    {nm_BadText qn_BadText : Str} {N_BadText : Addr} {bs_BadText : List Value} {sn_BadText : List Str} {sub_BadText : List Value} {ab_BadText : Bool} {col_BadText : Option Bool} {dd_BadText : Option Addr} {m0_BadText m1_BadText m2_BadText m3_BadText m5_BadText : Option Value}
    (xl_BadText : K.lookup A_BadText = some (excClassObj nm_BadText qn_BadText A_BadText N_BadText bs_BadText [.ref A_BlameError, .type "ValueError", .type "Exception", .type "BaseException", .type "object"] true sn_BadText sub_BadText ab_BadText col_BadText dd_BadText m0_BadText m1_BadText m2_BadText m3_BadText m5_BadText "ValueError.__new__"))
    (sa_BadText : PySem.W.findIn K (.ref A_BadText) "__setattr__" = some (some (.builtin "object.__setattr__")))
    (kc_BadText : PySem.W.keepIn K (.ref A_BadText) = true)
    (ga_BadText : PySem.W.findIn K (.ref A_BadText) "__getattribute__" = some (some (.builtin "BaseException.__getattribute__")))
    (gg_BadText : PySem.W.findIn K (.ref A_BadText) "__getattr__" = some none)
    (hd_BadText : PySem.W.hasDictIn K A_BadText = true)
    (cc_BadText : PySem.W.findIn K (.ref A_BadText) "__class__" = some (some (.builtin "object.__class__")))
    (sp_BadText : PySem.W.specialIn K (.builtin "object.__class__") "__get__" = some (some (.builtin "getset_descriptor.__get__")))
    (tk_BadText : PySem.W.takesIn K (.builtin "object.__class__") = some true)
    (mo_BadText : PySem.W.mroIn K A_BadText (.type "object") = some true)
    {fBadText_init : Addr} {odBadText_init anBadText_init : Option Addr} {slBadText_init : Array (Option Value)} {ocBadText_init kVBadText_init dcBadText_init pmBadText_init cdBadText_init ctBadText_init : Value}
    (aBadText_init : PySem.W.findIn K (.ref A_BadText) "__init__" = some (some (.ref fBadText_init)))
    (iBadText_init : PySem.W.isFn K (.ref fBadText_init) = true)
    (lBadText_init : K.lookup fBadText_init = some ⟨ocBadText_init, odBadText_init, .func (PySem.W.fnOf "__init__" "BadText.__init__" (defArgs s_BadText_init) (defBody s_BadText_init) (defScope s_BadText_init) .none kVBadText_init dcBadText_init pmBadText_init anBadText_init cdBadText_init ctBadText_init), slBadText_init⟩)
    (cBadText_init : PySem.W.codeIn K cdBadText_init "BadText.__init__" = true)
    (kBadText_init : PySem.W.keepIn K (.ref fBadText_init) = true)
    (x_BadText_at : PySem.W.findIn K (.ref A_BadText) "at" = some none)
    (n_BadInterface : PySem.W.nsIn K mainGlobals "BadInterface" = some (some (.ref A_BadInterface)))
    (ex_BadInterface : PySem.W.subIn K (.ref A_BadInterface) (.type "BaseException") = some true)
    (ty_BadInterface : PySem.W.typeIn K (.ref A_BadInterface) = some (.type "type"))
    (ic_BadInterface : PySem.W.isClsIn K A_BadInterface = true)
    (ss_BadInterface : PySem.W.subIn K (.ref A_BadInterface) (.ref A_BadInterface) = some true)
    {nm_BadInterface qn_BadInterface : Str} {N_BadInterface : Addr} {bs_BadInterface : List Value} {sn_BadInterface : List Str} {sub_BadInterface : List Value} {ab_BadInterface : Bool} {col_BadInterface : Option Bool} {dd_BadInterface : Option Addr} {m0_BadInterface m1_BadInterface m2_BadInterface m3_BadInterface m5_BadInterface : Option Value}
    (xl_BadInterface : K.lookup A_BadInterface = some (excClassObj nm_BadInterface qn_BadInterface A_BadInterface N_BadInterface bs_BadInterface [.ref A_BlameError, .type "ValueError", .type "Exception", .type "BaseException", .type "object"] true sn_BadInterface sub_BadInterface ab_BadInterface col_BadInterface dd_BadInterface m0_BadInterface m1_BadInterface m2_BadInterface m3_BadInterface m5_BadInterface "ValueError.__new__"))
    (sa_BadInterface : PySem.W.findIn K (.ref A_BadInterface) "__setattr__" = some (some (.builtin "object.__setattr__")))
    (kc_BadInterface : PySem.W.keepIn K (.ref A_BadInterface) = true)
    (ga_BadInterface : PySem.W.findIn K (.ref A_BadInterface) "__getattribute__" = some (some (.builtin "BaseException.__getattribute__")))
    (gg_BadInterface : PySem.W.findIn K (.ref A_BadInterface) "__getattr__" = some none)
    (hd_BadInterface : PySem.W.hasDictIn K A_BadInterface = true)
    (cc_BadInterface : PySem.W.findIn K (.ref A_BadInterface) "__class__" = some (some (.builtin "object.__class__")))
    (sp_BadInterface : PySem.W.specialIn K (.builtin "object.__class__") "__get__" = some (some (.builtin "getset_descriptor.__get__")))
    (tk_BadInterface : PySem.W.takesIn K (.builtin "object.__class__") = some true)
    (mo_BadInterface : PySem.W.mroIn K A_BadInterface (.type "object") = some true)
    {fBadInterface_init : Addr} {odBadInterface_init anBadInterface_init : Option Addr} {slBadInterface_init : Array (Option Value)} {ocBadInterface_init kVBadInterface_init dcBadInterface_init pmBadInterface_init cdBadInterface_init ctBadInterface_init : Value}
    (aBadInterface_init : PySem.W.findIn K (.ref A_BadInterface) "__init__" = some (some (.ref fBadInterface_init)))
    (iBadInterface_init : PySem.W.isFn K (.ref fBadInterface_init) = true)
    (lBadInterface_init : K.lookup fBadInterface_init = some ⟨ocBadInterface_init, odBadInterface_init, .func (PySem.W.fnOf "__init__" "BadInterface.__init__" (defArgs s_BadInterface_init) (defBody s_BadInterface_init) (defScope s_BadInterface_init) .none kVBadInterface_init dcBadInterface_init pmBadInterface_init anBadInterface_init cdBadInterface_init ctBadInterface_init), slBadInterface_init⟩)
    (cBadInterface_init : PySem.W.codeIn K cdBadInterface_init "BadInterface.__init__" = true)
    (kBadInterface_init : PySem.W.keepIn K (.ref fBadInterface_init) = true)
    (x_BadInterface_at : PySem.W.findIn K (.ref A_BadInterface) "at" = some none)
    (n_Interface : PySem.W.nsIn K mainGlobals "Interface" = some (some (.ref A_Interface)))
    (pg_Interface : PySem.W.plainGet K A_Interface Str.empty = true)
    (hd_Interface : PySem.W.hasDictIn K A_Interface = true)
    (po_Interface : PySem.W.plainOver K A_Interface = true)
    (sa_Interface : PySem.W.findIn K (.ref A_Interface) "__setattr__" = some (some (.builtin "object.__setattr__")))
    (mk_Interface : PySem.W.makesIn K A_Interface = true)
    (kc_Interface : PySem.W.keepIn K (.ref A_Interface) = true)
    (cc_Interface : PySem.W.findIn K (.ref A_Interface) "__class__" = some (some (.builtin "object.__class__")))
    (sp_Interface : PySem.W.specialIn K (.builtin "object.__class__") "__get__" = some (some (.builtin "getset_descriptor.__get__")))
    (tk_Interface : PySem.W.takesIn K (.builtin "object.__class__") = some true)
    (mo_Interface : PySem.W.mroIn K A_Interface (.type "object") = some true)
    {fInterface_init : Addr} {odInterface_init anInterface_init : Option Addr} {slInterface_init : Array (Option Value)} {ocInterface_init kVInterface_init dcInterface_init pmInterface_init cdInterface_init ctInterface_init : Value}
    (aInterface_init : PySem.W.findIn K (.ref A_Interface) "__init__" = some (some (.ref fInterface_init)))
    (iInterface_init : PySem.W.isFn K (.ref fInterface_init) = true)
    (lInterface_init : K.lookup fInterface_init = some ⟨ocInterface_init, odInterface_init, .func (PySem.W.fnOf "__init__" "Interface.__init__" (defArgs s_Interface_init) (defBody s_Interface_init) (defScope s_Interface_init) .none kVInterface_init dcInterface_init pmInterface_init anInterface_init cdInterface_init ctInterface_init), slInterface_init⟩)
    (cInterface_init : PySem.W.codeIn K cdInterface_init "Interface.__init__" = true)
    (kInterface_init : PySem.W.keepIn K (.ref fInterface_init) = true)
    {fInterface_eq : Addr} {odInterface_eq anInterface_eq : Option Addr} {slInterface_eq : Array (Option Value)} {ocInterface_eq kVInterface_eq dcInterface_eq pmInterface_eq cdInterface_eq ctInterface_eq : Value}
    (aInterface_eq : PySem.W.findIn K (.ref A_Interface) "__eq__" = some (some (.ref fInterface_eq)))
    (iInterface_eq : PySem.W.isFn K (.ref fInterface_eq) = true)
    (lInterface_eq : K.lookup fInterface_eq = some ⟨ocInterface_eq, odInterface_eq, .func (PySem.W.fnOf "__eq__" "Interface.__eq__" (defArgs s_Interface_eq) (defBody s_Interface_eq) (defScope s_Interface_eq) .none kVInterface_eq dcInterface_eq pmInterface_eq anInterface_eq cdInterface_eq ctInterface_eq), slInterface_eq⟩)
    (cInterface_eq : PySem.W.codeIn K cdInterface_eq "Interface.__eq__" = true)
    (kInterface_eq : PySem.W.keepIn K (.ref fInterface_eq) = true)
    {fInterface_size : Addr} {odInterface_size anInterface_size : Option Addr} {slInterface_size : Array (Option Value)} {ocInterface_size kVInterface_size dcInterface_size pmInterface_size cdInterface_size ctInterface_size : Value}
    (aInterface_size : PySem.W.findIn K (.ref A_Interface) "size" = some (some (.ref fInterface_size)))
    (iInterface_size : PySem.W.isFn K (.ref fInterface_size) = true)
    (lInterface_size : K.lookup fInterface_size = some ⟨ocInterface_size, odInterface_size, .func (PySem.W.fnOf "size" "Interface.size" (defArgs s_Interface_size) (defBody s_Interface_size) (defScope s_Interface_size) .none kVInterface_size dcInterface_size pmInterface_size anInterface_size cdInterface_size ctInterface_size), slInterface_size⟩)
    (cInterface_size : PySem.W.codeIn K cdInterface_size "Interface.size" = true)
    (kInterface_size : PySem.W.keepIn K (.ref fInterface_size) = true)
    (x_Interface_exports : PySem.W.findIn K (.ref A_Interface) "exports" = some none)
    (x_Interface_imports : PySem.W.findIn K (.ref A_Interface) "imports" = some none)
    (s_BadText_BlameError : PySem.W.subIn K (.ref A_BadText) (.ref A_BlameError) = some true)
    (s_BadText_BadInterface : PySem.W.subIn K (.ref A_BadText) (.ref A_BadInterface) = some false)
    (s_BadInterface_BlameError : PySem.W.subIn K (.ref A_BadInterface) (.ref A_BlameError) = some true)
    (s_BadInterface_BadText : PySem.W.subIn K (.ref A_BadInterface) (.ref A_BadText) = some false) : Txt K mg ⟨A_BlameError, A_BadText, A_BadInterface, A_Interface⟩ :=
  ⟨PySem.W.mg_of X G n_BlameError,
   ⟨ga_BlameError, rd_BlameError, it_BlameError⟩,
   PySem.W.mg_of X G n_BadText,
   ⟨⟨⟨_, _, _, _, _, _, _, _, _, _, _, _, _, _, _, xl_BadText, by first | rfl | simp [PySem.HandSPX.refsVE]⟩, sa_BadText, ex_BadText, ty_BadText, kc_BadText⟩, ga_BadText, gg_BadText, hd_BadText, cc_BadText, sp_BadText, tk_BadText, mo_BadText⟩,
   ⟨fBadText_init, _, aBadText_init, iBadText_init, fun_mk (st := s_BadText_init) lBadText_init cBadText_init kBadText_init⟩,
   x_BadText_at,
   PySem.W.mg_of X G n_BadInterface,
   ⟨⟨⟨_, _, _, _, _, _, _, _, _, _, _, _, _, _, _, xl_BadInterface, by first | rfl | simp [PySem.HandSPX.refsVE]⟩, sa_BadInterface, ex_BadInterface, ty_BadInterface, kc_BadInterface⟩, ga_BadInterface, gg_BadInterface, hd_BadInterface, cc_BadInterface, sp_BadInterface, tk_BadInterface, mo_BadInterface⟩,
   ⟨fBadInterface_init, _, aBadInterface_init, iBadInterface_init, fun_mk (st := s_BadInterface_init) lBadInterface_init cBadInterface_init kBadInterface_init⟩,
   x_BadInterface_at,
   PySem.W.mg_of X G n_Interface,
   ⟨⟨pg_Interface, hd_Interface, po_Interface, sa_Interface⟩, mk_Interface, kc_Interface, cc_Interface, sp_Interface, tk_Interface, mo_Interface⟩,
   ⟨fInterface_init, _, aInterface_init, iInterface_init, fun_mk (st := s_Interface_init) lInterface_init cInterface_init kInterface_init⟩,
   ⟨fInterface_eq, _, aInterface_eq, iInterface_eq, fun_mk (st := s_Interface_eq) lInterface_eq cInterface_eq kInterface_eq⟩,
   ⟨fInterface_size, _, aInterface_size, iInterface_size, fun_mk (st := s_Interface_size) lInterface_size cInterface_size kInterface_size⟩,
   x_Interface_exports,
   x_Interface_imports,
   exm_mk ex_BlameError ic_BlameError ty_BlameError s_BadText_BlameError,
   kit_mk ic_BadInterface ty_BadInterface ss_BadInterface s_BadText_BadInterface,
   if_pos (beq_self_eq_true _),
   exm_mk ex_BlameError ic_BlameError ty_BlameError s_BadInterface_BlameError,
   if_pos (beq_self_eq_true _),
   kit_mk ic_BadText ty_BadText ss_BadText s_BadInterface_BadText⟩
theorem top_mk {K : PySem.W.Frag} {h : Heap} {mg : Str → Option Value} (X : K.In h) (G : h.Ns mainGlobals mg)
    {f1 : Addr} {od1 an1 : Option Addr} {sl1 : Array (Option Value)} {oc1 kV1 dc1 pm1 cd1 ct1 : Value}
    (a1 : PySem.W.nsIn K mainGlobals "pairs_of" = some (some (.ref f1))) (l1 : K.lookup f1 = some ⟨oc1, od1, .func (PySem.W.fnOf "pairs_of" "pairs_of" (defArgs s_pairs_of) (defBody s_pairs_of) (defScope s_pairs_of) .none kV1 dc1 pm1 an1 cd1 ct1), sl1⟩) (c1 : PySem.W.codeIn K cd1 "pairs_of" = true) (k1 : PySem.W.keepIn K (.ref f1) = true)
    {f2 : Addr} {od2 an2 : Option Addr} {sl2 : Array (Option Value)} {oc2 kV2 dc2 pm2 cd2 ct2 : Value}
    (a2 : PySem.W.nsIn K mainGlobals "first_fault" = some (some (.ref f2))) (l2 : K.lookup f2 = some ⟨oc2, od2, .func (PySem.W.fnOf "first_fault" "first_fault" (defArgs s_first_fault) (defBody s_first_fault) (defScope s_first_fault) .none kV2 dc2 pm2 an2 cd2 ct2), sl2⟩) (c2 : PySem.W.codeIn K cd2 "first_fault" = true) (k2 : PySem.W.keepIn K (.ref f2) = true)
    {f3 : Addr} {od3 an3 : Option Addr} {sl3 : Array (Option Value)} {oc3 kV3 dc3 pm3 cd3 ct3 : Value}
    (a3 : PySem.W.nsIn K mainGlobals "imports_fit" = some (some (.ref f3))) (l3 : K.lookup f3 = some ⟨oc3, od3, .func (PySem.W.fnOf "imports_fit" "imports_fit" (defArgs s_imports_fit) (defBody s_imports_fit) (defScope s_imports_fit) .none kV3 dc3 pm3 an3 cd3 ct3), sl3⟩) (c3 : PySem.W.codeIn K cd3 "imports_fit" = true) (k3 : PySem.W.keepIn K (.ref f3) = true)
    {f4 : Addr} {od4 an4 : Option Addr} {sl4 : Array (Option Value)} {oc4 kV4 dc4 pm4 cd4 ct4 : Value}
    (a4 : PySem.W.nsIn K mainGlobals "import_fits" = some (some (.ref f4))) (l4 : K.lookup f4 = some ⟨oc4, od4, .func (PySem.W.fnOf "import_fits" "import_fits" (defArgs s_import_fits) (defBody s_import_fits) (defScope s_import_fits) .none kV4 dc4 pm4 an4 cd4 ct4), sl4⟩) (c4 : PySem.W.codeIn K cd4 "import_fits" = true) (k4 : PySem.W.keepIn K (.ref f4) = true)
    {f5 : Addr} {od5 an5 : Option Addr} {sl5 : Array (Option Value)} {oc5 kV5 dc5 pm5 cd5 ct5 : Value}
    (a5 : PySem.W.nsIn K mainGlobals "_law_pool" = some (some (.ref f5))) (l5 : K.lookup f5 = some ⟨oc5, od5, .func (PySem.W.fnOf "_law_pool" "_law_pool" (defArgs s_l_pool) (defBody s_l_pool) (defScope s_l_pool) .none kV5 dc5 pm5 an5 cd5 ct5), sl5⟩) (c5 : PySem.W.codeIn K cd5 "_law_pool" = true) (k5 : PySem.W.keepIn K (.ref f5) = true)
    {f6 : Addr} {od6 an6 : Option Addr} {sl6 : Array (Option Value)} {oc6 kV6 dc6 pm6 cd6 ct6 : Value}
    (a6 : PySem.W.nsIn K mainGlobals "_law_draw" = some (some (.ref f6))) (l6 : K.lookup f6 = some ⟨oc6, od6, .func (PySem.W.fnOf "_law_draw" "_law_draw" (defArgs s_l_draw) (defBody s_l_draw) (defScope s_l_draw) .none kV6 dc6 pm6 an6 cd6 ct6), sl6⟩) (c6 : PySem.W.codeIn K cd6 "_law_draw" = true) (k6 : PySem.W.keepIn K (.ref f6) = true)
    {f7 : Addr} {od7 an7 : Option Addr} {sl7 : Array (Option Value)} {oc7 kV7 dc7 pm7 cd7 ct7 : Value}
    (a7 : PySem.W.nsIn K mainGlobals "_law_same" = some (some (.ref f7))) (l7 : K.lookup f7 = some ⟨oc7, od7, .func (PySem.W.fnOf "_law_same" "_law_same" (defArgs s_l_same) (defBody s_l_same) (defScope s_l_same) .none kV7 dc7 pm7 an7 cd7 ct7), sl7⟩) (c7 : PySem.W.codeIn K cd7 "_law_same" = true) (k7 : PySem.W.keepIn K (.ref f7) = true)
    {f8 : Addr} {od8 an8 : Option Addr} {sl8 : Array (Option Value)} {oc8 kV8 dc8 pm8 cd8 ct8 : Value}
    (a8 : PySem.W.nsIn K mainGlobals "_law_rows" = some (some (.ref f8))) (l8 : K.lookup f8 = some ⟨oc8, od8, .func (PySem.W.fnOf "_law_rows" "_law_rows" (defArgs s_l_rows) (defBody s_l_rows) (defScope s_l_rows) .none kV8 dc8 pm8 an8 cd8 ct8), sl8⟩) (c8 : PySem.W.codeIn K cd8 "_law_rows" = true) (k8 : PySem.W.keepIn K (.ref f8) = true)
    {f9 : Addr} {od9 an9 : Option Addr} {sl9 : Array (Option Value)} {oc9 kV9 dc9 pm9 cd9 ct9 : Value}
    (a9 : PySem.W.nsIn K mainGlobals "_law_fits" = some (some (.ref f9))) (l9 : K.lookup f9 = some ⟨oc9, od9, .func (PySem.W.fnOf "_law_fits" "_law_fits" (defArgs s_l_fits) (defBody s_l_fits) (defScope s_l_fits) .none kV9 dc9 pm9 an9 cd9 ct9), sl9⟩) (c9 : PySem.W.codeIn K cd9 "_law_fits" = true) (k9 : PySem.W.keepIn K (.ref f9) = true)
    {f10 : Addr} {od10 an10 : Option Addr} {sl10 : Array (Option Value)} {oc10 kV10 dc10 pm10 cd10 ct10 : Value}
    (a10 : PySem.W.nsIn K mainGlobals "_law_bad" = some (some (.ref f10))) (l10 : K.lookup f10 = some ⟨oc10, od10, .func (PySem.W.fnOf "_law_bad" "_law_bad" (defArgs s_l_bad) (defBody s_l_bad) (defScope s_l_bad) .none kV10 dc10 pm10 an10 cd10 ct10), sl10⟩) (c10 : PySem.W.codeIn K cd10 "_law_bad" = true) (k10 : PySem.W.keepIn K (.ref f10) = true)
    {f11 : Addr} {od11 an11 : Option Addr} {sl11 : Array (Option Value)} {oc11 kV11 dc11 pm11 cd11 ct11 : Value}
    (a11 : PySem.W.nsIn K mainGlobals "_law_drawn_rows" = some (some (.ref f11))) (l11 : K.lookup f11 = some ⟨oc11, od11, .func (PySem.W.fnOf "_law_drawn_rows" "_law_drawn_rows" (defArgs s_l_drawn_rows) (defBody s_l_drawn_rows) (defScope s_l_drawn_rows) .none kV11 dc11 pm11 an11 cd11 ct11), sl11⟩) (c11 : PySem.W.codeIn K cd11 "_law_drawn_rows" = true) (k11 : PySem.W.keepIn K (.ref f11) = true)
    {f12 : Addr} {od12 an12 : Option Addr} {sl12 : Array (Option Value)} {oc12 kV12 dc12 pm12 cd12 ct12 : Value}
    (a12 : PySem.W.nsIn K mainGlobals "_law_unlike" = some (some (.ref f12))) (l12 : K.lookup f12 = some ⟨oc12, od12, .func (PySem.W.fnOf "_law_unlike" "_law_unlike" (defArgs s_l_unlike) (defBody s_l_unlike) (defScope s_l_unlike) .none kV12 dc12 pm12 an12 cd12 ct12), sl12⟩) (c12 : PySem.W.codeIn K cd12 "_law_unlike" = true) (k12 : PySem.W.keepIn K (.ref f12) = true)
    {f13 : Addr} {od13 an13 : Option Addr} {sl13 : Array (Option Value)} {oc13 kV13 dc13 pm13 cd13 ct13 : Value}
    (a13 : PySem.W.nsIn K mainGlobals "law" = some (some (.ref f13))) (l13 : K.lookup f13 = some ⟨oc13, od13, .func (PySem.W.fnOf "law" "law" (defArgs s_law) (defBody s_law) (defScope s_law) .none kV13 dc13 pm13 an13 cd13 ct13), sl13⟩) (c13 : PySem.W.codeIn K cd13 "law" = true) (k13 : PySem.W.keepIn K (.ref f13) = true)
    {t_MOST_COMPONENTS : Tok} (c_MOST_COMPONENTS : PySem.W.nsIn K mainGlobals "MOST_COMPONENTS" = some (some (.int 8 t_MOST_COMPONENTS)))
    {t_MOST_EXPORTS : Tok} (c_MOST_EXPORTS : PySem.W.nsIn K mainGlobals "MOST_EXPORTS" = some (some (.int 8 t_MOST_EXPORTS)))
    {t_MOST_IMPORTS : Tok} (c_MOST_IMPORTS : PySem.W.nsIn K mainGlobals "MOST_IMPORTS" = some (some (.int 8 t_MOST_IMPORTS)))
    (b_all : PySem.W.nsIn K mainGlobals "all" = some none)
    (b_bool : PySem.W.nsIn K mainGlobals "bool" = some none)
    (b_int : PySem.W.nsIn K mainGlobals "int" = some none)
    (b_isinstance : PySem.W.nsIn K mainGlobals "isinstance" = some none)
    (b_len : PySem.W.nsIn K mainGlobals "len" = some none)
    (b_list : PySem.W.nsIn K mainGlobals "list" = some none)
    (b_range : PySem.W.nsIn K mainGlobals "range" = some none)
    (b_set : PySem.W.nsIn K mainGlobals "set" = some none)
    (b_str : PySem.W.nsIn K mainGlobals "str" = some none)
    (b_tuple : PySem.W.nsIn K mainGlobals "tuple" = some none) : Top K mg :=
  ⟨⟨f1, _, PySem.W.mg_of X G a1, fun_mk (st := s_pairs_of) l1 c1 k1⟩,
   ⟨f2, _, PySem.W.mg_of X G a2, fun_mk (st := s_first_fault) l2 c2 k2⟩,
   ⟨f3, _, PySem.W.mg_of X G a3, fun_mk (st := s_imports_fit) l3 c3 k3⟩,
   ⟨f4, _, PySem.W.mg_of X G a4, fun_mk (st := s_import_fits) l4 c4 k4⟩,
   ⟨f5, _, PySem.W.mg_of X G a5, fun_mk (st := s_l_pool) l5 c5 k5⟩,
   ⟨f6, _, PySem.W.mg_of X G a6, fun_mk (st := s_l_draw) l6 c6 k6⟩,
   ⟨f7, _, PySem.W.mg_of X G a7, fun_mk (st := s_l_same) l7 c7 k7⟩,
   ⟨f8, _, PySem.W.mg_of X G a8, fun_mk (st := s_l_rows) l8 c8 k8⟩,
   ⟨f9, _, PySem.W.mg_of X G a9, fun_mk (st := s_l_fits) l9 c9 k9⟩,
   ⟨f10, _, PySem.W.mg_of X G a10, fun_mk (st := s_l_bad) l10 c10 k10⟩,
   ⟨f11, _, PySem.W.mg_of X G a11, fun_mk (st := s_l_drawn_rows) l11 c11 k11⟩,
   ⟨f12, _, PySem.W.mg_of X G a12, fun_mk (st := s_l_unlike) l12 c12 k12⟩,
   ⟨f13, _, PySem.W.mg_of X G a13, fun_mk (st := s_law) l13 c13 k13⟩,
   ⟨_, PySem.W.mg_of X G c_MOST_COMPONENTS⟩,
   ⟨_, PySem.W.mg_of X G c_MOST_EXPORTS⟩,
   ⟨_, PySem.W.mg_of X G c_MOST_IMPORTS⟩,
   PySem.W.mg_none_of X G b_all,
   PySem.W.mg_none_of X G b_bool,
   PySem.W.mg_none_of X G b_int,
   PySem.W.mg_none_of X G b_isinstance,
   PySem.W.mg_none_of X G b_len,
   PySem.W.mg_none_of X G b_list,
   PySem.W.mg_none_of X G b_range,
   PySem.W.mg_none_of X G b_set,
   PySem.W.mg_none_of X G b_str,
   PySem.W.mg_none_of X G b_tuple⟩
theorem walk {l : PySem.W.OpenLaw} {q : Program} {loose : List Str} {XP : (Str → Option Value) → Heap → Prop} {YP : World → Heap → Prop} {d : DefRec} {K : Params → PySem.W.Frag} (hn : l.most = some 63) (hdf : d.params.defaults = []) (hd : d.name = "law")
    (hY : ∀ (w : World) (h : Heap), YP w h → (K w.params).In h)
    (F : ∀ (w : World) (mg : Str → Option Value) (h : Heap), (K w.params).In h → h.Ns mainGlobals mg → Top (K w.params) mg ∧ ∃ C, Txt (K w.params) mg C) :
    PySem.W.WalkO q loose XP YP l.row.toRowW d [] (fun f vs => PySem.call f vs) :=
  L2.walk_of (n := 63) (k := 7) (x := "script") (CX := fun _ => CX0) (sp := fun w => sp_law (K w.params)) hn (by decide) hdf ⟨rfl, by decide, by decide⟩ hY
    (fun w mg fa h KX G hfa => by
      obtain ⟨T, C, Z⟩ := F w mg h KX G
      obtain ⟨f, fd, m, Fn⟩ := T.f_law
      have e : fa = f := by
        rw [hd, m] at hfa
        injection hfa with e
        injection e with e
        exact e.symm
      subst e
      refine ⟨fd, fun s v => ?_, fun base _ _ => (ok_law (P := l.prog) (w := w) (base := base) T Z).at_ m Fn⟩
      obtain ⟨oc, od, kV, doc, pm, an, cdv, ct, osl, rfl, _, _⟩ := Fn.ex
      exact .of_eq rfl)
    (fun _ _ a ns hl _ hS => ⟨a, ns, rfl, hS, hl, fun _ => rfl⟩) fun _ _ _ _ _ z => z

end L
open PySem PySem.W PyProof.Rows in
set_option maxRecDepth 100000 in
set_option maxHeartbeats 0 in
theorem PySem.Challenge.cw_blameless_k02_interfaces_holds : PySem.Challenge.rw_blameless_k02_interfaces.Holds := by
  w_on; o_law; k_head; (case hw => w_witness2)
  k_fill
  refine L.walk (l := PySem.Challenge.rw_blameless_k02_interfaces) rfl rfl rfl (fun w h Y => PySem.W.kIn_of Y) ?F
  case F =>
    intro w mg h KX G
    refine' And.intro (L.top_mk KX G ?a1 ?l1 ?c1 ?k1 ?a2 ?l2 ?c2 ?k2 ?a3 ?l3 ?c3 ?k3 ?a4 ?l4 ?c4 ?k4 ?a5 ?l5 ?c5 ?k5 ?a6 ?l6 ?c6 ?k6 ?a7 ?l7 ?c7 ?k7 ?a8 ?l8 ?c8 ?k8 ?a9 ?l9 ?c9 ?k9 ?a10 ?l10 ?c10 ?k10 ?a11 ?l11 ?c11 ?k11 ?a12 ?l12 ?c12 ?k12 ?a13 ?l13 ?c13 ?k13 ?c_MOST_COMPONENTS ?c_MOST_EXPORTS ?c_MOST_IMPORTS ?b_all ?b_bool ?b_int ?b_isinstance ?b_len ?b_list ?b_range ?b_set ?b_str ?b_tuple) (Exists.intro _ (L.txt_mk KX G ?tn_BlameError ?tex_BlameError ?tty_BlameError ?tic_BlameError ?tss_BlameError ?tga_BlameError ?trd_BlameError ?tit_BlameError ?tn_BadText ?tex_BadText ?tty_BadText ?tic_BadText ?tss_BadText ?txl_BadText ?tsa_BadText ?tkc_BadText ?tga_BadText ?tgg_BadText ?thd_BadText ?tcc_BadText ?tsp_BadText ?ttk_BadText ?tmo_BadText ?taBadText_init ?tiBadText_init ?tlBadText_init ?tcBadText_init ?tkBadText_init ?tx_BadText_at ?tn_BadInterface ?tex_BadInterface ?tty_BadInterface ?tic_BadInterface ?tss_BadInterface ?txl_BadInterface ?tsa_BadInterface ?tkc_BadInterface ?tga_BadInterface ?tgg_BadInterface ?thd_BadInterface ?tcc_BadInterface ?tsp_BadInterface ?ttk_BadInterface ?tmo_BadInterface ?taBadInterface_init ?tiBadInterface_init ?tlBadInterface_init ?tcBadInterface_init ?tkBadInterface_init ?tx_BadInterface_at ?tn_Interface ?tpg_Interface ?thd_Interface ?tpo_Interface ?tsa_Interface ?tmk_Interface ?tkc_Interface ?tcc_Interface ?tsp_Interface ?ttk_Interface ?tmo_Interface ?taInterface_init ?tiInterface_init ?tlInterface_init ?tcInterface_init ?tkInterface_init ?taInterface_eq ?tiInterface_eq ?tlInterface_eq ?tcInterface_eq ?tkInterface_eq ?taInterface_size ?tiInterface_size ?tlInterface_size ?tcInterface_size ?tkInterface_size ?tx_Interface_exports ?tx_Interface_imports ?ts_BadText_BlameError ?ts_BadText_BadInterface ?ts_BadInterface_BlameError ?ts_BadInterface_BadText))
    (case a1 => k_is)
    (case l1 => k_is)
    (case c1 => k_is)
    (case k1 => k_is)
    (case a2 => k_is)
    (case l2 => k_is)
    (case c2 => k_is)
    (case k2 => k_is)
    (case a3 => k_is)
    (case l3 => k_is)
    (case c3 => k_is)
    (case k3 => k_is)
    (case a4 => k_is)
    (case l4 => k_is)
    (case c4 => k_is)
    (case k4 => k_is)
    (case a5 => k_is)
    (case l5 => k_is)
    (case c5 => k_is)
    (case k5 => k_is)
    (case a6 => k_is)
    (case l6 => k_is)
    (case c6 => k_is)
    (case k6 => k_is)
    (case a7 => k_is)
    (case l7 => k_is)
    (case c7 => k_is)
    (case k7 => k_is)
    (case a8 => k_is)
    (case l8 => k_is)
    (case c8 => k_is)
    (case k8 => k_is)
    (case a9 => k_is)
    (case l9 => k_is)
    (case c9 => k_is)
    (case k9 => k_is)
    (case a10 => k_is)
    (case l10 => k_is)
    (case c10 => k_is)
    (case k10 => k_is)
    (case a11 => k_is)
    (case l11 => k_is)
    (case c11 => k_is)
    (case k11 => k_is)
    (case a12 => k_is)
    (case l12 => k_is)
    (case c12 => k_is)
    (case k12 => k_is)
    (case a13 => k_is)
    (case l13 => k_is)
    (case c13 => k_is)
    (case k13 => k_is)
    (case c_MOST_COMPONENTS => k_is)
    (case c_MOST_EXPORTS => k_is)
    (case c_MOST_IMPORTS => k_is)
    (case b_all => k_is)
    (case b_bool => k_is)
    (case b_int => k_is)
    (case b_isinstance => k_is)
    (case b_len => k_is)
    (case b_list => k_is)
    (case b_range => k_is)
    (case b_set => k_is)
    (case b_str => k_is)
    (case b_tuple => k_is)
    (case tn_BlameError => k_is)
    (case tex_BlameError => k_is)
    (case tty_BlameError => k_is)
    (case tic_BlameError => k_is)
    (case tss_BlameError => k_is)
    (case tga_BlameError => k_is)
    (case trd_BlameError => k_is)
    (case tit_BlameError => k_is)
    (case tn_BadText => k_is)
    (case tex_BadText => k_is)
    (case tty_BadText => k_is)
    (case tic_BadText => k_is)
    (case tss_BadText => k_is)
    (case txl_BadText => k_is)
    (case tsa_BadText => k_is)
    (case tkc_BadText => k_is)
    (case tga_BadText => k_is)
    (case tgg_BadText => k_is)
    (case thd_BadText => k_is)
    (case tcc_BadText => k_is)
    (case tsp_BadText => k_is)
    (case ttk_BadText => k_is)
    (case tmo_BadText => k_is)
    (case taBadText_init => k_is)
    (case tiBadText_init => k_is)
    (case tlBadText_init => k_is)
    (case tcBadText_init => k_is)
    (case tkBadText_init => k_is)
    (case tx_BadText_at => k_is)
    (case tn_BadInterface => k_is)
    (case tex_BadInterface => k_is)
    (case tty_BadInterface => k_is)
    (case tic_BadInterface => k_is)
    (case tss_BadInterface => k_is)
    (case txl_BadInterface => k_is)
    (case tsa_BadInterface => k_is)
    (case tkc_BadInterface => k_is)
    (case tga_BadInterface => k_is)
    (case tgg_BadInterface => k_is)
    (case thd_BadInterface => k_is)
    (case tcc_BadInterface => k_is)
    (case tsp_BadInterface => k_is)
    (case ttk_BadInterface => k_is)
    (case tmo_BadInterface => k_is)
    (case taBadInterface_init => k_is)
    (case tiBadInterface_init => k_is)
    (case tlBadInterface_init => k_is)
    (case tcBadInterface_init => k_is)
    (case tkBadInterface_init => k_is)
    (case tx_BadInterface_at => k_is)
    (case tn_Interface => k_is)
    (case tpg_Interface => k_is)
    (case thd_Interface => k_is)
    (case tpo_Interface => k_is)
    (case tsa_Interface => k_is)
    (case tmk_Interface => k_is)
    (case tkc_Interface => k_is)
    (case tcc_Interface => k_is)
    (case tsp_Interface => k_is)
    (case ttk_Interface => k_is)
    (case tmo_Interface => k_is)
    (case taInterface_init => k_is)
    (case tiInterface_init => k_is)
    (case tlInterface_init => k_is)
    (case tcInterface_init => k_is)
    (case tkInterface_init => k_is)
    (case taInterface_eq => k_is)
    (case tiInterface_eq => k_is)
    (case tlInterface_eq => k_is)
    (case tcInterface_eq => k_is)
    (case tkInterface_eq => k_is)
    (case taInterface_size => k_is)
    (case tiInterface_size => k_is)
    (case tlInterface_size => k_is)
    (case tcInterface_size => k_is)
    (case tkInterface_size => k_is)
    (case tx_Interface_exports => k_is)
    (case tx_Interface_imports => k_is)
    (case ts_BadText_BlameError => k_is)
    (case ts_BadText_BadInterface => k_is)
    (case ts_BadInterface_BlameError => k_is)
    (case ts_BadInterface_BadText => k_is)
