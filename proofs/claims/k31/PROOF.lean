import PyProof.Rows.All
import Wide.All
import OpenK.AllK
import Wide.FinOn
import HandS.ForMost
import HandS.IsInst
import HandS.TupAny
import HandS.Flow
import HandS.Walk
import HandS.Comp
import HandS.Exc
import HandS.TryOnly
import HandS.ExcOwn
import HandS.WordsExc
import HandS.ExcInit
import HandS.ExcIs
import HandS.ExcField
import HandS.HotCalls
import HandS.FStr
import HandS.TupSets
import HandS.SetFor
import HandS.Style
import HandS.OwnEq
import HandS.Deep
import HandS.ExcInitHot
import HandS.Zip
import HandS.NoneIn
import HandS.Star
import HandS.Small
import HandS.Zip0
import HandS.Iter
import PyProof.Draws
import HandS.Defaults
import HandS.MakeKwOnly
import HandS.CallSlots
import HandS.Strs
import HandS.SortKw
import KE.DataMinMax
import PySem.Challenge.RW_blameless_k31_codes_of_components
set_option Elab.async false
set_option linter.all false
set_option maxRecDepth 100000
set_option maxHeartbeats 4000000
/-! G: rules by kind of value, and the steps of a reading (own work). -/
namespace G
open PySem PySem.Spec PyProof.Rows L2

/-! ### operators by kind -/
section
variable {X : Cx}
def gAddS : R2 := fun x y H Q => ∃ i j, x = .str i ∧ y = .str j ∧ i.length + j.length ≤ sizeLine ∧ Q (.str (i ++ j)) H
def gAdd (K : PySem.W.Frag) : R2 := fun x y H Q => rI0 (fun i j => .int (i + j)) x y H Q ∨ gAddS x y H Q ∨ rCat x y H Q ∨ rCatA K x y H Q
theorem g_add {K : PySem.W.Frag} (hK : X.K = K := by rfl) : OpR X (binaryOp .Add) (gAdd K) := by subst hK; exact op_add.or (op_add_str.or (op_cat.or op_catA))
def gSubI : R2 := rI0 fun i j => .int (i - j)
theorem g_sub : OpR X (binaryOp .Sub) gSubI := op_sub
def gMul : R2 := rI CMul fun i j => .int (i * j)
theorem g_mul : OpR X (binaryOp .Mult) gMul := op_mul
def gDiv : R2 := rI CDiv fun i j => .int (i / j)
theorem g_div : OpR X (binaryOp .FloorDiv) gDiv := op_fdiv
def gMod : R2 := rI (fun _ j => 0 < j) fun i j => .int (i % j)
theorem g_mod : OpR X (binaryOp .Mod) gMod := op_mod
def gPow : R2 := rI CPow fun i j => .int (i ^ j.toNat)
theorem g_pow : OpR X (binaryOp .Pow) gPow := op_pow
def gLtS : R2 := fun x y H Q => ∃ i j, x = .str i ∧ y = .str j ∧ Q (.bl (decide (i.cps.toList < j.cps.toList))) H
def gLt : R2 := fun x y H Q => rI0 (fun i j => .bl (decide (i < j))) x y H Q ∨ gLtS x y H Q
theorem g_lt : OpR X (compareOp .Lt) gLt := op_lt.or op_lt_str
def gLeS : R2 := fun x y H Q => ∃ i j, x = .str i ∧ y = .str j ∧ Q (.bl (!decide (j.cps.toList < i.cps.toList))) H
def gLe : R2 := fun x y H Q => rI0 (fun i j => .bl (decide (i ≤ j))) x y H Q ∨ gLeS x y H Q
theorem g_le : OpR X (compareOp .LtE) gLe := op_le.or op_le_str
def gGt : R2 := rI0 fun i j => .bl (decide (j < i))
theorem g_gt : OpR X (compareOp .Gt) gGt := op_gt
def gGe : R2 := rI0 fun i j => .bl (decide (j ≤ i))
theorem g_ge : OpR X (compareOp .GtE) gGe := op_ge
theorem g_eq : OpR X (compareOp .Eq) rEq := op_eq
theorem g_ne : OpR X (compareOp .NotEq) rNe := op_ne
def gIs : R2 := fun x y H Q => y = .non ∧ Q (.bl (decide (x = .non))) H
theorem g_is : OpR X (compareOp .Is) gIs := op_isN
def gIsNot : R2 := fun x y H Q => y = .non ∧ Q (.bl (!decide (x = .non))) H
theorem g_isnot : OpR X (compareOp .IsNot) gIsNot := op_notN
def gInS : R2 := fun x y H Q => ∃ (c : Nat) (z : Str), x = .str ⟨#[c]⟩ ∧ y = .str z ∧ Q (.bl (decide (c ∈ z.cps.toList))) H
def gIn (K : PySem.W.Frag) : R2 := fun x y H Q => rIn K false x y H Q ∨ gInS x y H Q
theorem g_in {K : PySem.W.Frag} (hK : X.K = K := by rfl) : OpR X (compareOp .In) (gIn K) := by subst hK; exact op_in_seq.or op_in_sign
def gNotInS : R2 := fun x y H Q => ∃ (c : Nat) (z : Str), x = .str ⟨#[c]⟩ ∧ y = .str z ∧ Q (.bl (!decide (c ∈ z.cps.toList))) H
def gNotIn (K : PySem.W.Frag) : R2 := fun x y H Q => rIn K true x y H Q ∨ gNotInS x y H Q
theorem g_notin {K : PySem.W.Frag} (hK : X.K = K := by rfl) : OpR X (compareOp .NotIn) (gNotIn K) := by subst hK; exact op_notIn_seq.or op_notIn_sign
def gSl (K : PySem.W.Frag) : V → Option Int → Option Int → Hp → VK → Prop := fun x lo hi H Q => rSlL K x lo hi H Q ∨ rSlA K x lo hi H Q ∨ rSlS x lo hi H Q
theorem g_sl {K : PySem.W.Frag} (hK : X.K = K := by rfl) : SlR X (gSl K) := by subst hK; exact sl_list.or (sl_tupA.or sl_str)
theorem g_ix {K : PySem.W.Frag} (hK : X.K = K := by rfl) : IxR X (rIx K) := by subst hK; exact ix_seq
/-! calls -/
def gLen (K : PySem.W.Frag) : List V → Hp → VK → Prop := fun xs H Q => ∃ x n, xs = [x] ∧ LenV K x H n ∧ Q (.int (n : Nat)) H
theorem g_len {K : PySem.W.Frag} (hK : X.K = K := by rfl) : CallR X (.builtin "len") (gLen K) := by subst hK; exact call_len
def gIntN : List V → Hp → VK → Prop := fun xs H Q => (∃ i, xs = [.int i] ∧ Q (.int i) H) ∨ ∃ k, xs = [.bl k] ∧ Q (.int (if k then 1 else 0)) H
def gIntS : List V → Hp → VK → Prop := fun xs H Q => ∃ a n, xs = [.str a] ∧ PySem.intText? a = some n ∧ a.length ≤ 640 ∧ Q (.int n) H
def gInt : List V → Hp → VK → Prop := fun xs H Q => gIntN xs H Q ∨ gIntS xs H Q
theorem g_int : CallR X (.type "int") gInt := call_int1.or call_int_str
def gStr : List V → Hp → VK → Prop := fun xs H Q => ∃ i : Int, xs = [.int i] ∧ i.natAbs.log2 < 1920 ∧ Q (.str (toString i)) H
theorem g_str : CallR X (.type "str") gStr := call_str_int
def gMin : List V → Hp → VK → Prop := fun xs H Q => ∃ i j, xs = [.int i, .int j] ∧ Q (.int (if j < i then j else i)) H
theorem g_min (hc : X.calm = true) : CallR X (.builtin "min") gMin := call_min2 hc
def gList (K : PySem.W.Frag) : List V → Hp → VK → Prop := fun xs H Q => ∃ p ys, xs = [.ref p] ∧ (SqL K H p ys ∨ SqT K H p ys) ∧ ∀ l, H l = none → Q (.ref l) (upd H l (.lst ys))
theorem g_list {K : PySem.W.Frag} (hK : X.K = K := by rfl) : CallR X (.type "list") (gList K) := by subst hK; exact call_list_of
def gTupl (K : PySem.W.Frag) : List V → Hp → VK → Prop := fun xs H Q => ∃ a ys, xs = [.ref a] ∧ ((SqL K H a ys ∧ ∀ l, H l = none → Q (.ref l) (upd H l (.tup ys))) ∨ (SqT K H a ys ∧ Q (.ref a) H))
theorem g_tup {K : PySem.W.Frag} (hK : X.K = K := by rfl) : CallR X (.type "tuple") (gTupl K) := by subst hK; exact call_tuple_of
def gOrd : List V → Hp → VK → Prop := fun xs H Q => ∃ x : Str, xs = [.str x] ∧ x.length = 1 ∧ Q (.int (x.cps.getD 0 0 : Nat)) H
theorem g_ord : CallR X (.builtin "ord") gOrd := call_ord
theorem g_all (hc : X.calm = true) {K : PySem.W.Frag} (hK : X.K = K := by rfl) : CallR X (.builtin "all") (rAll K) := by subst hK; exact cr_all hc
theorem g_any (hc : X.calm = true) {K : PySem.W.Frag} (hK : X.K = K := by rfl) : CallR X (.builtin "any") (rAny K) := by subst hK; exact cr_any hc
def gJoin (K : PySem.W.Frag) : V → List V → Hp → VK → Prop := fun x xs H Q => ∃ a p, ∃ ys : List Str, x = .str a ∧ xs = [.ref p] ∧ (SqL K H p (ys.map V.str) ∨ SqT K H p (ys.map V.str)) ∧ (ys.map (·.length)).sum + ys.length * a.length ≤ 16777216 ∧ Q (.str (Txt.join a ys)) H
theorem g_join {K : PySem.W.Frag} (hK : X.K = K := by rfl) : MtR X "str.join" (gJoin K) := by subst hK; exact mt_join
def gSplit : V → List V → Hp → VK → Prop := fun x xs H Q => ∃ a b, x = .str a ∧ xs = [.str b] ∧ (b.length == 0) = false ∧ a.length + 2 ≤ sizeLine ∧ rNewStrs (Txt.split a b) H Q
theorem g_split : MtR X "str.split" gSplit := mt_split
def gIsi (K : PySem.W.Frag) : List V → Hp → VK → Prop := fun xs H Q => rIsi K xs H Q ∨ rIsiT K xs H Q
theorem g_isi {K : PySem.W.Frag} (hK : X.K = K := by rfl) : CallR X (.builtin "isinstance") (gIsi K) := by subst hK; exact call_isi.or call_isiT
end

section
variable {X : Cx} {K : PySem.W.Frag} {a b : Expr} {ta tb : TE} {rest : List Expr} {pos : Pos}
theorem g_andT (ha : PE X a ta) (hb : PE X (.BoolOp .And (b :: rest) pos) tb) (hK : X.K = K := by rfl) : PE X (.BoolOp .And (a :: b :: rest) pos) (tAndT K ta tb) := by subst hK; exact pe_andT ha hb
theorem g_orT (ha : PE X a ta) (hb : PE X (.BoolOp .Or (b :: rest) pos) tb) (hK : X.K = K := by rfl) : PE X (.BoolOp .Or (a :: b :: rest) pos) (tOrT K ta tb) := by subst hK; exact pe_orT ha hb
theorem g_notT (ha : PE X a ta) (hK : X.K = K := by rfl) : PE X (.UnaryOp .Not a pos) (tNotT K ta) := by subst hK; exact pe_notT ha
theorem bm_K {X : Cx} {K : PySem.W.Frag} {T : String} {e : Expr} {to : TE} {t : TA} {r : V → List V → Hp → VK → Prop} (h : PE X e (tBM X.K T r to t)) (hK : X.K = K := by rfl) : PE X e (tBM K T r to t) := by subst hK; exact h
theorem bm0_K {X : Cx} {K : PySem.W.Frag} {T : String} {e : Expr} {to : TE} {r : V → List V → Hp → VK → Prop} (h : PE X e (tBM0 X.K T r to)) (hK : X.K = K := by rfl) : PE X e (tBM0 K T r to) := by subst hK; exact h
theorem ptup_K {X : Cx} {K : PySem.W.Frag} {e : Expr} {t : TGs} {n : Nat} (h : PG X e (gTup X.K n t)) (hK : X.K = K := by rfl) : PG X e (gTup K n t) := by subst hK; exact h
theorem fld_K {X : Cx} {K : PySem.W.Frag} {e : Expr} {ta : TE} {f : Str} (h : PE X e (tFld X.K ta f)) (hK : X.K = K := by rfl) : PE X e (tFld K ta f) := by subst hK; exact h
theorem sfld_K {X : Cx} {K : PySem.W.Frag} {st : Stmt} {ta tv : TE} {f : Str} (h : PS X st (sFld X.K ta tv f)) (hK : X.K = K := by rfl) : PS X st (sFld K ta tv f) := by subst hK; exact h
def tTr (K : PySem.W.Frag) (ta : TE) : TT := fun σ H Q => ta σ H fun x H' => ∃ k, TruV K x H' k ∧ Q k H'
theorem g_truth (ha : PE X a ta) (he : ∀ whole, isTrue a X.env whole = (do let v ← whole; standAt a.pos; holding [v] (truthy v))) (hK : X.K = K := by rfl) : PT X a (tTr K ta) := by subst hK; exact pt_truth ha he
end
/-! ### a cut behind a statement: a word of the slots and the heap -/
def tCut (t u : TS) : TS := fun D σ H => ∃ W : L2.St → Hp → Prop, t { D with nx := W } σ H ∧ ∀ σ' H', W σ' H' → u D σ' H'
theorem pss_cut {X : Cx} {st : Stmt} {rest : List Stmt} {t u : TS} (h1 : PS X st t) (h2 : PSs X rest u) : PSs X (st :: rest) (tCut t u) := by
  constructor
  intro pins s σ H D I ⟨W, a, b⟩
  apply wpAny_execs_cons
  apply thn (h1.run pins s σ H _ I a)
  intro f s1 q
  cases f with
  | next =>
    obtain ⟨σ', H', I', q⟩ := q
    exact h2.run pins s1 σ' H' D I' (b σ' H' q)
  | ret v => exact q
  | brk => exact q
  | cont => exact q

theorem kit_N_tuple : kitB "NoneType" "tuple" = some false := by decide +kernel
theorem kit_N_list : kitB "NoneType" "list" = some false := by decide +kernel
theorem kit_N_bool : kitB "NoneType" "bool" = some false := by decide +kernel
theorem kit_N_int : kitB "NoneType" "int" = some false := by decide +kernel
theorem kit_N_str : kitB "NoneType" "str" = some false := by decide +kernel
theorem kit_B_tuple : kitB "bool" "tuple" = some false := by decide +kernel
theorem kit_B_list : kitB "bool" "list" = some false := by decide +kernel
theorem kit_B_bool : kitB "bool" "bool" = some true := by decide +kernel
theorem kit_B_int : kitB "bool" "int" = some true := by decide +kernel
theorem kit_B_str : kitB "bool" "str" = some false := by decide +kernel
theorem kit_I_tuple : kitB "int" "tuple" = some false := by decide +kernel
theorem kit_I_list : kitB "int" "list" = some false := by decide +kernel
theorem kit_I_bool : kitB "int" "bool" = some false := by decide +kernel
theorem kit_I_int : kitB "int" "int" = some true := by decide +kernel
theorem kit_I_str : kitB "int" "str" = some false := by decide +kernel
theorem kit_S_tuple : kitB "str" "tuple" = some false := by decide +kernel
theorem kit_S_list : kitB "str" "list" = some false := by decide +kernel
theorem kit_S_bool : kitB "str" "bool" = some false := by decide +kernel
theorem kit_S_int : kitB "str" "int" = some false := by decide +kernel
theorem kit_S_str : kitB "str" "str" = some true := by decide +kernel
theorem kit_L_tuple : kitB "list" "tuple" = some false := by decide +kernel
theorem kit_L_list : kitB "list" "list" = some true := by decide +kernel
theorem kit_L_bool : kitB "list" "bool" = some false := by decide +kernel
theorem kit_L_int : kitB "list" "int" = some false := by decide +kernel
theorem kit_L_str : kitB "list" "str" = some false := by decide +kernel
theorem kit_T_tuple : kitB "tuple" "tuple" = some true := by decide +kernel
theorem kit_T_list : kitB "tuple" "list" = some false := by decide +kernel
theorem kit_T_bool : kitB "tuple" "bool" = some false := by decide +kernel
theorem kit_T_int : kitB "tuple" "int" = some false := by decide +kernel
theorem kit_T_str : kitB "tuple" "str" = some false := by decide +kernel

theorem line_val : sizeLine = 16777216 := by decide
theorem slen_app (a b : Str) : (a ++ b).length = a.length + b.length := by
  rw [TL.len_tl, TL.tl_append, List.length_append, ← TL.len_tl, ← TL.len_tl]
theorem slen_one (c : Nat) : (⟨#[c]⟩ : Str).length = 1 := rfl
theorem log_ok {i : Int} (h0 : 0 ≤ i) (h1 : i < 18446744073709551616) : i.natAbs.log2 < 1920 := by
  have h : i.natAbs < 2 ^ 64 := by omega
  by_cases z : i.natAbs = 0
  · rw [z]; decide
  · exact Nat.lt_of_lt_of_le ((Nat.log2_lt z).mpr h) (by decide)
/-! ### steps of a reading -/
section
variable {K : PySem.W.Frag} {σ σ' : L2.St} {H : Hp} {Q : VK} {D : Ends} {ta tb tc te : TE} {t u : TT} {ts tu tw : TS} {x y v w : V} {i j : Int} {p q : Addr} {xs : List V} {r r' : R2} {b : Bool} {g : TG} {tr : TA}
theorem r_seq (h : tu { D with nx := tw D } σ H) : tSeq tu tw D σ H := h
theorem r_cut0 (h : tu { D with nx := tw D } σ H) : tCut tu tw D σ H := ⟨tw D, h, fun _ _ q => q⟩
theorem r_cut (W : L2.St → Hp → Prop) (h : tu { D with nx := W } σ H) (k : ∀ σ' H', W σ' H' → tw D σ' H') : tCut tu tw D σ H := ⟨W, h, k⟩
theorem r_tr {Q : Bool → Hp → Prop} (h : te σ H fun x H' => ∃ k, TruV K x H' k ∧ Q k H') : tTr K te σ H Q := h
theorem r_nx (h : D.nx σ H) : tNext D σ H := h
theorem r_asg (h : te σ H fun x H1 => g x σ H1 D.nx) : tAsg te g D σ H := h
theorem r_drop (h : te σ H fun _ H1 => D.nx σ H1) : tDrop te D σ H := h
theorem r_ret (h : te σ H D.rt) : tRet te D σ H := h
/-- what is left of a for, of a comprehension, when its walk is known -/
def ForIs (J : It) (H : Hp) (g : TG) (tb : TS) (D : Ends) (σ : L2.St) : Prop := ∃ W : Nat → Nat → L2.St → Hp → Prop, (∃ m, W 0 m σ H) ∧ ∀ i m σ H, W i m σ H →
      (J.stop i H ∧ D.nx σ H) ∨ (J.go i H ∧ ∃ N : L2.St → Hp → Prop, (∀ σ' H', N σ' H' → ∃ m', m' < m ∧ W (i + 1) m' σ' H') ∧ ∀ x H', J.yld i H x H' → g x σ H' fun σ2 H2 => tb { D with nx := N, ct := N, bk := D.nx } σ2 H2)
def LcIs (J : It) (H1 : Hp) (g : TG) (tt : TT) (te : TE) (vs : List Nat) (σ : L2.St) (Q : VK) : Prop := ∀ D, H1 D = none → ∃ W : Nat → Nat → Hp → Prop, (∃ m, W 0 m (upd H1 D (.lst []))) ∧ ∀ i m H, W i m H →
  (J.stop i H ∧ Q (.ref D) H) ∨ (J.go i H ∧ ∃ Nx : Hp → Prop, (∀ H', Nx H' → ∃ m', m' < m ∧ W (i + 1) m' H') ∧ ∀ x H', J.yld i H x H' → g x (wipe σ vs) H' fun σ2 H2 => wipe σ2 vs = wipe σ vs ∧ tt σ2 H2 fun b H3 =>
    if b = true then te σ2 H3 fun y H4 => ∃ acc, H4 D = some (.lst acc) ∧ acc.length < sizeLine ∧ Nx (upd H4 D (.lst (acc ++ [y]))) else Nx H3)
theorem r_for {wi : TI} (h : wi σ H fun J H1 => ForIs J H1 g tu D σ) : tFor wi g tu D σ H := h
theorem r_lc {wi : TI} {tt : TT} {vs : List Nat} (h : wi σ H fun J H1 => LcIs J H1 g tt te vs σ Q) : tLc wi g tt te vs σ H Q := h
theorem w_rng1 {n : Int} {R : Int → Prop} (h : 0 ≤ n ∧ n < 2 ^ 62) (k : R n) : ∃ j : Int, [V.int n] = [.int j] ∧ -(2 ^ 62) ≤ j ∧ j < 2 ^ 62 ∧ R j := ⟨n, rfl, by omega, h.2, k⟩
theorem w_rng2 {m n : Int} {R : Int → Int → Prop} (h : (-(2 ^ 62) ≤ m ∧ m < 2 ^ 62) ∧ -(2 ^ 62) ≤ n ∧ n < 2 ^ 62) (k : R m n) : ∃ i j : Int, [V.int m, V.int n] = [.int i, .int j] ∧ (-(2 ^ 62) ≤ i ∧ i < 2 ^ 62 ∧ -(2 ^ 62) ≤ j ∧ j < 2 ^ 62) ∧ R i j := ⟨m, n, rfl, ⟨h.1.1, h.1.2, h.2.1, h.2.2⟩, k⟩
theorem w_tup {R : Addr → Prop} {xs : List V} (h : SqT K H p xs) (k : R p) : ∃ a, V.ref p = .ref a ∧ (∃ xs, SqT K H a xs) ∧ R a := ⟨p, rfl, ⟨xs, h⟩, k⟩
theorem w_itL {R R' : Addr → Prop} {S : Str → Prop} {xs : List V} (h : SqL K H p xs) (k : R p) : (∃ a, V.ref p = .ref a ∧ (∃ xs, SqL K H a xs) ∧ R a) ∨ (∃ a, V.ref p = .ref a ∧ (∃ xs, SqT K H a xs) ∧ R' a) ∨ ∃ z, V.ref p = .str z ∧ S z := .inl ⟨p, rfl, ⟨xs, h⟩, k⟩
theorem w_itT {R R' : Addr → Prop} {S : Str → Prop} {xs : List V} (h : SqT K H p xs) (k : R' p) : (∃ a, V.ref p = .ref a ∧ (∃ xs, SqL K H a xs) ∧ R a) ∨ (∃ a, V.ref p = .ref a ∧ (∃ xs, SqT K H a xs) ∧ R' a) ∨ ∃ z, V.ref p = .str z ∧ S z := .inr (.inl ⟨p, rfl, ⟨xs, h⟩, k⟩)
theorem w_itS {R R' : Addr → Prop} {S : Str → Prop} {z : Str} (k : S z) : (∃ a, V.str z = .ref a ∧ (∃ xs, SqL K H a xs) ∧ R a) ∨ (∃ a, V.str z = .ref a ∧ (∃ xs, SqT K H a xs) ∧ R' a) ∨ ∃ y, V.str z = .str y ∧ S y := .inr (.inr ⟨z, rfl, k⟩)
theorem r_iRng1 {R : It → Hp → Prop} (h : tr σ H fun vs H1 => ∃ j : Int, vs = [.int j] ∧ -(2 ^ 62) ≤ j ∧ j < 2 ^ 62 ∧ R (Itr 0 j.toNat) H1) : iRng1 tr σ H R := h
theorem r_iRng2 {R : It → Hp → Prop} (h : tr σ H fun vs H1 => ∃ i j : Int, vs = [.int i, .int j] ∧ (-(2 ^ 62) ≤ i ∧ i < 2 ^ 62 ∧ -(2 ^ 62) ≤ j ∧ j < 2 ^ 62) ∧ R (Itr i (j - i).toNat) H1) : iRng2 tr σ H R := h
theorem r_iTup {R : It → Hp → Prop} (h : te σ H fun x H1 => ∃ a, x = .ref a ∧ (∃ xs, SqT K H1 a xs) ∧ R (Itt K a) H1) : iTup K te σ H R := h
/-- for i in range(n): a word of the turn, the slots and the heap -/
theorem l_range {n : Int} (W : Nat → L2.St → Hp → Prop) (w0 : W 0 σ H)
    (ws : ∀ (i : Nat) σ' H', (i : Int) < n → W i σ' H' → g (.int (i : Int)) σ' H' fun σ2 H2 => tu { D with nx := W (i + 1), ct := W (i + 1), bk := D.nx } σ2 H2) (wd : ∀ σ' H', W n.toNat σ' H' → D.nx σ' H') :
    ForIs (Itr 0 n.toNat) H g tu D σ := for_range (lo := 0) (n := n.toNat) W w0 (fun i σ' H' hi q => by rw [Int.zero_add]; exact ws i σ' H' (by omega) q) wd
/-- for i in range(m, n) -/
theorem l_range2 {m n : Int} (W : Nat → L2.St → Hp → Prop) (w0 : W 0 σ H)
    (ws : ∀ (i : Nat) σ' H', m + (i : Int) < n → W i σ' H' → g (.int (m + (i : Int))) σ' H' fun σ2 H2 => tu { D with nx := W (i + 1), ct := W (i + 1), bk := D.nx } σ2 H2) (wd : ∀ σ' H', W (n - m).toNat σ' H' → D.nx σ' H') :
    ForIs (Itr m (n - m).toNat) H g tu D σ := for_range (lo := m) (n := (n - m).toNat) W w0 (fun i σ' H' hi q => ws i σ' H' (by omega) q) wd
/-- for x in t (a tuple), in l (a list); hl: it stands still -/
theorem l_tup (W : Nat → L2.St → Hp → Prop) (w0 : W 0 σ H) (hl : ∀ i σ H, W i σ H → SqT K H p xs)
    (ws : ∀ (i : Nat) x σ' H', xs[i]? = some x → W i σ' H' → g x σ' H' fun σ2 H2 => tu { D with nx := W (i + 1), ct := W (i + 1), bk := D.nx } σ2 H2) (wd : ∀ σ' H', W xs.length σ' H' → D.nx σ' H') :
    ForIs (Itt K p) H g tu D σ := for_tup (xs := xs) W w0 (fun i σ H _ => hl i σ H) ws wd
theorem l_list (W : Nat → L2.St → Hp → Prop) (w0 : W 0 σ H) (hl : ∀ i σ H, W i σ H → SqL K H p xs)
    (ws : ∀ (i : Nat) x σ' H', xs[i]? = some x → W i σ' H' → g x σ' H' fun σ2 H2 => tu { D with nx := W (i + 1), ct := W (i + 1), bk := D.nx } σ2 H2) (wd : ∀ σ' H', W xs.length σ' H' → D.nx σ' H') :
    ForIs (Itl K p) H g tu D σ := for_list (xs := xs) W w0 (fun i σ H _ => hl i σ H) ws wd
theorem l_str {z : Str} (W : Nat → L2.St → Hp → Prop) (w0 : W 0 σ H)
    (ws : ∀ (i : Nat) c σ' H', (TL.tl z)[i]? = some c → W i σ' H' → g (.str ⟨#[c]⟩) σ' H' fun σ2 H2 => tu { D with nx := W (i + 1), ct := W (i + 1), bk := D.nx } σ2 H2) (wd : ∀ σ' H', W z.length σ' H' → D.nx σ' H') :
    ForIs (Its z) H g tu D σ := for_it walk_str W w0 (fun _ _ _ _ _ => trivial) (by
      rintro i x σ' H1 H2 _ q ⟨rfl, c, hc, rfl⟩
      exact ws i c σ' _ (by simpa using hc) q) wd
theorem r_retN (h : D.rt .non H) : tRetN D σ H := h
theorem r_ifS (h : t σ H fun b H1 => if b = true then tu D σ H1 else tw D σ H1) : tIfS t tu tw D σ H := h
theorem r_var {i : Nat} (h : σ[i]? = some (some v)) (k : Q v H) : tVar i σ H Q := ⟨v, h, k⟩
theorem r_c (k : Q v H) : tC v σ H Q := k
theorem r_op (h : ta σ H fun x H1 => tb σ H1 fun y H2 => r x y H2 Q) : tOp r ta tb σ H Q := h
theorem r_un {r : V → Hp → VK → Prop} (h : ta σ H fun x H1 => r x H1 Q) : tUn r ta σ H Q := h
theorem r_nil {Q : List V → Hp → Prop} (k : Q [] H) : tNil σ H Q := k
theorem r_cons {Q : List V → Hp → Prop} (h : ta σ H fun x H1 => tr σ H1 fun xs H2 => Q (x :: xs) H2) : tCons ta tr σ H Q := h
theorem r_cb {r : List V → Hp → VK → Prop} (h : tr σ H fun vs H1 => r vs H1 Q) : tCB r tr σ H Q := h
theorem r_call {sp : Sp} {dvs : List V} {E : XK} (h : tr σ H fun vs H1 => sp (vs ++ dvs) H1 Q E) : tCall sp dvs E tr σ H Q := h
theorem r_bm {T : String} {r : V → List V → Hp → VK → Prop} (h : te σ H fun x H1 => tyV K T x H1 ∧ tr σ H1 fun xs H2 => r x xs H2 Q) : tBM K T r te tr σ H Q := h
theorem r_bm0 {T : String} {r : V → List V → Hp → VK → Prop} (h : te σ H fun x H1 => tyV K T x H1 ∧ r x [] H1 Q) : tBM0 K T r te σ H Q := h
theorem r_tup (h : tr σ H fun xs H1 => xs.length ≤ sizeLine ∧ ∀ p, H1 p = none → Q (.ref p) (upd H1 p (.tup xs))) : tTup tr σ H Q := h
theorem r_lst (h : tr σ H fun xs H1 => xs.length ≤ sizeLine ∧ ∀ p, H1 p = none → Q (.ref p) (upd H1 p (.lst xs))) : tLst tr σ H Q := h
theorem r_name {i : Nat} {Q : L2.St → Hp → Prop} (h : Q (σ.set i (some v)) H) : gName i v σ H Q := h
theorem r_sub {s : TSet} {Q : L2.St → Hp → Prop} (h : ta σ H fun o H1 => tb σ H1 fun i H2 => s o i v H2 fun H3 => Q σ H3) : gSub ta tb s v σ H Q := h
theorem r_test {Q : Bool → Hp → Prop} (h : te σ H fun x H1 => ∃ k, x = .bl k ∧ Q k H1) : tTest te σ H Q := h
theorem r_tB {Q : Bool → Hp → Prop} (h : te σ H fun x H1 => ∃ k, x = .bl k ∧ Q k H1) : tB te σ H Q := h
theorem r_exbl {Q : Bool → Hp → Prop} (h : Q b H) : ∃ k, V.bl b = .bl k ∧ Q k H := ⟨b, rfl, h⟩
theorem r_exbl' {P : Bool → Prop} (h : P b) : ∃ k, V.bl b = .bl k ∧ P k := ⟨b, rfl, h⟩
theorem r_and {Q : Bool → Hp → Prop} (h : t σ H fun c H1 => if c = true then u σ H1 Q else Q false H1) : tAnd t u σ H Q := h
theorem r_or {Q : Bool → Hp → Prop} (h : t σ H fun c H1 => if c = true then Q true H1 else u σ H1 Q) : tOr t u σ H Q := h
theorem r_not {Q : Bool → Hp → Prop} (h : t σ H fun c H1 => Q (!c) H1) : tNot t σ H Q := h
theorem r_if (h : t σ H fun c H1 => if c = true then ta σ H1 Q else tb σ H1 Q) : tIf t ta tb σ H Q := h
theorem r_chain (h : ta σ H fun x H1 => tb σ H1 fun y H2 => r x y H2 fun z H3 => ∃ k, z = .bl k ∧ (if k = true then tc σ H3 fun w' H4 => r' y w' H4 Q else Q (.bl false) H3)) : tChain r r' ta tb tc σ H Q := h
theorem r_orT (h : ta σ H fun x H1 => ∃ k, TruV K x H1 k ∧ if k = true then Q x H1 else tb σ H1 Q) : tOrT K ta tb σ H Q := h
theorem r_andT (h : ta σ H fun x H1 => ∃ k, TruV K x H1 k ∧ if k = true then tb σ H1 Q else Q x H1) : tAndT K ta tb σ H Q := h
theorem r_notT (h : ta σ H fun x H1 => ∃ k, TruV K x H1 k ∧ Q (.bl (!k)) H1) : tNotT K ta σ H Q := h
theorem r_sl {r : V → Option Int → Option Int → Hp → VK → Prop} {tl th : TO} (h : te σ H fun x H1 => tl σ H1 fun l H2 => th σ H2 fun u H3 => r x l u H3 Q) : tSl r te tl th σ H Q := h
theorem r_nopart {Q : Option Int → Hp → Prop} (h : Q none H) : tNoPart σ H Q := h
theorem r_part {Q : Option Int → Hp → Prop} (h : te σ H fun x H1 => ∃ i, x = .int i ∧ Q (some i) H1) : tPart te σ H Q := h
theorem r_exint {R : Int → Prop} (h : R i) : ∃ k, V.int i = .int k ∧ R k := ⟨i, rfl, h⟩
theorem r_yes {Q : Bool → Hp → Prop} (h : Q true H) : tYes σ H Q := h
/-- what an item y asks, what one that is left out -/
def LcNx (W : Addr → Nat → List V → Hp → Prop) (D : Addr) (k : Nat) (y : V) (H : Hp) : Prop := ∃ acc, H D = some (.lst acc) ∧ acc.length < sizeLine ∧ ∃ a, upd H D (.lst (acc ++ [y])) D = some (.lst a) ∧ W D k a (upd H D (.lst (acc ++ [y])))
def LcSk (W : Addr → Nat → List V → Hp → Prop) (D : Addr) (k : Nat) (H : Hp) : Prop := ∃ a, H D = some (.lst a) ∧ W D k a H
/-- a list made in a comprehension, over any walk: W by the list's place, the turn, what is made, the heap -/
theorem l_lc {J : It} {n : Nat} {G : Hp → Prop} {Y : Nat → Hp → V → Hp → Prop} (w : Walk J n G Y) {tt : TT} {vs : List Nat} (W : Addr → Nat → List V → Hp → Prop) (w0 : ∀ D, H D = none → W D 0 [] (upd H D (.lst [])))
    (hG : ∀ D i acc H', H D = none → W D i acc H' → G H')
    (ws : ∀ D i acc x H1 H2, H D = none → i < n → W D i acc H1 → H1 D = some (.lst acc) → Y i H1 x H2 → g x (wipe σ vs) H2 fun σ2 H2 => wipe σ2 vs = wipe σ vs ∧ tt σ2 H2 fun b H3 =>
      if b = true then te σ2 H3 fun y H4 => LcNx W D (i + 1) y H4 else LcSk W D (i + 1) H3)
    (wd : ∀ D acc H', H D = none → W D n acc H' → H' D = some (.lst acc) → Q (.ref D) H') :
    LcIs J H g tt te vs σ Q := fun D hD =>
  lc_it w (fun i H' => ∃ acc, H' D = some (.lst acc) ∧ W D i acc H') ⟨[], upd_same, w0 D hD⟩ (fun i H' _ ⟨acc, _, q⟩ => hG D i acc H' hD q) (fun i x H1 H2 hi ⟨acc, e, q⟩ y => ws D i acc x H1 H2 hD hi q e y) fun H' ⟨acc, e, q⟩ => wd D acc H' hD q e
theorem lc_next {W : Addr → Nat → List V → Hp → Prop} {D : Addr} {k : Nat} {acc : List V} (h : H D = some (.lst acc)) (l : acc.length < sizeLine) (q : W D k (acc ++ [y]) (upd H D (.lst (acc ++ [y])))) : LcNx W D k y H := ⟨acc, h, l, _, upd_same, q⟩
theorem lc_skip {W : Addr → Nat → List V → Hp → Prop} {D : Addr} {k : Nat} {acc : List V} (h : H D = some (.lst acc)) (q : W D k acc H) : LcSk W D k H := ⟨acc, h, q⟩
/-- a for over any walk -/
theorem l_for {J : It} {n : Nat} {G : Hp → Prop} {Y : Nat → Hp → V → Hp → Prop} (w : Walk J n G Y) (W : Nat → L2.St → Hp → Prop) (w0 : W 0 σ H) (hG : ∀ i σ H, W i σ H → G H)
    (ws : ∀ (i : Nat) x σ' H1 H2, i < n → W i σ' H1 → Y i H1 x H2 → g x σ' H2 fun σ2 H2 => tu { D with nx := W (i + 1), ct := W (i + 1), bk := D.nx } σ2 H2) (wd : ∀ σ' H', W n σ' H' → D.nx σ' H') :
    ForIs J H g tu D σ :=
  for_it w W w0 (fun i σ H _ => hG i σ H) ws wd
/-! values -/
theorem b_lst {R : Prop} {xs : List V} (h : H p = some (.lst xs)) (k : R) : tyV K "list" (.ref p) H ∧ R := ⟨.inl ⟨rfl, xs, SqL.of h⟩, k⟩
theorem b_str {R : Prop} {z : Str} (k : R) : tyV K "str" (.str z) H ∧ R := ⟨rfl, k⟩
theorem v_append (h : H p = some (.lst xs)) (l : xs.length < sizeLine) (k : Q .non (upd H p (.lst (xs ++ [v])))) : rAppend (.ref p) [v] H Q := ⟨p, xs, v, rfl, rfl, h, l, k⟩
theorem v_extend {ys : List V} (h : H p = some (.lst xs)) (h2 : H q = some (.lst ys)) (l : xs.length + ys.length ≤ sizeLine) (k : Q .non (upd H p (.lst (xs ++ ys)))) : rExtend (.ref p) [.ref q] H Q := ⟨p, q, xs, ys, rfl, rfl, h, h2, l, k⟩
theorem v_join {a : Str} {ys : List Str} (h : H p = some (.lst (ys.map V.str))) (l : (ys.map (·.length)).sum + ys.length * a.length ≤ 16777216) (k : Q (.str (Txt.join a ys)) H) : gJoin K (.str a) [.ref p] H Q := ⟨a, p, ys, rfl, rfl, .inl (SqL.of h), l, k⟩
theorem v_split {a b : Str} (hb : (b.length == 0) = false) (l : a.length + 2 ≤ sizeLine) (k : ∀ p, H p = none → Q (.ref p) (upd H p (.lst ((Txt.split a b).map V.str)))) : gSplit (.str a) [.str b] H Q := ⟨a, b, rfl, rfl, hb, l, k⟩
theorem v_slL {lo hi : Option Int} (h : H p = some (.lst xs)) (k : ∀ l, H l = none → Q (.ref l) (upd H l (.lst (cutV xs lo hi)))) : gSl K (.ref p) lo hi H Q := .inl ⟨p, xs, rfl, SqL.of h, k⟩
theorem v_slS {lo hi : Option Int} {z : Str} (l : z.length ≤ sizeLine) (k : Q (.str (cutS z lo hi)) H) : gSl K (.str z) lo hi H Q := .inr (.inr ⟨z, rfl, l, k⟩)
theorem v_inS {c : Nat} {z : Str} (k : Q (.bl (decide (c ∈ z.cps.toList))) H) : gIn K (.str ⟨#[c]⟩) (.str z) H Q := .inr ⟨c, z, rfl, rfl, k⟩
theorem v_notinS {c : Nat} {z : Str} (k : Q (.bl (!decide (c ∈ z.cps.toList))) H) : gNotIn K (.str ⟨#[c]⟩) (.str z) H Q := .inr ⟨c, z, rfl, rfl, k⟩
theorem v_all {bs : List Bool} (h : H p = some (.lst (bs.map V.bl))) (k : Q (.bl (bs.all id)) H) : rAll K [.ref p] H Q := ⟨p, bs, rfl, SqL.of h, k⟩
theorem v_any {bs : List Bool} (h : H p = some (.lst (bs.map V.bl))) (k : Q (.bl (bs.any id)) H) : rAny K [.ref p] H Q := ⟨p, bs, rfl, SqL.of h, k⟩
theorem v_ord {c : Nat} (k : Q (.int (c : Nat)) H) : gOrd [.str ⟨#[c]⟩] H Q := ⟨⟨#[c]⟩, rfl, rfl, k⟩
theorem v_intS {z : Str} (e : PySem.intText? z = some i) (l : z.length ≤ 640) (k : Q (.int i) H) : gInt [.str z] H Q := .inr ⟨z, i, rfl, e, l, k⟩
theorem v_addI (k : Q (.int (i + j)) H) : gAdd K (.int i) (.int j) H Q := .inl ⟨i, j, rfl, rfl, k⟩
theorem v_addS {a b : Str} (h : a.length + b.length ≤ sizeLine) (k : Q (.str (a ++ b)) H) : gAdd K (.str a) (.str b) H Q := .inr (.inl ⟨a, b, rfl, rfl, h, k⟩)
theorem v_addL {xs ys : List V} (h1 : H p = some (.lst xs)) (h2 : H q = some (.lst ys)) (h : xs.length + ys.length ≤ sizeLine) (k : ∀ l, H l = none → Q (.ref l) (upd H l (.lst (xs ++ ys)))) : gAdd K (.ref p) (.ref q) H Q :=
  .inr (.inr (.inl ⟨p, q, xs, ys, rfl, rfl, h1, h2, h, k⟩))
theorem v_sub (k : Q (.int (i - j)) H) : gSubI (.int i) (.int j) H Q := ⟨i, j, rfl, rfl, k⟩
theorem v_mul (h : CMul i j) (k : Q (.int (i * j)) H) : gMul (.int i) (.int j) H Q := ⟨i, j, rfl, rfl, h, k⟩
theorem v_div (h : CDiv i j) (k : Q (.int (i / j)) H) : gDiv (.int i) (.int j) H Q := ⟨i, j, rfl, rfl, h, k⟩
theorem v_mod (h : 0 < j) (k : Q (.int (i % j)) H) : gMod (.int i) (.int j) H Q := ⟨i, j, rfl, rfl, h, k⟩
theorem v_pow (h : CPow i j) (k : Q (.int (i ^ j.toNat)) H) : gPow (.int i) (.int j) H Q := ⟨i, j, rfl, rfl, h, k⟩
theorem v_ltI (k : Q (.bl (decide (i < j))) H) : gLt (.int i) (.int j) H Q := .inl ⟨i, j, rfl, rfl, k⟩
theorem v_leI (k : Q (.bl (decide (i ≤ j))) H) : gLe (.int i) (.int j) H Q := .inl ⟨i, j, rfl, rfl, k⟩
theorem v_ltS {a b : Str} (k : Q (.bl (decide (a.cps.toList < b.cps.toList))) H) : gLt (.str a) (.str b) H Q := .inr ⟨a, b, rfl, rfl, k⟩
theorem v_leS {a b : Str} (k : Q (.bl (!decide (b.cps.toList < a.cps.toList))) H) : gLe (.str a) (.str b) H Q := .inr ⟨a, b, rfl, rfl, k⟩
theorem v_gt (k : Q (.bl (decide (j < i))) H) : gGt (.int i) (.int j) H Q := ⟨i, j, rfl, rfl, k⟩
theorem v_ge (k : Q (.bl (decide (j ≤ i))) H) : gGe (.int i) (.int j) H Q := ⟨i, j, rfl, rfl, k⟩
theorem v_eqI (k : Q (.bl (decide (i = j))) H) : rEq (.int i) (.int j) H Q := ⟨rfl, by
  have e : decide (V.int i = V.int j) = decide (i = j) := by
    by_cases h : i = j
    · subst h; simp
    · rw [decide_eq_false h, decide_eq_false (fun q => h (V.int.inj q))]
  rw [e]; exact k⟩
theorem v_eqS {a b : Str} (k : Q (.bl (decide (a = b))) H) : rEq (.str a) (.str b) H Q := ⟨rfl, by
  have e : decide (V.str a = V.str b) = decide (a = b) := by
    by_cases h : a = b
    · subst h; simp
    · rw [decide_eq_false h, decide_eq_false (fun q => h (V.str.inj q))]
  rw [e]; exact k⟩
theorem v_eqB {a b : Bool} (k : Q (.bl (decide (a = b))) H) : rEq (.bl a) (.bl b) H Q := ⟨rfl, by
  have e : decide (V.bl a = V.bl b) = decide (a = b) := by cases a <;> cases b <;> rfl
  rw [e]; exact k⟩
theorem v_neI (k : Q (.bl (!decide (i = j))) H) : rNe (.int i) (.int j) H Q := ⟨rfl, by
  have e : decide (V.int i = V.int j) = decide (i = j) := by
    by_cases h : i = j
    · subst h; simp
    · rw [decide_eq_false h, decide_eq_false (fun q => h (V.int.inj q))]
  rw [e]; exact k⟩
theorem v_neS {a b : Str} (k : Q (.bl (!decide (a = b))) H) : rNe (.str a) (.str b) H Q := ⟨rfl, by
  have e : decide (V.str a = V.str b) = decide (a = b) := by
    by_cases h : a = b
    · subst h; simp
    · rw [decide_eq_false h, decide_eq_false (fun q => h (V.str.inj q))]
  rw [e]; exact k⟩
theorem v_neB {a b : Bool} (k : Q (.bl (!decide (a = b))) H) : rNe (.bl a) (.bl b) H Q := ⟨rfl, by
  have e : decide (V.bl a = V.bl b) = decide (a = b) := by cases a <;> cases b <;> rfl
  rw [e]; exact k⟩
theorem v_is (k : Q (.bl (decide (x = .non))) H) : gIs x .non H Q := ⟨rfl, k⟩
theorem v_isnot (k : Q (.bl (!decide (x = .non))) H) : gIsNot x .non H Q := ⟨rfl, k⟩
theorem v_isN (k : Q (.bl true) H) : gIs .non .non H Q := ⟨rfl, k⟩
theorem v_isB {c : Bool} (k : Q (.bl false) H) : gIs (.bl c) .non H Q := ⟨rfl, k⟩
theorem v_isI (k : Q (.bl false) H) : gIs (.int i) .non H Q := ⟨rfl, k⟩
theorem v_isS {z : Str} (k : Q (.bl false) H) : gIs (.str z) .non H Q := ⟨rfl, k⟩
theorem v_isR (k : Q (.bl false) H) : gIs (.ref p) .non H Q := ⟨rfl, k⟩
theorem v_isnotN (k : Q (.bl false) H) : gIsNot .non .non H Q := ⟨rfl, k⟩
theorem v_isnotB {c : Bool} (k : Q (.bl true) H) : gIsNot (.bl c) .non H Q := ⟨rfl, k⟩
theorem v_isnotI (k : Q (.bl true) H) : gIsNot (.int i) .non H Q := ⟨rfl, k⟩
theorem v_isnotS {z : Str} (k : Q (.bl true) H) : gIsNot (.str z) .non H Q := ⟨rfl, k⟩
theorem v_isnotR (k : Q (.bl true) H) : gIsNot (.ref p) .non H Q := ⟨rfl, k⟩
theorem v_eqN (k : Q (.bl true) H) : rEq .non .non H Q := ⟨rfl, k⟩
theorem v_neN (k : Q (.bl false) H) : rNe .non .non H Q := ⟨rfl, k⟩
theorem v_lenLs (h : SqL K H p xs) (k : Q (.int (xs.length : Nat)) H) : gLen K [.ref p] H Q := ⟨.ref p, _, rfl, .inl ⟨xs, h, rfl⟩, k⟩
theorem v_lenTs (h : SqT K H p xs) (k : Q (.int (xs.length : Nat)) H) : gLen K [.ref p] H Q := ⟨.ref p, _, rfl, .inr ⟨xs, h, rfl⟩, k⟩
theorem v_ixLs (h : SqL K H p xs) (e : atI xs i = some v) (k : Q v H) : rIx K (.ref p) (.int i) H Q := .inl ⟨p, xs, i, v, rfl, rfl, h, e, k⟩
theorem v_ixTs (h : SqT K H p xs) (e : atI xs i = some v) (k : Q v H) : rIx K (.ref p) (.int i) H Q := .inr (.inl ⟨p, xs, i, v, rfl, rfl, h, e, k⟩)
theorem v_ixL (h : H p = some (.lst xs)) (e : atI xs i = some v) (k : Q v H) : rIx K (.ref p) (.int i) H Q := .inl ⟨p, xs, i, v, rfl, rfl, SqL.of h, e, k⟩
theorem v_ixT (h : H p = some (.tup xs)) (e : atI xs i = some v) (k : Q v H) : rIx K (.ref p) (.int i) H Q := .inr (.inl ⟨p, xs, i, v, rfl, rfl, SqT.of h, e, k⟩)
theorem v_ixS {z : Str} {c : Nat} (h : z.length ≤ sizeLine) (e : atI z.cps.toList i = some c) (k : Q (.str ⟨#[c]⟩) H) : rIx K (.str z) (.int i) H Q := .inr (.inr ⟨z, i, c, rfl, rfl, h, e, k⟩)
theorem v_setL {R : Hp → Prop} {n : Nat} (h : H p = some (.lst xs)) (e : ixN xs.length i = some n) (k : R (upd H p (.lst (xs.set n v)))) : rSetL (.ref p) (.int i) v H R := ⟨p, xs, i, n, rfl, rfl, h, e, k⟩
theorem v_lenL (h : H p = some (.lst xs)) (k : Q (.int (xs.length : Nat)) H) : gLen K [.ref p] H Q := ⟨.ref p, _, rfl, .inl ⟨xs, SqL.of h, rfl⟩, k⟩
theorem v_lenT (h : H p = some (.tup xs)) (k : Q (.int (xs.length : Nat)) H) : gLen K [.ref p] H Q := ⟨.ref p, _, rfl, .inr ⟨xs, SqT.of h, rfl⟩, k⟩
theorem v_lenS {z : Str} (h : z.length ≤ sizeLine) (k : Q (.int (z.length : Nat)) H) : gLen K [.str z] H Q := ⟨.str z, _, rfl, ⟨h, rfl⟩, k⟩
theorem v_intI (k : Q (.int i) H) : gInt [.int i] H Q := .inl (.inl ⟨i, rfl, k⟩)
theorem v_intB (k : Q (.int (if b then 1 else 0)) H) : gInt [.bl b] H Q := .inl (.inr ⟨b, rfl, k⟩)
theorem v_min (k : Q (.int (if j < i then j else i)) H) : gMin [.int i, .int j] H Q := ⟨i, j, rfl, k⟩
theorem v_listL (h : H p = some (.lst xs)) (k : ∀ l, H l = none → Q (.ref l) (upd H l (.lst xs))) : gList K [.ref p] H Q := ⟨p, xs, rfl, .inl (SqL.of h), k⟩
theorem v_isi {a T : String} (ht : TyX K H x (.type a)) (hk : kitB a T = some b) (k : Q (.bl b) H) : gIsi K [x, .ty T] H Q := .inl ⟨x, .ty T, _, _, b, rfl, .ty T, ht, kit_ty hk, k⟩
theorem v_isiI {T : String} (hk : kitB "int" T = some b) (k : Q (.bl b) H) : gIsi K [.int i, .ty T] H Q := v_isi (.base (.int i)) hk k
theorem v_isiB {c : Bool} {T : String} (hk : kitB "bool" T = some b) (k : Q (.bl b) H) : gIsi K [.bl c, .ty T] H Q := v_isi (.base (.bl c)) hk k
theorem v_isiS {z : Str} {T : String} (hk : kitB "str" T = some b) (k : Q (.bl b) H) : gIsi K [.str z, .ty T] H Q := v_isi (.base (.str z)) hk k
theorem v_isiN {T : String} (hk : kitB "NoneType" T = some b) (k : Q (.bl b) H) : gIsi K [.non, .ty T] H Q := v_isi (.base .non) hk k
theorem tyx_l (h : SqL K H p xs) : TyX K H (.ref p) (.type "list") := by
  rcases h with (h | ⟨o, h⟩) | ⟨o, its, n, hk, hc, _⟩
  · exact .base (.lst h)
  · exact .base (.frz h)
  · exact .kList hk hc
theorem tyx_t (h : SqT K H p xs) : TyX K H (.ref p) (.type "tuple") := by
  rcases h with (h | ⟨o, h⟩) | ⟨o, its, n, hk, hc, _⟩
  · exact .base (.tup h)
  · exact .fTuple h
  · exact .kTuple hk hc
theorem v_isiL {T : String} (h : SqL K H p xs) (hk : kitB "list" T = some b) (k : Q (.bl b) H) : gIsi K [.ref p, .ty T] H Q := v_isi (tyx_l h) hk k
theorem v_isiT {T : String} (h : SqT K H p xs) (hk : kitB "tuple" T = some b) (k : Q (.bl b) H) : gIsi K [.ref p, .ty T] H Q := v_isi (tyx_t h) hk k
theorem v_str (h : i.natAbs.log2 < 1920) (k : Q (.str (toString i)) H) : gStr [.int i] H Q := ⟨i, rfl, h, k⟩
/-! tests -/
theorem i_t {A B : Prop} (h : A) : if true = true then A else B := by rw [if_pos rfl]; exact h
theorem i_f {A B : Prop} (h : B) : if false = true then A else B := by rw [if_neg Bool.false_ne_true]; exact h
theorem i_nt {A B : Prop} (h : B) : if (!true) = true then A else B := by rw [if_neg (by decide)]; exact h
theorem i_nf {A B : Prop} (h : A) : if (!false) = true then A else B := by show (if true = true then A else B); rw [if_pos rfl]; exact h
theorem i_d {c A B : Prop} [Decidable c] (h1 : c → A) (h2 : ¬ c → B) : if decide c = true then A else B := by
  by_cases h : c
  · rw [decide_eq_true h]; exact i_t (h1 h)
  · rw [decide_eq_false h]; exact i_f (h2 h)
theorem i_nd {c A B : Prop} [Decidable c] (h1 : ¬ c → A) (h2 : c → B) : if (!decide c) = true then A else B := by
  by_cases h : c
  · rw [decide_eq_true h]; exact i_f (h2 h)
  · rw [decide_eq_false h]; exact i_t (h1 h)
theorem i_dt {c A B : Prop} [Decidable c] (h : c) (k : A) : if decide c = true then A else B := by rw [decide_eq_true h]; exact i_t k
theorem i_df {c A B : Prop} [Decidable c] (h : ¬ c) (k : B) : if decide c = true then A else B := by rw [decide_eq_false h]; exact i_f k
theorem i_ndt {c A B : Prop} [Decidable c] (h : ¬ c) (k : A) : if (!decide c) = true then A else B := by rw [decide_eq_false h]; exact i_t k
theorem i_ndf {c A B : Prop} [Decidable c] (h : c) (k : B) : if (!decide c) = true then A else B := by rw [decide_eq_true h]; exact i_f k
theorem i_nn {c : Bool} {A B : Prop} (h : if c = true then A else B) : if (!!c) = true then A else B := by rw [Bool.not_not]; exact h
theorem i_b {c : Bool} {A B : Prop} (h1 : c = true → A) (h2 : c = false → B) : if c = true then A else B := by
  cases c with
  | true => exact i_t (h1 rfl)
  | false => exact i_f (h2 rfl)
end
section
variable {K : PySem.W.Frag} {H : Hp} {Q : Bool → Hp → Prop}
theorem t_bl {R : Bool → Prop} {b : Bool} (h : R b) : ∃ k, TruV K (.bl b) H k ∧ R k := ⟨b, rfl, h⟩
theorem t_non {R : Bool → Prop} (h : R false) : ∃ k, TruV K .non H k ∧ R k := ⟨_, rfl, h⟩
theorem t_int {R : Bool → Prop} {i : Int} (h : R (i != 0)) : ∃ k, TruV K (.int i) H k ∧ R k := ⟨_, rfl, h⟩
theorem t_str {R : Bool → Prop} {z : Str} (l : z.length ≤ sizeLine) (h : R ((z.length : Int) != 0)) : ∃ k, TruV K (.str z) H k ∧ R k := ⟨_, ⟨l, rfl⟩, h⟩
theorem t_lst {R : Bool → Prop} {p : Addr} {xs : List V} (l : H p = some (.lst xs)) (h : R (!xs.isEmpty)) : ∃ k, TruV K (.ref p) H k ∧ R k := ⟨_, .inl ⟨xs, SqL.of l, rfl⟩, h⟩
end
/-! ### a walk over a list, a tuple or a text -/
def gIt (K : PySem.W.Frag) (tl : TE) : TI := fun σ H R => tl σ H fun x H1 => (∃ a, x = .ref a ∧ (∃ xs, SqL K H1 a xs) ∧ R (Itl K a) H1) ∨ (∃ a, x = .ref a ∧ (∃ xs, SqT K H1 a xs) ∧ R (Itt K a) H1) ∨ ∃ z, x = .str z ∧ R (Its z) H1
theorem g_it {X : Cx} {K : PySem.W.Frag} {tg l : Expr} {tl : TE} (hl : PE X l tl) (hK : X.K = K := by rfl) : PI X tg l (gIt K tl) := by
  subst hK
  constructor
  intro pins s σ H R I h
  apply thn (hl.run pins s σ H _ I h)
  rintro v s1 ⟨x, H1, I1, r1, q1⟩
  rcases q1 with ⟨a, e, ⟨xs, hq⟩, q⟩ | ⟨a, e, ⟨xs, hq⟩, q⟩ | ⟨z, e, q⟩
  · subst e; cases r1
    obtain ⟨its, rv, pl, hz⟩ := I1.list hq
    apply wpAny_pyIter_list pl.isList
    refine ⟨s1.heap.objs.size, [s1.heap.objs.size], _, _, H1, rfl, I1.kept (t' := s1.toks) fun b o eo => Heap.get?_push_of_some _ eo, turn_list a _, ⟨_, Heap.get?_push_size _ rfl, rfl, rfl⟩, ?_, q⟩
    intro b hb
    obtain rfl : b = s1.heap.objs.size := by simpa using hb
    exact I1.fpOk (Nat.le_refl _) (I1.hok.fresh (Nat.le_refl _))
  · subst e; cases r1
    obtain ⟨its, rv, pl, hz⟩ := I1.tuple hq
    apply wpAny_pyIter_tuple (show s1.heap.IsTuple a its.toArray from pl)
    refine ⟨s1.heap.objs.size, [s1.heap.objs.size], _, _, H1, rfl, I1.kept (t' := s1.toks) fun b o eo => Heap.get?_push_of_some _ eo, turn_tuple a _, ⟨_, Heap.get?_push_size _ rfl, rfl, rfl⟩, ?_, q⟩
    intro b hb
    obtain rfl : b = s1.heap.objs.size := by simpa using hb
    exact I1.fpOk (Nat.le_refl _) (I1.hok.fresh (Nat.le_refl _))
  · subst e
    obtain ⟨t, rfl⟩ := r1
    cases ha : z.cps.all (· < 128)
    · exact wpAny_pyIter_wide ha (pi_one (tk := s1.toks) I1 _ (turn_str _ z t "str_iterator" (.inr rfl)) ⟨_, Heap.get?_push_size _ rfl, rfl, rfl⟩ q)
    · exact wpAny_pyIter_ascii ha (pi_one (tk := s1.toks) I1 _ (turn_str _ z t "str_ascii_iterator" (.inl rfl)) ⟨_, Heap.get?_push_size _ rfl, rfl, rfl⟩ q)

theorem r_gIt {K : PySem.W.Frag} {te : TE} {σ : L2.St} {H : Hp} {R : It → Hp → Prop} (h : te σ H fun x H1 => (∃ a, x = .ref a ∧ (∃ xs, SqL K H1 a xs) ∧ R (Itl K a) H1) ∨ (∃ a, x = .ref a ∧ (∃ xs, SqT K H1 a xs) ∧ R (Itt K a) H1) ∨ ∃ z, x = .str z ∧ R (Its z) H1) : gIt K te σ H R := h

/-! ### defs of the text: where they stand, what they promise -/
/-- the def st stands under the module's name x -/
def FunAt (K : PySem.W.Frag) (mg : Str → Option Value) (x qual : Str) (st : Stmt) : Prop := ∃ f fd, mg x = some (.ref f) ∧ Fun K x qual st f fd
/-- the def under the name x keeps the promise sp -/
structure Cal (P : Program) (w : World) (K : PySem.W.Frag) (mg : Str → Option Value) (base : Heap) (CX : CXT) (k : Nat) (x : Str) (ps : List Str) (sp : Sp) : Prop where
  ex : ∃ f fd, mg x = some (.ref f) ∧ PySem.W.keepIn K (.ref f) = true ∧ (∃ oc od sl, K.lookup f = some ⟨oc, od, .func fd, sl⟩) ∧ Binds K fd ps [] ∧ FnOk P w K mg base CX k f fd ps sp
section
variable {P : Program} {w : World} {K : PySem.W.Frag} {mg : Str → Option Value} {base : Heap} {CX : CXT} {j k : Nat} {x qual : Str} {ps N : List Str} {sp sp' : Sp} {st : Stmt}
theorem Cal.mono (C : Cal P w K mg base CX j x ps sp) (h : j ≤ k) : Cal P w K mg base CX k x ps sp := by
  obtain ⟨f, fd, m, kp, lk, b, F⟩ := C.ex
  exact ⟨f, fd, m, kp, lk, b, F.mono h⟩
theorem Cal.imp (C : Cal P w K mg base CX k x ps sp) (h : ∀ vs H Q E, sp' vs H Q E → sp vs H Q E) : Cal P w K mg base CX k x ps sp' := by
  obtain ⟨f, fd, m, kp, lk, b, F⟩ := C.ex
  exact ⟨f, fd, m, kp, lk, b, F.imp h⟩
/-- THE RULE: a def of the text that lets no exception out -/
theorem def_ok (F : FunAt K mg x qual st) (S : FnScope N ps (defScope st))
    (hb : ∀ (kV doc pm : Value) (an : Option Addr) (cdv ct : Value) (us : List Value), us.length = ps.length → bindArgs (PySem.W.fnOf x qual (defArgs st) (defBody st) (defScope st) .none kV doc pm an cdv ct) ⟨us, []⟩ = pure (ps.zip us))
    (len : ∀ vs H Q E, sp vs H Q E → vs.length = ps.length)
    (body : ∀ (f : Addr) (cdv : Value) (A : Around) (outer : List Env) (s : Shared) (H : Hp) (vs : List V) (Q : VK) (E : XK), Room k (A.deeper (envOfC qual (defScope st) s.heap.objs.size f cdv)) → sp vs H Q E →
      ∃ t, PSs (cxOf CX0 P w K mg base N qual (defScope st) f cdv A outer s H E).nox (defBody st) t ∧ t { nx := fun _ H' => Q .non H', rt := Q } (start N vs) H) : Cal P w K mg base CX0 (k + 1) x ps sp := by
  obtain ⟨f, fd, m, G⟩ := F
  have lk : ∃ oc od sl, K.lookup f = some ⟨oc, od, .func fd, sl⟩ := by
    obtain ⟨oc, od, _, _, _, _, _, _, sl, _, lk, _⟩ := G.ex
    exact ⟨oc, od, sl, lk⟩
  exact ⟨f, fd, m, G.kp, lk, G.binds hb, G.ok S len fun cdv A outer s H vs Q E hr h => body f cdv A outer s H vs Q E hr h⟩
end
/-- the law's own def, at the place where the top has left it -/
theorem Cal.at_ {P : Program} {w : World} {K : PySem.W.Frag} {mg : Str → Option Value} {base : Heap} {CX : CXT} {k : Nat} {x qual : Str} {ps : List Str} {sp : Sp} {st : Stmt} {f : Addr} {fd : FuncData} (C : Cal P w K mg base CX k x ps sp) (m : mg x = some (.ref f)) (F : Fun K x qual st f fd) : FnOk P w K mg base CX k f fd ps sp := by
  obtain ⟨f', fd', m', kp, ⟨oc, od, sl, lk⟩, b, G⟩ := C.ex
  obtain rfl : f' = f := by
    rw [m] at m'
    injection m' with e
    injection e with e
    exact e.symm
  obtain ⟨oc', od', _, _, _, _, _, _, sl', _, lk', _⟩ := F.ex
  rw [lk] at lk'
  injection lk' with e
  injection e with _ _ e _
  injection e with e
  subst e
  exact G
/-- of a promise that asks what cannot be -/
theorem def_none {P : Program} {w : World} {K : PySem.W.Frag} {mg : Str → Option Value} {base : Heap} {CX : CXT} {k : Nat} {x qual : Str} {ps : List Str} {sp : Sp} {st : Stmt} (F : FunAt K mg x qual st)
    (hb : ∀ (kV doc pm : Value) (an : Option Addr) (cdv ct : Value) (us : List Value), us.length = ps.length → bindArgs (PySem.W.fnOf x qual (defArgs st) (defBody st) (defScope st) .none kV doc pm an cdv ct) ⟨us, []⟩ = pure (ps.zip us))
    (no : ∀ vs H Q E, ¬ sp vs H Q E) : Cal P w K mg base CX k x ps sp := by
  obtain ⟨f, fd, m, G⟩ := F
  have lk : ∃ oc od sl, K.lookup f = some ⟨oc, od, .func fd, sl⟩ := by
    obtain ⟨oc, od, _, _, _, _, _, _, sl, _, lk, _⟩ := G.ex
    exact ⟨oc, od, sl, lk⟩
  exact ⟨f, fd, m, G.kp, lk, G.binds hb, ⟨fun vs H Q E h => (no vs H Q E h).elim, fun _ _ _ H _ _ vs Q E _ _ _ _ h => (no vs H Q E h).elim⟩⟩
section
variable {X : Cx} {CX : CXT} {k : Nat} {x : Str} {ps : List Str} {sp : Sp} {E : XK} {p pos : Pos} {e : Expr} {es : List Expr} {t : TA}
/-- a call of such a def -/
theorem g_call (C : Cal X.prog X.w X.K X.mg X.base CX k x ps sp) (hr : Room k X.A) (hg : Gl X x) (hx : Passes CX X E) (ha : PA X (e :: es) t) (hdb : (x == ("__debug__" : Str)) = false := by decide)
    (he : starEach (e :: es) X.env = (false, eval e X.env) :: starEach es X.env := by rfl) (hpl : (backTo pos (starEach es X.env)).any (·.1) = false := by rfl) : PE X (.Call (.Name x p) (e :: es) [] pos) (tCall sp [] E t) := by
  obtain ⟨f, fd, m, kp, lk, b, F⟩ := C.ex
  exact pe_call F hr hg m kp b .nil hx ha hdb he hpl
theorem g_call0 (C : Cal X.prog X.w X.K X.mg X.base CX k x ps sp) (hr : Room k X.A) (hg : Gl X x) (hx : Passes CX X E) (hdb : (x == ("__debug__" : Str)) = false := by decide) : PE X (.Call (.Name x p) [] [] pos) (tCall sp [] E tNil) := by
  obtain ⟨f, fd, m, kp, lk, b, F⟩ := C.ex
  exact pe_call0 F hr hg m kp b .nil hx hdb
/-- a module's number or text -/
theorem g_const {v : V} {u : Value} (hg : Gl X x) (hm : X.mg x = some u) (r : RelV v u) (hd : (x == ("__debug__" : Str)) = false := by decide) : PE X (.Name x pos) (tC v) := pe_glob hg hm r hd
theorem g_cint {i : Int} (hm : ∃ t, X.mg x = some (.int i t)) (hg : Gl X x) (hd : (x == ("__debug__" : Str)) = false := by decide) : PE X (.Name x pos) (tC (.int i)) := by
  obtain ⟨t, m⟩ := hm
  exact pe_glob hg m ⟨t, rfl⟩ hd
theorem g_cstr {z : Str} (hm : ∃ t, X.mg x = some (.str z t)) (hg : Gl X x) (hd : (x == ("__debug__" : Str)) = false := by decide) : PE X (.Name x pos) (tC (.str z)) := by
  obtain ⟨t, m⟩ := hm
  exact pe_glob hg m ⟨t, rfl⟩ hd
end
/-- the heap behind a store -/
theorem upd_at {H : Hp} {a b : Addr} {o : HO} : upd H a o b = if b = a then some o else H b := rfl
/-- what was there before the new object p -/
theorem _root_.L2.Same.laid {H H' : Hp} {p : Addr} {o : HO} (s : Same H H') (n : H' p = none) : Same H (upd H' p o) := fun b u e => by
  rw [upd_ne (ne_of_none (s b u e) n)]; exact s b u e
end G

set_option Elab.async false
set_option linter.all false
set_option maxRecDepth 100000
set_option maxHeartbeats 4000000
/-! Ex: own errors below an own base class (own work). -/
namespace PySem.W
open PySem PySem.Spec PySem.Calls PyProof.Rows
section
variable {prog : Program} {w : World} {A : Around} {E : Value → Shared → Prop} {s : Shared} {K : Frag} {x D : Addr} {ox : Obj} {od : Option Obj}
theorem exfind {a g : Value} {n : Str} (h1 : (clsIn K D).isSome = true) (h2 : findIn K (.ref D) n = some (some a)) (h3 : specialIn K a "__get__" = some (some g)) (h4 : takesIn K a = some true) : findObj K D od n = some (.bind g a) := by
  obtain ⟨c, e⟩ := Option.isSome_iff_exists.mp h1
  unfold findObj
  rw [e, Option.bind_some, h2, Option.bind_some]
  simp [h3, h4]
/-- x.__class__ of an error x, with or without a dict -/
theorem exclass {R : Option Value → Shared → Prop} (g1 : findIn K (.ref D) "__getattribute__" = some (some (.builtin "BaseException.__getattribute__"))) (g2 : findIn K (.ref D) "__getattr__" = some none) (g3 : subIn K (.ref D) (.type "BaseException") = some true)
    (g4 : hasDictIn K D = true) (g5 : findIn K (.ref D) "__class__" = some (some (.builtin "object.__class__"))) (g6 : specialIn K (.builtin "object.__class__") "__get__" = some (some (.builtin "getset_descriptor.__get__")))
    (g7 : takesIn K (.builtin "object.__class__") = some true) (g8 : mroIn K D (.type "object") = some true) (X : K.In s.heap) (J : InstAt s.heap x ox D od) (q : R (some (.ref D)) { s with toks := s.toks + 1 }) :
    wpAny (model prog w) A (getAttr? (.ref x) "__class__") R E s := by
  have fo : findObj K D od "__class__" = some (.bind (.builtin "getset_descriptor.__get__") (.builtin "object.__class__")) := exfind (by obtain ⟨c, e, _⟩ := any_some g4; rw [e]; rfl) g5 g6 g7
  obtain ⟨hh, gg, dd, tt, oo⟩ := s
  have T0 := J.type (M := model prog w)
  have T1 := looks_findIn (M := model prog w) X g1
  have T2 := looks_findIn (M := model prog w) X g2
  have T3 := looks_find (M := model prog w) X J fo
  have TS : Looks (model prog w) hh (isInstance (.ref x) (.type "BaseException")) true := T0.andThen (looks_subIn X g3)
  have b0 : (Value.builtin "BaseException.__getattribute__" == Value.builtin "object.__getattribute__") = false := by decide +kernel
  have b1 : (onTheHeap (Value.ref D) && Value.builtin "BaseException.__getattribute__" == Value.builtin "object.__getattribute__") = false := by rw [b0]; rfl
  have b2 : (false && onTheHeap (Value.builtin "BaseException.__getattribute__")) = false := rfl
  unfold getAttr? getAttrBy? getAttrBy
  apply wpAny_bind
  apply wpAny_mkText
  apply wpAny_bind
  apply wpAny_attempt
  apply wpAny_holding
  apply wpAny_bind
  apply T0.at
  apply wpAny_bind
  apply T1.at
  show wpAny (model prog w) A (if (onTheHeap (Value.ref D) && Value.builtin "BaseException.__getattribute__" == Value.builtin "object.__getattribute__") = true then _ else _) _ _ _
  rw [b1, if_neg Bool.false_ne_true]
  unfold getAttrByItsOwn hookBefore
  apply wpAny_bind
  rw [if_pos (show onTheHeap (Value.ref D) = true from rfl)]
  apply T2.at
  apply wpAny_bind
  apply wpAny_attempt
  apply wpAny_holding
  unfold callGetattribute
  rw [b2, if_neg Bool.false_ne_true]
  unfold boundAndCalled
  rw [PySem.F.excAttr_ValueError.ga.bind (.ref x)]
  apply wpAny_bind
  apply wpAny_pure
  show wpAny (model prog w) _ (call (.builtin "BaseException.__getattribute__") [.ref x, .str "__class__" tt]) _ _ _
  apply wpAny_call
  refine codeAny_call_builtin PySem.F.excAttr_ValueError.ga.plain
    PySem.F.entry_bexc_ga ?_
  refine @check_slot (model prog w) _ _ ⟨hh, gg, dd, tt + 1, oo⟩ "BaseException.__getattribute__" "BaseException" "__getattribute__" (.ref x) [.str "__class__" tt] [] _
    (by decide +kernel) (by decide +kernel) TS (PySem.F.args_bexc_ga (.ref x) (.str "__class__" tt)) ?_
  unfold Builtin.«object.__getattribute__»
  apply wpAny_bind
  refine wpAny_of_eq (a := ((Value.ref x : Value), [Value.str "__class__" tt]))
    (by first | rfl | (simp only [slotArgs]; rfl)) ?_
  apply wpAny_bind
  apply wpAny_pure
  apply wpAny_bind
  apply T0.at
  apply wpAny_bind
  apply T3.at
  show wpAny (model prog w) _ (holding [Value.builtin "object.__class__"] (call (.builtin "getset_descriptor.__get__") [.builtin "object.__class__", .ref x, .ref D]) >>= ret) _ _ _
  apply wpAny_bind
  apply wpAny_holding
  apply wpAny_call
  refine class_get (s := ⟨hh, gg, dd, tt + 1, oo⟩) (ox := ox) (od := od) X J g8 ?_
  apply wpAny_pure
  show wpAny (model prog w) _ (handedOut (.ref D)) _ _ _
  rw [handedOut_of (v := .ref D) rfl]
  first
    | exact wpAny_pure (wpAny_pure q)
    | exact wpAny_pure q
    | exact wpAny_pure (wpAny_bind (wpAny_pure (wpAny_pure q)))
theorem exkit (g1 : findIn K (.ref D) "__getattribute__" = some (some (.builtin "BaseException.__getattribute__"))) (g2 : findIn K (.ref D) "__getattr__" = some none) (g3 : subIn K (.ref D) (.type "BaseException") = some true)
    (g4 : hasDictIn K D = true) (g5 : findIn K (.ref D) "__class__" = some (some (.builtin "object.__class__"))) (g6 : specialIn K (.builtin "object.__class__") "__get__" = some (some (.builtin "getset_descriptor.__get__")))
    (g7 : takesIn K (.builtin "object.__class__") = some true) (g8 : mroIn K D (.type "object") = some true) : KitX K (.ref x) (.ref D) (fun h => InstAt h x ox D od) where
  ty := fun _ _ _ J => J.type
  it := fun _ _ X _ => by
    obtain ⟨c, e, _⟩ := any_some g4
    unfold clsIn at e
    split at e
    · rename_i h1
      intro A' R' E' s' kk qq
      unfold isType loadHead
      exact wpAny_bind (wpAny_loadPart (kk _ _ (X _ _ h1)) (wpAny_pure qq))
    · cases e
  ne := fun h tp d1 its n sl X ht => by
    obtain ⟨c, e, _⟩ := any_some g4
    apply Bool.eq_false_iff.mpr
    intro z
    obtain rfl : D = tp := Value.ref.inj (beq_iff_eq.mp z)
    unfold clsIn at e
    split at e
    · rename_i h1
      cases (X _ _ h1).symm.trans ht
    · cases e
  ca := fun X J k => exclass g1 g2 g3 g4 g5 g6 g7 g8 X J k
end
end PySem.W
namespace G
open PySem PySem.Spec PyProof.Rows L2
/-- what the text says of an error class below the base B (whose __init__ is ValueError's) -/
structure ExK (K : PySem.W.Frag) (C : Addr) : Prop where
  ox : OexC K C
  ga : PySem.W.findIn K (.ref C) "__getattribute__" = some (some (.builtin "BaseException.__getattribute__"))
  gg : PySem.W.findIn K (.ref C) "__getattr__" = some none
  hd : PySem.W.hasDictIn K C = true
  cl : PySem.W.findIn K (.ref C) "__class__" = some (some (.builtin "object.__class__"))
  sp : PySem.W.specialIn K (.builtin "object.__class__") "__get__" = some (some (.builtin "getset_descriptor.__get__"))
  tk : PySem.W.takesIn K (.builtin "object.__class__") = some true
  mo : PySem.W.mroIn K C (.type "object") = some true
/-- the base class, whose __init__ is read off it -/
structure ExB (K : PySem.W.Frag) (B : Addr) : Prop where
  ga : PySem.W.specialIn K (.ref B) "__getattribute__" = some (some (.builtin "type.__getattribute__"))
  rd : PySem.W.readsIn K B (.type "type") = true
  it : PySem.W.findCls K (.ref B) (.type "type") "__init__" = some (.val (.builtin "ValueError.__init__"))
section
variable {X : Cx} {K : PySem.W.Frag} {B : Addr} {x : Str} {e : Expr} {es : List Expr} {ta : TA} {p1 p2 pos : Pos}
/-- Base.__init__(self, ..) -/
theorem pe_binit {pl : Sem Bool} (hK : X.K = K) (b : ExB K B) (hm : X.mg x = some (.ref B)) (hg : Gl X x) (ha : PA X (e :: es) ta) (hdb : (x == ("__debug__" : Str)) = false := by decide)
    (hc : eval (.Call (.Attribute (.Name x p1) "__init__" p2) (e :: es) [] pos) X.env = (do
      let ov ← eval (.Name x p1) X.env
      standAt p2.atName
      let (f, first) ← holding [ov] (getMethod ov "__init__" pl)
      callWith pos f first (backTo pos (starEach (e :: es) X.env)) (backToKw pos (keywordEach [] X.env))) := by rfl)
    (he : starEach (e :: es) X.env = (false, eval e X.env) :: starEach es X.env := by rfl) (hpl : (backTo pos (starEach es X.env)).any (·.1) = false := by rfl) :
    PE X (.Call (.Attribute (.Name x p1) "__init__" p2) (e :: es) [] pos) (tVeI K ta) := by
  subst hK
  constructor
  intro pins s σ H Q I h
  refine PySem.W.methodCall_KW (ld_glob I hg hm ?_ hdb) hc
  refine PySem.W.method_cls I.kIn b.ga (PySem.W.cls_value I.kIn b.rd b.it (by decide +kernel) ?_)
  refine PyProof.Rows.callWith_method1 (thn (ha.run pos pins _ σ H _ (I.tok _) h) ?_) he hpl
  rintro us s1 ⟨vs, H1, I1, r1, a, C, ws, ev, hl, T, ea, q⟩
  subst ev
  cases r1 with
  | @cons _ u0 _ ur ra rw' =>
    obtain rfl : u0 = Value.ref a := ra
    refine oinit_ok T I1 ea ?_ fun s' J => ⟨.non, H1, J, rfl, q⟩
    have z := Paired.length rw'
    rw [line_val]
    omega
/-- isinstance(e, c), e the error that the suite holds, at a; its class cls, its dict d -/
def gIsE (K : PySem.W.Frag) (a : Addr) (cls : Value) (d : Option Addr) : List V → Hp → VK → Prop := fun xs H Q => ∃ (c : V) (cv : Value) (D dd : Addr) (fs : List (Str × V)) (b : Bool), xs = [.ref a, c] ∧ ClsV c cv ∧ cls = .ref D ∧ ExK K D ∧ d = some dd ∧ H dd = some (.xd fs) ∧ PySem.W.kitOne K (.ref D) cv = some b ∧ Q (.bl b) H
theorem inst_of {a D dd : Addr} {oe : Obj} {pn pins : List (Addr × Obj)} {σ : L2.St} {H : Hp} {s : Shared} {fs : List (Str × V)} (I : Inv (X.suite a ((a, oe) :: pn)) pins σ H s) (hz : Zc (.ref D) (some dd) oe) (hf : ∃ vs, oe.data = .fields vs) (ed : H dd = some (.xd fs)) :
    ∃ od, PySem.W.InstAt s.heap a oe D (some od) := by
  obtain ⟨hget, _⟩ := I.pin (a, oe) (List.mem_append.mpr (.inl List.mem_cons_self))
  obtain ⟨vs, hv⟩ := hf
  obtain ⟨mA, hns, _⟩ := (show ObjOk X.prog X.w H s.heap dd (.xd fs) from I.hok dd _ ed)
  obtain ⟨od, ho, _⟩ := lookIn_ns hns
  exact ⟨od, hget, hz.1, by unfold PySem.W.notCls; rw [hv] <;> rfl, by rw [hz.2]; exact ho⟩
theorem call_isE' {a : Addr} {oe : Obj} {cls : Value} {d : Option Addr} {pn : List (Addr × Obj)} (hz : Zc cls d oe) (hf : ∃ vs, oe.data = .fields vs) (hK : X.K = K) : CallR (X.suite a ((a, oe) :: pn)) (.builtin "isinstance") (gIsE K a cls d) := by
  subst hK
  intro pins s σ H xs us Q I r h
  obtain ⟨c, cv, D, dd, fs, b, rfl, hcv, rfl, T, rfl, ed, e, q⟩ := h
  cases r with
  | cons rx rr =>
    cases rr with
    | cons rt rr =>
      cases rr
      cases rx
      have ec := hcv.eq rt
      subst ec
      obtain ⟨od, J⟩ := inst_of I hz hf ed
      exact PySem.W.kia_one (PySem.W.exkit T.ga T.gg T.ox.exC T.hd T.cl T.sp T.tk T.mo) I.kIn J e (fun z => nomatch z) fun tk => ⟨.bl b, H, I.kept (t' := tk) fun _ _ z => z, rfl, q⟩
/-- e.f -/
def tXfE (K : PySem.W.Frag) (a : Addr) (cls : Value) (d : Option Addr) (f : Str) (te : TE) : TE := fun σ H Q => te σ H fun x H1 => ∃ (D dd : Addr) (fs : List (Str × V)) (v : V), x = .ref a ∧ cls = .ref D ∧ ExK K D ∧ PySem.W.findIn K (.ref D) f = some none ∧ d = some dd ∧ H1 dd = some (.xd fs) ∧ fs.lookup f = some v ∧ Q v H1
theorem pe_xfE {a : Addr} {oe : Obj} {cls : Value} {d : Option Addr} {pn : List (Addr × Obj)} {e : Expr} {te : TE} {pos : Pos} {n : Str} (hz : Zc cls d oe) (hf : ∃ vs, oe.data = .fields vs) (hK : X.K = K) (he : PE (X.suite a ((a, oe) :: pn)) e te)
    (hb : attributeBase e n X.env (eval e X.env) = eval e X.env := by rfl) : PE (X.suite a ((a, oe) :: pn)) (.Attribute e n pos) (tXfE K a cls d n te) := by
  subst hK
  constructor
  intro pins s σ H Q I h
  apply attr_of hb
  apply thn (he.run pins s σ H _ I h)
  rintro u s1 ⟨x, H1, I1, rx, D, dd, fs, v, ex, rfl, T, hno, rfl, ed, l, q⟩
  subst ex
  obtain rfl : u = Value.ref a := rx
  obtain ⟨ha, _⟩ := I1.pin (a, oe) (List.mem_append_left _ List.mem_cons_self)
  obtain ⟨vs, hd⟩ := hf
  obtain ⟨mA, hns, hr⟩ := (show ObjOk X.prog X.w H1 s1.heap dd (.xd fs) from I1.hok dd _ ed)
  obtain ⟨od, ho, hl⟩ := lookIn_ns hns
  obtain ⟨u, hu, ru⟩ := RelO.some_of (v := v) (o := mA n) (by rw [← l]; exact hr n)
  have J : PySem.W.InstAt s1.heap a oe D (some od) := ⟨ha, hz.1, by unfold PySem.W.notCls; rw [hd] <;> rfl, by rw [hz.2]; exact ho⟩
  exact HandSPX.exc_get I1.kIn J T.ga T.gg T.ox.exC (PySem.W.findObj_own T.hd hno rfl (by rw [hl, hu])) (handed_of ru) ⟨v, H1, I1.tok _, ru, q⟩
end
end G
namespace G
open PySem PySem.Spec PyProof.Rows L2
/-! ### raise C(e) -/
/-- what C's own __init__ is to do with a new error -/
def MkIs (C : Addr) (sp : Sp) (vs : List V) (H1 : Hp) (Q : XK) : Prop := vs.length ≤ 1000 ∧ ∀ a, H1 a = none → sp (.ref a :: (vs ++ [])) (upd H1 a (exo a C none))
  (fun v H2 => v = .non ∧ ∃ (d : Addr) (fs : List (Str × V)), H2 a = some (exo a C (some d)) ∧ H2 d = some (exd d fs) ∧ H1 d = none ∧ Q (.ref C) (some d) (upd (del H2 a) d (.xd fs))) (fun _ _ _ => False)
def tRs (t : L2.St → Hp → XK → Prop) (W : WX) : TS := fun _ σ H => t σ H fun cls d H' => W cls d σ H'
theorem g_raise {X : Cx} {W : WX} {e : Expr} {t : L2.St → Hp → XK → Prop} {pos : Pos} (hc : X.calm = true) (tk : Takes X W) (he : PMk X e t) : PS X (.Raise (some e) none pos) (tRs t W) := ps_raise hc tk he
theorem r_rs {C : Addr} {sp : Sp} {ta : TA} {W : WX} {D : Ends} {σ : L2.St} {H : Hp} (h : ta σ H fun vs H1 => MkIs C sp vs H1 (fun cls d H' => W cls d σ H')) : tRs (tMkO C sp [] ta) W D σ H := h
/-- the error class under the name x, at C; its __init__ keeps sp -/
structure ExCal (P : Program) (w : World) (K : PySem.W.Frag) (mg : Str → Option Value) (base : Heap) (CX : CXT) (k : Nat) (x : Str) (C : Addr) (ps : List Str) (sp : Sp) : Prop where
  at_ : mg x = some (.ref C)
  ex : ExK K C
  ini : ∃ f fd, PySem.W.findIn K (.ref C) "__init__" = some (some (.ref f)) ∧ PySem.W.typeIn K (.ref f) = some (.type "function") ∧ Binds K fd ps [] ∧ FnOk P w K mg base CX k f fd ps sp
theorem g_mkex {X : Cx} {k : Nat} {x : Str} {C : Addr} {ps : List Str} {sp : Sp} {p pos : Pos} {e : Expr} {es : List Expr} {ta : TA} (c : ExCal X.prog X.w X.K X.mg X.base CX0 k x C ps sp) (hr : Room (k + 1) X.A) (hg : Gl X x) (ha : PA X (e :: es) ta)
    (hdb : (x == ("__debug__" : Str)) = false := by decide) (he : starEach (e :: es) X.env = (false, eval e X.env) :: starEach es X.env := by rfl) (hpl : (backTo pos (starEach es X.env)).any (·.1) = false := by rfl) :
    PMk X (.Call (.Name x p) (e :: es) [] pos) (tMkO C sp [] ta) := by
  obtain ⟨f, fd, h1, h2, hb, F⟩ := c.ini
  exact pmk_oex c.ex.ox h1 h2 F hr hb .nil pass0 hg c.at_ ha hdb he hpl
/-- an error's field may be an int or a text -/
def FmtV : V → Prop
  | .int i => i.natAbs.log2 < 1920
  | .str z => z.length ≤ 1000
  | _ => False
/-- the __init__ that calls the base's and stores its one argument -/
def spExI (C : Addr) (f : Str) : Sp := fun vs H Q _ => ∃ (a : Addr) (v : V), vs = [.ref a, v] ∧ H a = some (exo a C none) ∧ FmtV v ∧ ∀ dx H', H' a = some (exo a C (some dx)) → H' dx = some (exd dx [(f, v)]) → H dx = none → dx ≠ a → (∀ b, b ≠ a → b ≠ dx → H' b = H b) → Q .non H'
/-- an error of the class at C with the field f leaves the heap H -/
def Lets (C : Addr) (f : Str) (v : V) (H : Hp) (Q : XK) : Prop := ∀ d H', Same H H' → H d = none → H' d = some (.xd [(f, v)]) → Q (.ref C) (some d) H'
theorem mk_is {C : Addr} {f : Str} {v : V} {H : Hp} {Q : XK} (hv : FmtV v) (k : Lets C f v H Q) : MkIs C (spExI C f) [v] H Q := by
  refine ⟨by show 1 ≤ 1000; decide, fun a ha => ⟨a, v, rfl, upd_same, hv, fun dx H' h1 h2 h3 h4 h5 => ⟨rfl, dx, _, h1, h2, ?_, k dx _ (fun b o e => ?_) ?_ upd_same⟩⟩⟩
  · rw [upd_ne h4] at h3; exact h3
  · have nba : b ≠ a := ne_of_none e ha
    have nbd : b ≠ dx := fun z => by
      rw [z] at e
      rw [upd_ne h4, e] at h3
      cases h3
    rw [upd_ne nbd, del_ne nba, h5 b nba nbd, upd_ne nba]
    exact e
  · rw [upd_ne h4] at h3; exact h3
/-! f-strings -/
theorem r_fmtI {te : TE} {σ : L2.St} {H : Hp} {Q : VK} (h : te σ H fun x H1 => (∃ y : Str, x = .str y ∧ y.length ≤ sizeLine ∧ Q (.str y) H1) ∨ ∃ i : Int, x = .int i ∧ i.natAbs.log2 < 1920 ∧ Q (.str (toString i)) H1) : tFmt te σ H Q := h
/-- the field's store in such an __init__, and the base's __init__: their readings -/
theorem r_vei {K : PySem.W.Frag} {ta : TA} {σ : L2.St} {H : Hp} {Q : VK} (h : ta σ H fun vs H1 => ∃ (a C : Addr) (ws : List V), vs = .ref a :: ws ∧ ws.length ≤ 1000 ∧ OexC K C ∧ H1 a = some (exo a C none) ∧ Q .non H1) : tVeI K ta σ H Q := h
theorem ost_K {X : Cx} {K : PySem.W.Frag} {st : Stmt} {to te : TE} {f : Str} (h : PS X st (tOst X.K f to te)) (hK : X.K = K := by rfl) : PS X st (tOst K f to te) := by subst hK; exact h
/-- the two statements of such an __init__ -/
theorem exinit_reads {K : PySem.W.Frag} {C : Addr} {f : Str} {tj : TE} {vs : List V} {H : Hp} {Q : VK} {E : XK} (hx : ExK K C) (hno : PySem.W.findIn K (.ref C) f = some none) (h : spExI C f vs H Q E)
    (hj : ∀ (a : Addr) (v : V) (H : Hp) (R : VK), FmtV v → (∀ z : Str, R (.str z) H) → tj [some (.ref a), some v] H R) :
    tSeq (tDrop (tVeI K (tCons (tVar 0) (tCons tj tNil)))) (tOst K f (tVar 0) (tVar 1)) { nx := fun _ H' => Q .non H', rt := Q } (L2.start ["self", "at"] vs) H := by
  obtain ⟨a, v, rfl, ha, hv, k⟩ := h
  refine ⟨.ref a, rfl, hj a v H _ hv fun z => ⟨a, C, [.str z], rfl, (by show 1 ≤ 1000; decide), hx.ox, ha, ?_⟩⟩
  refine ⟨v, rfl, .ref a, rfl, a, C, rfl, hx.ox, hno, .inl ⟨ha, fun dx hdx hne => k dx _ upd_same ?_ hdx hne fun b n1 n2 => ?_⟩⟩
  · rw [upd_ne hne, upd_same]
  · rw [upd_ne n1, upd_ne n2]
end G

set_option Elab.async false
set_option linter.all false
set_option maxRecDepth 100000
set_option maxHeartbeats 4000000
/-! Es: sets of tuples made of a tuple, their size; own ==; new objects whose __init__ may raise (own work). -/
namespace G
open PySem PySem.Spec PyProof.Rows L2 TS
section
variable {P : Program} {w : World} {A : Around} {E : Value → Shared → Prop} {s : Shared}
/-- the new set -/
abbrev ns0 (w : World) : Obj := { cls := .type "set", dict := none, data := .set #[] 0 (.fresh 0 0 (!w.params.followText "set-order")) }
set_option maxHeartbeats 6400000 in
/-- set(t), t a tuple of tuples of ints -/
theorem set_tup {l : Addr} {items : Array Value} (ks : List (Addr × List Int)) {Q : Value → Shared → Prop} (hh : A.handled = none) (hl : s.heap.IsTuple l items) (hit : items.toList = ks.map fun p => Value.ref p.1)
    (hk : ∀ p ∈ ks, IsT P w s.heap p.2 p.1) (hfew : ks.length < 64) (hu : A.units + 3 < cLine)
    (h : ∀ (h' : Heap) (tk : Nat) L es ep t, SetTR P w h' s.heap.objs.size L es ep t → Got ks ks.length L → (∀ b o, s.heap.get? b = some o → h'.get? b = some o) → Q (.ref s.heap.objs.size) { s with heap := h', toks := tk }) :
    wpAny (model P w) A (call (.type "set") [.ref l]) Q E s := by
  have n1 : items.size = ks.length := by
    have q := congrArg List.length hit
    rwa [Array.length_toList, List.length_map] at q
  obtain ⟨cc, tl, hmro⟩ := F.called_set.mro
  have m1 := F.called_set.made
  have m2 := F.called_set.sub
  apply wpAny_call
  apply codeAny_of_tree
  show wpAny (model P w) _ (callAny (.type "set") _) _ _ _
  apply wpAny_pure
  refine ⟨Code.quiet_builtin _ (by decide +kernel), ?_⟩
  apply codeAny_builtin F.entry_type_call
  rw [Around.under_plain
    (weight_type_call_type "set" [.ref l] []) rfl]
  have m3 := F.called_set.notType
  have m4 := F.called_set.canCreate
  have m5 := F.typeCall_set_1 (.ref l)
  repeat (any_goals (first | assumption | wp_step))
  refine codeAny_mono (code_set_led1 (.ref l) (E := E)
    (Q₁ := fun ob s1 => ob = .ref s.heap.objs.size ∧ s1 = { s with heap := s.heap.push (ns0 w) }) ⟨rfl, rfl⟩) ?_
  intro r s1 hr
  cases r with
  | error e => exact hr
  | ok fl =>
    cases fl with
    | next => exact hr.elim
    | brk => exact hr.elim
    | cont => exact hr.elim
    | ret ob =>
      obtain ⟨rfl, rfl⟩ := hr
      have z0 : (s.heap.push (ns0 w)).get? s.heap.objs.size = some (ns0 w) := Heap.get?_push_size _ rfl
      have zT : Shared.TypeIs { s with heap := s.heap.push (ns0 w) } (.ref s.heap.objs.size) "set" := ⟨_, z0, rfl⟩
      have m6 := F.called_set.init.lookup
      have m7 := F.called_set.init.bind (.ref s.heap.objs.size)
      repeat (any_goals (first | assumption | wp_step))
      refine codeAny_mono (codeAny_call_builtin
        (R := wants (fun r s2 => r = .none ∧ ∃ h' tk L es ep t, s2 = { s with heap := h', toks := tk } ∧ SetTR P w h' s.heap.objs.size L es ep t ∧ Got ks ks.length L ∧ (∀ b o, s.heap.get? b = some o → h'.get? b = some o)) E)
        F.called_set.init.plain F.entry_set_init (check_set_init_1 zT ?_)) ?_
      · obtain ⟨⟨k1, k2, k3, k4⟩, hol, hcl, nl, hdl⟩ := hl
        simp only at hcl hdl
        subst hcl
        subst hdl
        have y1 : (s.heap.push (ns0 w)).get? l = some { cls := .type "tuple", dict := k2, data := .seq items nl, slots := k4 } := Heap.get?_push_of_some _ hol
        have m8 := F.sub_tuple_set
        have m9 := F.sub_tuple_frozenset
        have ne1 : (Value.type "tuple" == Value.type "dict") = false := by decide
        have y2 : (s.heap.push (ns0 w)).IsTuple l items := ⟨_, y1, rfl, nl, rfl⟩
        unfold Builtin.«set.__init__» noKeywords Builtin.Frozenset.updateFrom
        generalize gP : pyIter = PI
        wp_walk
        subst gP
        apply wpAny_pyIter_tuple y2
        apply wpAny_bind
        apply wpAny_runValue
        have l1 : l < s.heap.objs.size := Heap.lt_size hol
        have l2 : A.in1.in1.in1.handled = none := by simp [hh]
        have l3 : (s.heap.push (ns0 w)).objs.size = s.heap.objs.size + 1 := Heap.size_push ..
        have l4 : l ≠ (s.heap.push (ns0 w)).objs.size := by rw [l3]; exact Nat.ne_of_lt (Nat.lt_succ_of_lt l1)
        have l5 : s.heap.objs.size ∉ [(s.heap.push (ns0 w)).objs.size, l] := by
          rw [l3]
          simp only [List.mem_cons, List.not_mem_nil, or_false, not_or]
          exact ⟨Nat.ne_of_lt (Nat.lt_succ_self _), fun z => absurd l1 (by rw [z]; exact Nat.lt_irrefl _)⟩
        have v1 : ∀ (i : Nat) (v : Value), items[i]? = some v → ∃ p, ks[i]? = some p ∧ v = .ref p.1 := by
          intro i v hv
          have q : items.toList[i]? = some v := by rwa [Array.getElem?_toList]
          rw [hit, List.getElem?_map] at q
          cases z : ks[i]? with
          | none => rw [z] at q; cases q
          | some p => rw [z] at q; exact ⟨p, rfl, (Option.some.inj q).symm⟩
        have v2 : ∀ b, s.heap.objs.size ≤ b → s.heap.get? b = none := by
          intro b hb
          cases q : s.heap.get? b with
          | none => rfl
          | some o => exact absurd (Nat.lt_of_lt_of_le (Heap.lt_size q) hb) (Nat.lt_irrefl _)
        refine set_update_tups ((Walks.tuple l2 _ l l4 items).toS) s.heap.objs.size l5 ks n1 hfew v1 s.heap hk (v2 _ (Nat.le_refl _))
          (fun b hb => v2 b (by rw [List.mem_singleton.mp hb, l3]; exact Nat.le_succ _)) hu
          (items.size - 0) 0 _ (by omega) (Nat.zero_le _) ⟨⟨_, Heap.get?_push_size _ rfl, rfl, rfl⟩, (y2.push _)⟩
          (fun b o e => Heap.get?_push_of_some _ (Heap.get?_push_of_some _ e)) ?_ ?_
        · exact ⟨[], #[], 0, _, setTR_fresh (Heap.get?_push_of_some _ z0), Got.zero ks⟩
        · intro s' L es ep t hm q1 q2 q3
          obtain ⟨h', g2, d', tk', os'⟩ := s'
          obtain rfl : g2 = s.gens := hm.gens
          obtain rfl : d' = s.drawn := hm.drawn
          obtain rfl : os' = s.os := hm.os
          show wpAny (model P w) _ _ _ _ _
          apply wpAny_pure
          show wpAny (model P w) _ (ret Value.none) _ _ _
          rw [n1] at q2
          exact wpAny_pure ⟨rfl, h', tk', L, es, ep, t, rfl, q1, q2, q3⟩
      · intro r2 s2 hr2
        cases r2 with
        | error e => exact hr2
        | ok f2 =>
          cases f2 with
          | next => exact hr2.elim
          | brk => exact hr2.elim
          | cont => exact hr2.elim
          | ret r =>
            obtain ⟨rfl, h', tk, L, es, ep, t, rfl, q1, q2, q3⟩ := hr2
            repeat (any_goals (first | assumption | wp_step))
            exact h _ _ _ _ _ _ q1 q2 q3
/-- len(set(t)) -/
theorem len_set {L : List (Addr × List Int)} {a : Addr} {es : Array (Int × Value)} {ep : Nat} {t : SetTable} {Q : Value → Shared → Prop} (R : SetTR P w s.heap a L es ep t) (h : Q (.int (L.length : Nat) (s.toks + 1)) { s with toks := s.toks + 1 + 1 }) :
    wpAny (model P w) A (call (.builtin "len") [.ref a]) Q E s := by
  obtain ⟨o, ho, hex, hd⟩ := R.ob
  have e : es.size = L.length := by
    have z := congrArg List.length R.rows
    unfold rowsOf at z
    rwa [Array.length_toList, List.length_map] at z
  rw [← e] at h
  exact call_len_set ho hex hd R.fits (by rw [e]; have := R.few; omega) h
end
section
variable {X : Cx} {K : PySem.W.Frag}
/-- the expression len(set(t)), t a tuple of tuples of ints: the number of distinct ones -/
def tLenSetT (K : PySem.W.Frag) (ta : TE) : TE := fun σ H Q => ta σ H fun x H1 => ∃ (l : Addr) (ks : List (Addr × List Int)), x = V.ref l ∧ SqT K H1 l (ks.map fun p => V.ref p.1) ∧ (∀ p ∈ ks, SqT K H1 p.1 (p.2.map V.int)) ∧ ks.length < 64 ∧
  ∀ n : Nat, (∃ L : List (List Int), L.Nodup ∧ L.length = n ∧ (∀ k, k ∈ L ↔ k ∈ ks.map (·.2))) → Q (.int n) H1
theorem pe_lenSetT {a : Expr} {ta : TE} {p p2 q pos : Pos} (hc : X.calm = true) (hg : Gl X "len") (hm : X.mg "len" = none) (hg2 : Gl X "set") (hm2 : X.mg "set" = none) (hu : X.A.units + 64 < cLine) (ha : PE X a ta)
    (na : starEach [a] X.env = (false, eval a X.env) :: starEach [] X.env := by rfl) (hK : X.K = K := by rfl) : PE X (.Call (.Name "len" p) [.Call (.Name "set" p2) [a] [] q] [] pos) (tLenSetT K ta) := by
  subst hK
  constructor
  intro pins s σ H Q I h
  refine Call_ (ld_blt I hg hm PySem.boot_len ?_)
  refine PyProof.Rows.callWith_builtin1 (PyProof.Rows.args_cons ?_ rfl) rfl rfl
  refine Call_ (ld_blt I hg2 hm2 PyProof.Rows.boot_set ?_)
  refine PyProof.Rows.callWith_type1 (PyProof.Rows.args_cons (thn (ha.run pins s σ H _ I h) ?_) na) na rfl
  rintro v s1 ⟨x, H1, I1, r1, l, ks, rfl, hq, hk, hf, q1⟩
  apply PyProof.Rows.args_nil
  cases r1
  obtain ⟨its, r, ⟨o, ho, hcl, n, hd⟩, hz⟩ := I1.tuple hq
  refine set_tup (P := X.prog) (w := X.w) ks (I1.ok.hd hc) ⟨o, ho, hcl, n, hd⟩ (by simpa using refs_of_vals r) (fun p hp => I1.isT (hk p hp)) hf (by omega) ?_
  intro h' tk L es ep t R g k
  apply PyProof.Rows.args_nil
  refine len_set R ⟨.int (L.length : Nat), H1, ?_, ⟨_, rfl⟩, q1 _ ⟨L.map (·.2), R.nd, by rw [List.length_map], fun k => ⟨fun hm => ?_, fun hm => ?_⟩⟩⟩
  · exact (I1.kept (t' := tk) k).tok _
  · obtain ⟨p, hp, rfl⟩ := List.mem_map.mp hm
    exact List.mem_map_of_mem (List.mem_of_mem_take (g.sub p hp))
  · obtain ⟨p, hp, rfl⟩ := List.mem_map.mp hm
    exact g.all p (by rw [List.take_length]; exact hp)
end
end G

set_option Elab.async false
set_option linter.all false
set_option maxRecDepth 100000
set_option maxHeartbeats 4000000
/-! Rs: defs that raise (errors without context), try, except suites, methods, own ==, data of any depth (own work). -/
namespace G
open PySem PySem.Spec PyProof.Rows L2
abbrev HX (P : Program) (w : World) : CXT := L2N.CX P w
/-- the def st is the method m of the class at C -/
def MetAt (K : PySem.W.Frag) (C : Addr) (m qual : Str) (st : Stmt) : Prop := ∃ f fd, PySem.W.findIn K (.ref C) m = some (some (.ref f)) ∧ PySem.W.isFn K (.ref f) = true ∧ Fun K m qual st f fd
/-- the method m of the class at C keeps the promise sp -/
structure MCal (P : Program) (w : World) (K : PySem.W.Frag) (mg : Str → Option Value) (base : Heap) (CX : CXT) (k : Nat) (C : Addr) (m : Str) (ps : List Str) (sp : Sp) : Prop where
  ex : ∃ f fd, Meth K C m f ∧ Binds K fd ps [] ∧ FnOk P w K mg base CX k f fd ps sp
section
variable {P : Program} {w : World} {K : PySem.W.Frag} {mg : Str → Option Value} {base : Heap} {CX : CXT} {j k : Nat} {x qual m : Str} {ps N : List Str} {sp sp' : Sp} {st : Stmt} {C : Addr}
theorem MCal.mono (c : MCal P w K mg base CX j C m ps sp) (h : j ≤ k) : MCal P w K mg base CX k C m ps sp := by
  obtain ⟨f, fd, a, b, F⟩ := c.ex
  exact ⟨f, fd, a, b, F.mono h⟩
theorem MCal.imp (c : MCal P w K mg base CX k C m ps sp) (h : ∀ vs H Q E, sp' vs H Q E → sp vs H Q E) : MCal P w K mg base CX k C m ps sp' := by
  obtain ⟨f, fd, a, b, F⟩ := c.ex
  exact ⟨f, fd, a, b, F.imp h⟩
/-- a method that lets no exception out -/
theorem met_ok (F : MetAt K C m qual st) (S : FnScope N ps (defScope st))
    (hb : ∀ (kV doc pm : Value) (an : Option Addr) (cdv ct : Value) (us : List Value), us.length = ps.length → bindArgs (PySem.W.fnOf m qual (defArgs st) (defBody st) (defScope st) .none kV doc pm an cdv ct) ⟨us, []⟩ = pure (ps.zip us))
    (len : ∀ vs H Q E, sp vs H Q E → vs.length = ps.length)
    (body : ∀ (f : Addr) (cdv : Value) (A : Around) (outer : List Env) (s : Shared) (H : Hp) (vs : List V) (Q : VK) (E : XK), Room k (A.deeper (envOfC qual (defScope st) s.heap.objs.size f cdv)) → sp vs H Q E →
      ∃ t, PSs (cxOf CX0 P w K mg base N qual (defScope st) f cdv A outer s H E).nox (defBody st) t ∧ t { nx := fun _ H' => Q .non H', rt := Q } (start N vs) H) : MCal P w K mg base CX0 (k + 1) C m ps sp := by
  obtain ⟨f, fd, a, i, G⟩ := F
  exact ⟨f, fd, ⟨a, i, G.kp⟩, G.binds hb, G.ok S len fun cdv A outer s H vs Q E hr h => body f cdv A outer s H vs Q E hr h⟩
/-- a def that may raise -/
theorem fn_okX {f : Addr} {fd : FuncData} (F : Fun K x qual st f fd) (S : FnScope N ps (defScope st)) (len : ∀ vs H Q E, sp vs H Q E → vs.length = ps.length)
    (hbody : ∀ (cdv : Value) (A : Around) (outer : List Env) (s : Shared) (H : Hp) (vs : List V) (Q : VK) (E : XK), Room k (A.deeper (envOfC qual (defScope st) s.heap.objs.size f cdv)) → sp vs H Q E →
      ∃ t, PSs (cxOf (HX P w) P w K mg base N qual (defScope st) f cdv A outer s H E) (defBody st) t ∧ t { nx := fun _ H' => Q .non H', rt := Q } (start N vs) H) : FnOk P w K mg base (HX P w) (k + 1) f fd ps sp := by
  obtain ⟨oc, od, kV, doc, pm, an, cdv, ct, osl, rfl, lk, hcd⟩ := F.ex
  exact fn_of lk hcd S len fun A outer s H vs Q E hr hsp => hbody cdv A outer s H vs Q E hr hsp
theorem def_okX (F : FunAt K mg x qual st) (S : FnScope N ps (defScope st))
    (hb : ∀ (kV doc pm : Value) (an : Option Addr) (cdv ct : Value) (us : List Value), us.length = ps.length → bindArgs (PySem.W.fnOf x qual (defArgs st) (defBody st) (defScope st) .none kV doc pm an cdv ct) ⟨us, []⟩ = pure (ps.zip us))
    (len : ∀ vs H Q E, sp vs H Q E → vs.length = ps.length)
    (body : ∀ (f : Addr) (cdv : Value) (A : Around) (outer : List Env) (s : Shared) (H : Hp) (vs : List V) (Q : VK) (E : XK), Room k (A.deeper (envOfC qual (defScope st) s.heap.objs.size f cdv)) → sp vs H Q E →
      ∃ t, PSs (cxOf (HX P w) P w K mg base N qual (defScope st) f cdv A outer s H E) (defBody st) t ∧ t { nx := fun _ H' => Q .non H', rt := Q } (start N vs) H) : Cal P w K mg base (HX P w) (k + 1) x ps sp := by
  obtain ⟨f, fd, m, G⟩ := F
  have lk : ∃ oc od sl, K.lookup f = some ⟨oc, od, .func fd, sl⟩ := by
    obtain ⟨oc, od, _, _, _, _, _, _, sl, _, lk, _⟩ := G.ex
    exact ⟨oc, od, sl, lk⟩
  exact ⟨f, fd, m, G.kp, lk, G.binds hb, fn_okX G S len fun cdv A outer s H vs Q E hr h => body f cdv A outer s H vs Q E hr h⟩
theorem met_okX (F : MetAt K C m qual st) (S : FnScope N ps (defScope st))
    (hb : ∀ (kV doc pm : Value) (an : Option Addr) (cdv ct : Value) (us : List Value), us.length = ps.length → bindArgs (PySem.W.fnOf m qual (defArgs st) (defBody st) (defScope st) .none kV doc pm an cdv ct) ⟨us, []⟩ = pure (ps.zip us))
    (len : ∀ vs H Q E, sp vs H Q E → vs.length = ps.length)
    (body : ∀ (f : Addr) (cdv : Value) (A : Around) (outer : List Env) (s : Shared) (H : Hp) (vs : List V) (Q : VK) (E : XK), Room k (A.deeper (envOfC qual (defScope st) s.heap.objs.size f cdv)) → sp vs H Q E →
      ∃ t, PSs (cxOf (HX P w) P w K mg base N qual (defScope st) f cdv A outer s H E) (defBody st) t ∧ t { nx := fun _ H' => Q .non H', rt := Q } (start N vs) H) : MCal P w K mg base (HX P w) (k + 1) C m ps sp := by
  obtain ⟨f, fd, a, i, G⟩ := F
  exact ⟨f, fd, ⟨a, i, G.kp⟩, G.binds hb, fn_okX G S len fun cdv A outer s H vs Q E hr h => body f cdv A outer s H vs Q E hr h⟩
end
section
variable {X : Cx} {CX : CXT} {k : Nat} {C : Addr} {x m : Str} {ps : List Str} {sp : Sp} {W : WX} {p pos apos : Pos} {e o : Expr} {es : List Expr} {t : TA} {to : TE} {pl : Sem Bool}
theorem takesE (hs : X.stack = X.env :: X.outer) (hf : X.env.frame = some X.env.locals) (hex : X.ex = []) {E : XK} {E₁ : Value → Shared → Prop}
    (hx : X.xe = fun e s' => wpAny (model X.prog X.w) X.A (leaving X.env e) (fun _ s'' => L2N.CX X.prog X.w X.outer X.H_0 X.s_0 E e s'') E₁ s') : L2N.Takes X (fun cls d _ H => E cls d H) := L2N.takes_of hs hf hex hx
theorem takesN {X : Cx} : L2N.Takes X (fun _ _ _ _ => False) := fun _ _ x => by
  obtain ⟨_, _, _, _, _, _, _, _, _, _, _, _, _, _, _, _, z⟩ := x
  exact z.elim
/-- a call of a def that may raise -/
theorem g_callX (c : Cal X.prog X.w X.K X.mg X.base (HX X.prog X.w) k x ps sp) (hr : Room k X.A) (hg : Gl X x) (tk : L2N.Takes X W) (ha : PA X (e :: es) t) (hdb : (x == ("__debug__" : Str)) = false := by decide)
    (he : starEach (e :: es) X.env = (false, eval e X.env) :: starEach es X.env := by rfl) (hpl : (backTo pos (starEach es X.env)).any (·.1) = false := by rfl) : PE X (.Call (.Name x p) (e :: es) [] pos) (tCallS sp (WE W) t) := by
  obtain ⟨f, fd, m, kp, lk, b, F⟩ := c.ex
  exact pe_callS F hr hg m kp b (fun σ => L2N.passAt tk σ) ha hdb he hpl
theorem r_callX {σ : L2.St} {H : Hp} {Q : VK} (h : t σ H fun vs H1 => sp vs H1 Q (fun cls d H' => W cls d σ H')) : tCallS sp (WE W) t σ H Q := h
/-- o.m(..), o.m() of an own class, nothing let out -/
theorem g_meth (c : MCal X.prog X.w X.K X.mg X.base CX k C m ps sp) (cl : Cls X.K C) (hr : Room k X.A) {E : XK} (hx : Passes CX X E) (he : PE X o to) (ha : PA X (e :: es) t)
    (hst : starEach (e :: es) X.env = (false, eval e X.env) :: starEach es X.env := by rfl) (hpl : (backTo pos (starEach es X.env)).any (·.1) = false := by rfl)
    (ht : eval (.Call (.Attribute o m apos) (e :: es) [] pos) X.env = (do
      let ov ← eval o X.env
      standAt apos.atName
      let (f, first) ← holding [ov] (getMethod ov m pl)
      callWith pos f first (backTo pos (starEach (e :: es) X.env)) (backToKw pos (keywordEach [] X.env))) := by rfl) : PE X (.Call (.Attribute o m apos) (e :: es) [] pos) (tMeth C m sp [] E to t) := by
  obtain ⟨f, fd, hm, b, F⟩ := c.ex
  exact pe_meth he cl hm F hr b .nil hx ha hst hpl ht
theorem g_meth0 (c : MCal X.prog X.w X.K X.mg X.base CX k C m ps sp) (cl : Cls X.K C) (hr : Room k X.A) {E : XK} (hx : Passes CX X E) (he : PE X o to)
    (ht : eval (.Call (.Attribute o m apos) [] [] pos) X.env = (do
      let ov ← eval o X.env
      standAt apos.atName
      let (f, first) ← holding [ov] (getMethod ov m pl)
      callWith pos f first (backTo pos (starEach [] X.env)) (backToKw pos (keywordEach [] X.env))) := by rfl) : PE X (.Call (.Attribute o m apos) [] [] pos) (tMeth C m sp [] E to tNil) := by
  obtain ⟨f, fd, hm, b, F⟩ := c.ex
  exact pe_meth0 he cl hm F hr b .nil hx ht
theorem r_meth {σ : L2.St} {H : Hp} {Q : VK} {E : XK} (h : to σ H fun x H1 => ∃ a dx fs, x = .ref a ∧ H1 a = some (.ins C dx fs) ∧ fs.lookup m = none ∧ t σ H1 fun vs H2 => sp (x :: (vs ++ [])) H2 Q E) : tMeth C m sp [] E to t σ H Q := h
/-! ### C(..) whose __init__ may raise -/
/-- what the text says of a class of plain instances -/
structure ClK (K : PySem.W.Frag) (C : Addr) : Prop where
  cl : Cls K C
  mks : PySem.W.makesIn K C = true
  kp : PySem.W.keepIn K (.ref C) = true
  cc : PySem.W.findIn K (.ref C) "__class__" = some (some (.builtin "object.__class__"))
  sp : PySem.W.specialIn K (.builtin "object.__class__") "__get__" = some (some (.builtin "getset_descriptor.__get__"))
  tk : PySem.W.takesIn K (.builtin "object.__class__") = some true
  mo : PySem.W.mroIn K C (.type "object") = some true
/-- what __init__ is to do with a new instance -/
def MkI (C : Addr) (sp : Sp) (vs : List V) (H1 : Hp) (Q : VK) (E : XK) : Prop := ∀ x dx, H1 x = none → H1 dx = none → dx ≠ x → sp (.ref x :: vs) (upd (upd H1 dx (.own x)) x (.ins C dx [])) (fun v H2 => v = .non ∧ Q (.ref x) H2) E
def tMkX (C : Addr) (sp : Sp) (E : L2.St → XK) (t : TA) : TE := fun σ H Q => t σ H fun vs H1 => MkI C sp vs H1 Q (E σ)
theorem g_makeX (cl : ClK X.K C) (c : MCal X.prog X.w X.K X.mg X.base (HX X.prog X.w) k C "__init__" ps sp) (hr : Room (k + 1) X.A) (hg : Gl X x) (hm : X.mg x = some (.ref C)) (tk : L2N.Takes X W) (ha : PA X (e :: es) t)
    (hdb : (x == ("__debug__" : Str)) = false := by decide) (he : starEach (e :: es) X.env = (false, eval e X.env) :: starEach es X.env := by rfl) (hpl : (backTo pos (starEach es X.env)).any (·.1) = false := by rfl) :
    PE X (.Call (.Name x p) (e :: es) [] pos) (tMkX C sp (WE W) t) := by
  obtain ⟨f, fd, M, hb, F⟩ := c.ex
  constructor
  intro pins s0 σ H0 Q I0 h0
  refine wpAny_Call_Name_kw (ld_glob I0 hg hm ?_ hdb)
  refine PySem.W.callWith_K (h₀ := X.base) I0.ok.mod.kin cl.kp (thn (ha.run pos pins s0 σ H0 _ I0 h0) fun us s ⟨vs, H, I, r, h⟩ => ⟨I.kIn, ?_⟩) he hpl
  show wpAny _ _ (call (.ref C) us) _ _ _
  have hq := h (s.heap.objs.size + 1) s.heap.objs.size (I.hok.fresh (Nat.le_succ _)) (I.hok.fresh (Nat.le_refl _)) (Nat.ne_of_lt (Nat.lt_succ_self _))
  have I2 := Inv.made (C := C) I
  have r2 : Vals (V.ref (s.heap.objs.size + 1) :: vs) (Value.ref (s.heap.objs.size + 1) :: us) := .cons rfl r
  have hl : (Value.ref (s.heap.objs.size + 1) :: us ++ []).length = ps.length := by
    have e := r2.length
    rw [F.len _ _ _ _ hq] at e
    rw [List.append_nil]
    exact e.symm
  have b2 := hb _ (Value.ref (s.heap.objs.size + 1) :: us) I2.kIn hl
  rw [List.append_nil] at b2
  refine wpAny_call (make_map (f := f) I.kIn cl.mks M.at_ (beq_iff_eq.mp M.fn) (codeAny_mono (F.run _ X.stack _ _ ⟨Value.ref (s.heap.objs.size + 1) :: us, []⟩ (Value.ref (s.heap.objs.size + 1) :: us) _ _ (WE W σ) (hr.make C us [])
    (I2.env0.make C us []) b2 r2 hq) fun r s' hq' => ?_))
  cases r with
  | error e => exact L2N.passAt tk σ pins _ _ e s' I2 hq'
  | ok fl =>
    cases fl with
    | ret u =>
      obtain ⟨v, H', I3, rv, ev, q3⟩ := I2.after hq'
      subst ev
      exact ⟨rv, ⟨V.ref (s.heap.objs.size + 1), H', I3, rfl, q3⟩⟩
    | next => exact False.elim hq'
    | brk => exact False.elim hq'
    | cont => exact False.elim hq'
theorem r_mkX {σ : L2.St} {H : Hp} {Q : VK} (h : t σ H fun vs H1 => MkI C sp vs H1 Q (fun cls d H' => W cls d σ H')) : tMkX C sp (WE W) t σ H Q := h
/-! ### raise C(e), of an own error class -/
theorem g_mkexN {ta : TA} (hm : X.mg x = some (.ref C)) (cx : ExK X.K C) (c : MCal X.prog X.w X.K X.mg X.base CX0 k C "__init__" ps sp) (hr : Room (k + 1) X.A) (hg : Gl X x) (ha : PA X (e :: es) ta)
    (hdb : (x == ("__debug__" : Str)) = false := by decide) (he : starEach (e :: es) X.env = (false, eval e X.env) :: starEach es X.env := by rfl) (hpl : (backTo pos (starEach es X.env)).any (·.1) = false := by rfl) :
    L2N.PMk X (.Call (.Name x p) (e :: es) [] pos) (tMkO C sp [] ta) := by
  obtain ⟨fI, fd, M, hb, F1⟩ := c.ex
  have T := cx.ox
  have iC := M.at_
  have tI := beq_iff_eq.mp M.fn
  intro pins s σ H Q I h
  obtain ⟨nm, q, N, bs, bm, sn, sub, ab, col, dd, k0, k1, k2, k3, k5, hC, hbm⟩ := T.cls
  refine wpAny_Call_Name_kw (ld_glob I hg hm ?_ hdb)
  refine PySem.W.callWith_K (h₀ := X.base) I.ok.mod.kin T.kC (thn (ha.run pos pins s σ H _ I h) fun us s1 ⟨vs, H1, I1, r1, hz, q1⟩ => ⟨I1.kIn, ?_⟩) he hpl
  show wpAny _ _ (call (.ref C) us) _ _ _
  obtain ⟨hp, g, dr, tk, os⟩ := s1
  have hsz : hp.objs.size ≤ hp.objs.size + 1 := Nat.le_succ _
  have hn : H1 (hp.objs.size + 1) = none := I1.hok.fresh hsz
  have hq := q1 (hp.objs.size + 1) hn
  have kk : ∀ b o, hp.get? b = some o → ((hp.push (PySem.W.kdv_tup us)).push (PySem.HandSPX.excO C hp.objs.size)).get? b = some o := fun b o e => Heap.get?_push_of_some _ (Heap.get?_push_of_some _ e)
  have hget : ((hp.push (PySem.W.kdv_tup us)).push (PySem.HandSPX.excO C hp.objs.size)).get? (hp.objs.size + 1) = some (PySem.HandSPX.excO C hp.objs.size) := by heap_get
  have I2 : Inv X pins σ (upd H1 (hp.objs.size + 1) (exo (hp.objs.size + 1) C none)) ⟨(hp.push (PySem.W.kdv_tup us)).push (PySem.HandSPX.excO C hp.objs.size), g, dr, tk, os⟩ :=
    I1.laid (t' := tk) (a := hp.objs.size + 1) (o := exo (hp.objs.size + 1) C none) (h' := (hp.push (PySem.W.kdv_tup us)).push (PySem.HandSPX.excO C hp.objs.size)) kk hsz (exo_ok hget)
  have r2 : Vals (V.ref (hp.objs.size + 1) :: (vs ++ [])) (Value.ref (hp.objs.size + 1) :: (us ++ [])) := .cons rfl (r1.append .nil)
  have hl : (Value.ref (hp.objs.size + 1) :: us ++ []).length = ps.length := by
    have e := r2.length
    rw [F1.len _ _ _ _ hq] at e
    exact e.symm
  have b2 : BindsTo ⟨(hp.push (PySem.W.kdv_tup us)).push (PySem.HandSPX.excO C hp.objs.size), g, dr, tk, os⟩ fd ⟨Value.ref (hp.objs.size + 1) :: us, []⟩ (ps.zip (Value.ref (hp.objs.size + 1) :: (us ++ []))) := hb _ (Value.ref (hp.objs.size + 1) :: us) I2.kIn hl
  have hus : us.length ≤ sizeLine := by
    rw [← Paired.length r1, sizeLine_eq]
    omega
  refine wpAny_call (PySem.HandSPX.call_own F.excBase_ValueError (fun Y => PySem.HandSPX.refsVE_contains Y bm hbm) (I1.kIn _ _ hC) (PySem.W.looks_findIn I1.kIn iC) (fun self => PySem.W.bind_fn I1.kIn self tI) hus
    (codeAny_mono (F1.run _ X.stack _ _ ⟨Value.ref (hp.objs.size + 1) :: us, []⟩ (Value.ref (hp.objs.size + 1) :: (us ++ [])) _ _ (fun _ _ _ => False) (hr.make C us []) (I2.env0.make C us []) b2 r2 hq) fun r s' hq' => ?_))
  cases r with
  | error er => exact (show False from hq').elim
  | ok fl =>
    cases fl with
    | ret u =>
      obtain ⟨v, H2, os2, bare2, un2, hok2, rv, ev, d, fs, ea, ed, hd1, q2⟩ := hq'
      subst ev
      obtain ⟨h2, g2, d2, t2, os'⟩ := s'
      obtain ⟨t0, G, J, kG, ge, hoe, na⟩ := mk_end0 (d2 := d2) (t2 := t2) I1 hsz kk un2 hok2 os2 bare2 ea ed hd1
      refine ⟨rv, ⟨hp.objs.size + 1, _, _, ⟨G, g2, d2, t2, os'⟩, _, .ref C, some d, rfl, J, kG, ge, hoe, ⟨rfl, rfl, fun vs hv => ?_⟩, rfl, rfl, na, rfl, bare2, raises_own T.exC T.tyC, q2⟩⟩
      cases hv
      rfl
    | next => exact False.elim hq'
    | brk => exact False.elim hq'
    | cont => exact False.elim hq'
theorem g_raiseN {t : L2.St → Hp → XK → Prop} (hc : X.calm = true) (tk : L2N.Takes X W) (he : L2N.PMk X e t) : PS X (.Raise (some e) none pos) (tRs t W) := L2N.ps_raise hc tk he
end
/-! ### try: .. except x as n: .. -/
def tTry (K : PySem.W.Frag) (c : Value) (i : Nat) (tb : WX → TS) (ts : Addr → Value → Option Addr → TS) (Wout : WX) : TS := fun D σ H => tb (wAs K c i ts Wout D) D σ H
theorem g_try {X : Cx} {K : PySem.W.Frag} {x n : Str} {c : Value} {i : Nat} {body suite : List Stmt} {b₀ : Stmt} {np pos pos' : Pos} {tb : WX → TS} {ts : Addr → Value → Option Addr → TS} {Wout : WX} (hs : X.stack = X.env :: X.outer) (hf : X.env.frame = some X.env.locals) (hN : X.N.Nodup) (hi : X.N[i]? = some n) (hln : X.env.kindOf n = some .local) (hc : Names X x c) (tk : L2N.Takes X Wout)
    (hb : ∀ (W : WX) (pn : List (Addr × Obj)) (xe : Value → Shared → Prop), L2N.Takes (X.tr pn xe) W → PassesOwn (model X.prog X.w) X.A X.env xe → PSs (X.tr pn xe) body (tb W))
    (hsu : ∀ (a : Addr) (oe : Obj) (cls : Value) (d : Option Addr) (pn : List (Addr × Obj)), L2N.Zn cls d oe → (∃ vs, oe.data = .fields vs) → PSs (X.suite a ((a, oe) :: pn)) (b₀ :: suite) (ts a cls d)) (hK : X.K = K := by rfl) :
    PS X (.Try body [.ExceptHandler (some (.Name x np)) (some n) (b₀ :: suite) pos'] [] [] pos) (tTry K c i tb ts Wout) := by
  subst hK
  exact L2N.ps_try_as hs hf hN hi hln hc tk hb hsu
theorem r_try {K : PySem.W.Frag} {c : Value} {i : Nat} {tb : WX → TS} {ts : Addr → Value → Option Addr → TS} {Wout : WX} {D : Ends} {σ : L2.St} {H : Hp} (h : tb (wAs K c i ts Wout D) D σ H) : tTry K c i tb ts Wout D σ H := h
/-- an error that the clause names -/
theorem r_caught {K : PySem.W.Frag} {c cls : Value} {d : Option Addr} {i : Nat} {ts : Addr → Value → Option Addr → TS} {Wout : WX} {D : Ends} {σ : L2.St} {H : Hp} (e : PySem.W.exmOne K cls c = some true)
    (h : ∀ a, H a = none → ts a cls d { nx := fun σ' H' => D.nx (σ'.set i none) H', rt := D.rt, bk := fun σ' H' => D.bk (σ'.set i none) H', ct := fun σ' H' => D.ct (σ'.set i none) H' } (σ.set i (some (.ref a))) H) : wAs K c i ts Wout D cls d σ H :=
  ⟨true, e, fun _ => h, fun z => Bool.noConfusion z⟩
/-! ### calls in an except suite -/
theorem hot_of {X : Cx} {a : Addr} {oe : Obj} {cls : Value} {d : Option Addr} {pn : List (Addr × Obj)} (hz : L2N.Zn cls d oe) (hf : ∃ vs, oe.data = .fields vs) : L2H.HotC (X.suite a ((a, oe) :: pn)) := by
  obtain ⟨vs, hd⟩ := hf
  exact ⟨(a, oe), ⟨rfl, vs, hd, hz.2.2 vs hd⟩, List.mem_cons_self⟩
structure CalH (P : Program) (w : World) (K : PySem.W.Frag) (mg : Str → Option Value) (base : Heap) (CX : CXT) (k : Nat) (x : Str) (ps : List Str) (sp : Sp) : Prop where
  ex : ∃ f fd, mg x = some (.ref f) ∧ PySem.W.keepIn K (.ref f) = true ∧ Binds K fd ps [] ∧ L2H.FnH P w K mg base CX k f fd ps sp
section
variable {P : Program} {w : World} {K : PySem.W.Frag} {mg : Str → Option Value} {base : Heap} {CX : CXT} {j k : Nat} {x qual : Str} {ps N : List Str} {sp : Sp} {st : Stmt}
theorem def_okH (F : FunAt K mg x qual st) (S : FnScope N ps (defScope st))
    (hb : ∀ (kV doc pm : Value) (an : Option Addr) (cdv ct : Value) (us : List Value), us.length = ps.length → bindArgs (PySem.W.fnOf x qual (defArgs st) (defBody st) (defScope st) .none kV doc pm an cdv ct) ⟨us, []⟩ = pure (ps.zip us))
    (len : ∀ vs H Q E, sp vs H Q E → vs.length = ps.length)
    (body : ∀ (f : Addr) (cdv : Value) (A : Around) (outer : List Env) (s : Shared) (H : Hp) (vs : List V) (Q : VK) (E : XK) (p : Addr × Obj), L2H.Hot1 A p → L2H.RoomH k (A.deeper (envOfC qual (defScope st) s.heap.objs.size f cdv)) → sp vs H Q E →
      ∃ t, PSs (L2H.cxH CX0 P w K mg base N qual (defScope st) f cdv A outer s H E p) (defBody st) t ∧ t { nx := fun _ H' => Q .non H', rt := Q } (start N vs) H) : CalH P w K mg base CX0 (k + 1) x ps sp := by
  obtain ⟨f, fd, m, G⟩ := F
  obtain ⟨oc, od, kV, doc, pm, an, cdv, ct, osl, rfl, lk, hcd⟩ := G.ex
  exact ⟨f, _, m, G.kp, G.binds hb, L2H.fn_ofH lk hcd S len fun A outer s H vs Q E p hp hr h => body f cdv A outer s H vs Q E p hp hr h⟩
end
theorem g_callH {X : Cx} {k : Nat} {x : Str} {ps : List Str} {sp : Sp} {p pos : Pos} {e : Expr} {es : List Expr} {t : TA} (c : CalH X.prog X.w X.K X.mg X.base CX0 k x ps sp) (hr : L2H.RoomH k X.A) (hc : L2H.HotC X) (hg : Gl X x) (ha : PA X (e :: es) t) (hdb : (x == ("__debug__" : Str)) = false := by decide)
    (he : starEach (e :: es) X.env = (false, eval e X.env) :: starEach es X.env := by rfl) (hpl : (backTo pos (starEach es X.env)).any (·.1) = false := by rfl) : PE X (.Call (.Name x p) (e :: es) [] pos) (tCallS sp (fun _ _ _ _ => False) t) := by
  obtain ⟨f, fd, m, kp, b, F⟩ := c.ex
  exact L2H.pe_callH F hr hc hg m kp b (fun _ _ _ _ _ _ _ h => h.elim) ha hdb he hpl
theorem r_callH {σ : L2.St} {H : Hp} {Q : VK} {sp : Sp} {t : TA} (h : t σ H fun vs H1 => sp vs H1 Q (fun _ _ _ => False)) : tCallS sp (fun _ _ _ _ => False) t σ H Q := h
/-! ### x == y of an own class -/
def rEqO (C : Addr) (sp : Sp) : R2 := fun x y H Q => ∃ (a b : Addr) (dx dy : Addr) (fs gs : List (Str × V)), x = .ref a ∧ y = .ref b ∧ H a = some (.ins C dx fs) ∧ H b = some (.ins C dy gs) ∧ sp [x, y] H (fun v H' => ∃ z, v = .bl z ∧ Q (.bl z) H') E0
theorem op_eqO {X : Cx} {k : Nat} {C : Addr} {ps : List Str} {sp : Sp} (c : MCal X.prog X.w X.K X.mg X.base CX0 k C "__eq__" ps sp) (hr : Room k X.A) : OpR X (compareOp .Eq) (rEqO C sp) := by
  intro pins s σ H x y u v Q I rx ry h
  obtain ⟨a, b, dx, dy, fs, gs, rfl, rfl, ha, hb', hsp⟩ := h
  obtain ⟨f, fd, M, hb, F⟩ := c.ex
  cases rx
  cases ry
  obtain ⟨mA, J, _⟩ := ins_get I.hok ha
  obtain ⟨mB, J', _⟩ := ins_get I.hok hb'
  obtain ⟨od, J, _⟩ := J.look
  obtain ⟨od', J', _⟩ := J'.look
  obtain ⟨m, hF⟩ := I.fr
  show wpAny _ _ (richCompare .Eq (.ref a) (.ref b)) _ _ _
  refine PySem.W.cmp_K (op := .Eq) (tb := .ref C) hr.units0 hF I.ok.mod.kin J J'.type (by simp [PySem.W.notFirst]) M.at_ M.fn ?_
  have hl := F.len _ _ _ _ hsp
  have r2 : Vals [V.ref a, V.ref b] [Value.ref a, Value.ref b] := .cons rfl (.cons rfl .nil)
  refine wpAny_call (codeAny_mono (F.run X.A X.stack s H ⟨[.ref a, .ref b], []⟩ [.ref a, .ref b] [.ref a, .ref b] _ E0 hr I.env0 (by
    have := hb s [.ref a, .ref b] I.kIn (by simpa using hl)
    simpa using this) r2 hsp) fun r s' hq => ?_)
  cases r with
  | error e => exact (show False from hq).elim
  | ok fl =>
    cases fl with
    | ret w =>
      obtain ⟨z, H', I', rz, z', ez, q⟩ := I.after hq
      subst ez
      cases rz
      exact ⟨.bl z', H', I', rfl, q⟩
    | next => exact False.elim hq
    | brk => exact False.elim hq
    | cont => exact False.elim hq
/-! isinstance of an instance -/
theorem v_isiO {K : PySem.W.Frag} {H : Hp} {a C dx : Addr} {fs : List (Str × V)} {Q : VK} (h : H a = some (.ins C dx fs)) (c : ClK K C) (k : Q (.bl true) H) : gIsi K [.ref a, .ref C] H Q :=
  .inl ⟨.ref a, .ref C, _, _, true, rfl, .own C, .base (.ins h c.cl c.cc c.sp c.tk c.mo), if_pos (beq_self_eq_true _), k⟩
/-! ### data of any depth -/
theorem Dp.same {K : PySem.W.Frag} {H H' : Hp} (s : Same H H') : ∀ (d : PyData) (v : V), Dp K H v d → Dp K H' v d := by
  intro d v h
  refine Dp.rec (motive_1 := fun v d _ => Dp K H' v d) (motive_2 := fun vs ds _ => DpAll K H' vs ds) ?_ ?_ ?_ ?_ ?_ ?_ ?_ ?_ h
  · exact .non
  · exact .bl
  · exact .int
  · exact .str
  · exact fun h _ ih => .lst (h.ext s) ih
  · exact fun h _ ih => .tup (h.ext s) ih
  · exact .nil
  · exact fun _ _ a b => .cons a b
section
variable {X : Cx} {K : PySem.W.Frag}
theorem g_eqD {k : Nat} (hr : Room k X.A) (hK : X.K = K := by rfl) : OpR X (compareOp .Eq) (rEqD K) := by subst hK; exact op_eqD (by have := hr.un; omega)
theorem g_neD {k : Nat} (hr : Room k X.A) (hK : X.K = K := by rfl) : OpR X (compareOp .NotEq) (rNeD K) := by subst hK; exact op_neD (by have := hr.un; omega)
theorem g_neDH {k : Nat} (hr : L2H.RoomH k X.A) (hK : X.K = K := by rfl) : OpR X (compareOp .NotEq) (rNeD K) := by subst hK; exact op_neD (by have := hr.un; omega)
theorem g_inD {k : Nat} (hr : Room k X.A) (hK : X.K = K := by rfl) : OpR X (compareOp .In) (rInD K) := by subst hK; exact op_inD (by have := hr.un; omega)
theorem g_notinD {k : Nat} (hr : Room k X.A) (hK : X.K = K := by rfl) : OpR X (compareOp .NotIn) (rNotInD K) := by subst hK; exact op_notInD (by have := hr.un; omega)
theorem g_revL {e : Expr} {te : TE} {k : Nat} {p1 p2 p3 pos : Pos} (he : PE X e te) (hK : X.K = K := by rfl) : PE X (.Subscript e (.Slice none none (some (.UnaryOp .USub (.Constant (.int 1) k p1) p2)) p3) pos) (tRevL K te) := by subst hK; exact pe_revL he
theorem r_revL {te : TE} {σ : L2.St} {H : Hp} {Q : VK} (h : te σ H fun x H1 => ∃ a xs, x = .ref a ∧ SqL K H1 a xs ∧ ∀ p, H1 p = none → Q (.ref p) (upd H1 p (.lst xs.reverse))) : tRevL K te σ H Q := h
end
end G

set_option Elab.async false
set_option linter.all false
set_option maxRecDepth 100000
set_option maxHeartbeats 4000000
/-! Pd: data of any depth on the heap, by embeddings; readings of fields, unpacked tuples (own work). -/
namespace G
open PySem PySem.Spec PyProof.Rows L2
/-! ### embeddings of plain types into data -/
structure Emb {α : Type} [DecidableEq α] (f : α → PyData) (n : Nat) : Prop where
  eq : ∀ x y, PyData.eqv (f x) (f y) = decide (x = y)
  can : ∀ x, PyData.canLay0 (f x) = true
  dep : ∀ x, PyData.depth (f x) ≤ n
theorem dec_congr {P Q : Prop} [Decidable P] [Decidable Q] (h : P ↔ Q) : decide P = decide Q := by
  by_cases p : P
  · rw [decide_eq_true p, decide_eq_true (h.mp p)]
  · rw [decide_eq_false p, decide_eq_false fun q => p (h.mpr q)]
theorem eqvAll_map {α : Type} [DecidableEq α] {f : α → PyData} (h : ∀ x y, PyData.eqv (f x) (f y) = decide (x = y)) : ∀ xs ys : List α, PyData.eqvAll (xs.map f) (ys.map f) = decide (xs = ys)
  | [], [] => by simp [PyData.eqvAll]
  | [], y :: ys => by simp [PyData.eqvAll]
  | x :: xs, [] => by simp [PyData.eqvAll]
  | x :: xs, y :: ys => by
    rw [List.map_cons, List.map_cons, PyData.eqvAll, h, eqvAll_map h xs ys, ← Bool.decide_and]
    exact dec_congr (by rw [List.cons.injEq])
theorem canAll_map {α : Type} {f : α → PyData} (h : ∀ x, PyData.canLay0 (f x) = true) : ∀ xs : List α, PyData.canLayAll0 (xs.map f) = true
  | [] => by simp [PyData.canLayAll0]
  | x :: xs => by rw [List.map_cons, PyData.canLayAll0, h, canAll_map h xs]; rfl
theorem depAll_map {α : Type} {f : α → PyData} {n : Nat} (h : ∀ x, PyData.depth (f x) ≤ n) : ∀ xs : List α, PyData.depthAll (xs.map f) ≤ n
  | [] => by simp [PyData.depthAll]
  | x :: xs => by
    rw [List.map_cons, PyData.depthAll]
    exact Nat.max_le.mpr ⟨h x, depAll_map h xs⟩
section
variable {α β : Type} [DecidableEq α] [DecidableEq β] {f : α → PyData} {g : β → PyData} {m n : Nat}
theorem Emb.int : Emb PyData.int 0 := ⟨fun x y => by
  rw [PyData.eqv]
  by_cases h : x = y <;> simp [h], fun x => by simp [PyData.canLay0], fun x => by simp [PyData.depth]⟩
theorem Emb.list (e : Emb f n) : Emb (fun xs : List α => PyData.list (xs.map f)) (n + 1) :=
  ⟨fun x y => by rw [PyData.eqv, eqvAll_map e.eq], fun x => by rw [PyData.canLay0, canAll_map e.can], fun x => by rw [PyData.depth]; have := depAll_map e.dep x; omega⟩
theorem Emb.tup (e : Emb f n) : Emb (fun xs : List α => PyData.tuple (xs.map f)) (n + 1) :=
  ⟨fun x y => by rw [PyData.eqv, eqvAll_map e.eq], fun x => by rw [PyData.canLay0, canAll_map e.can], fun x => by rw [PyData.depth]; have := depAll_map e.dep x; omega⟩
theorem Emb.pair (e : Emb f m) (d : Emb g n) : Emb (fun p : α × β => PyData.tuple [f p.1, g p.2]) (m + n + 1) :=
  ⟨fun x y => by
    rw [PyData.eqv, PyData.eqvAll, PyData.eqvAll, PyData.eqvAll, e.eq, d.eq, Bool.and_true, ← Bool.decide_and]
    exact dec_congr (by rw [Prod.ext_iff]), fun x => by rw [PyData.canLay0, PyData.canLayAll0, PyData.canLayAll0, PyData.canLayAll0, e.can, d.can]; rfl,
   fun x => by
    rw [PyData.depth, PyData.depthAll, PyData.depthAll, PyData.depthAll]
    have h1 := e.dep x.1
    have h2 := d.dep x.2
    have h3 : max (f x.1).depth (max (g x.2).depth 0) ≤ m + n := Nat.max_le.mpr ⟨by omega, Nat.max_le.mpr ⟨by omega, by omega⟩⟩
    omega⟩
theorem Emb.sh (e : Emb f n) (hn : n ≤ 64) (x : α) : SeqAt.shaped (f x) = true := by
  have h := e.dep x
  unfold SeqAt.shaped
  rw [e.can, decide_eq_true (by omega)]
  rfl
theorem Emb.any (e : Emb f n) (x : α) : ∀ xs : List α, ((xs.map f).any fun z => PyData.eqv z (f x)) = decide (x ∈ xs)
  | [] => by simp
  | y :: ys => by
    rw [List.map_cons, List.any_cons, e.eq, Emb.any e x ys, ← Bool.decide_or]
    exact dec_congr (by rw [List.mem_cons]; exact ⟨fun h => h.imp Eq.symm id, fun h => h.imp Eq.symm id⟩)
end
/-! ### data on the heap -/
section
variable {K : PySem.W.Frag} {H H' : Hp} {v : V} {vs : List V} {ds : List PyData} {a : Addr}
theorem dpAll_len : ∀ {vs : List V} {ds : List PyData}, DpAll K H vs ds → vs.length = ds.length
  | [], [], _ => rfl
  | _ :: _, _ :: _, .cons _ h => by rw [List.length_cons, List.length_cons, dpAll_len h]
theorem dpAll_get : ∀ {vs : List V} {ds : List PyData} (_ : DpAll K H vs ds) (i : Nat) (v : V) (d : PyData), vs[i]? = some v → ds[i]? = some d → Dp K H v d
  | _ :: _, _ :: _, .cons h _, 0, v, d, h1, h2 => by
    cases h1
    cases h2
    exact h
  | _ :: _, _ :: _, .cons _ h, i + 1, v, d, h1, h2 => dpAll_get h i v d h1 h2
  | [], [], _, i, v, d, h1, _ => by simp at h1
theorem dpAll_of : ∀ {vs : List V} {ds : List PyData}, vs.length = ds.length → (∀ (i : Nat) (v : V) (d : PyData), vs[i]? = some v → ds[i]? = some d → Dp K H v d) → DpAll K H vs ds
  | [], [], _, _ => .nil
  | v :: vs, d :: ds, hl, h => .cons (h 0 v d rfl rfl) (dpAll_of (by simpa using hl) fun i v d h1 h2 => h (i + 1) v d h1 h2)
  | [], _ :: _, hl, _ => by simp at hl
  | _ :: _, [], hl, _ => by simp at hl
theorem dp_int {i : Int} (h : Dp K H v (.int i)) : v = .int i := by cases h; rfl
theorem dp_two {d e : PyData} (h : Dp K H v (.tuple [d, e])) : ∃ p x y, v = .ref p ∧ SqT K H p [x, y] ∧ Dp K H x d ∧ Dp K H y e := by
  cases h with
  | tup hs ha =>
    cases ha with
    | cons h1 r =>
      cases r with
      | cons h2 r =>
        cases r
        exact ⟨_, _, _, rfl, hs, h1, h2⟩
theorem of_two {d e : PyData} {p : Addr} {x y : V} (h : SqT K H p [x, y]) (h1 : Dp K H x d) (h2 : Dp K H y e) : Dp K H (.ref p) (.tuple [d, e]) := .tup h (.cons h1 (.cons h2 .nil))
variable {α : Type} {f : α → PyData} {xs : List α}
theorem dp_tup (h : Dp K H v (.tuple (xs.map f))) : ∃ a vs, v = .ref a ∧ SqT K H a vs ∧ vs.length = xs.length ∧ ∀ (i : Nat) y x, vs[i]? = some y → xs[i]? = some x → Dp K H y (f x) := by
  cases h with
  | tup hs ha => exact ⟨_, _, rfl, hs, by simpa using dpAll_len ha, fun i y x h1 h2 => dpAll_get ha i y _ h1 (by rw [List.getElem?_map, h2]; rfl)⟩
theorem dp_lst (h : Dp K H v (.list (xs.map f))) : ∃ a vs, v = .ref a ∧ SqL K H a vs ∧ vs.length = xs.length ∧ ∀ (i : Nat) y x, vs[i]? = some y → xs[i]? = some x → Dp K H y (f x) := by
  cases h with
  | lst hs ha => exact ⟨_, _, rfl, hs, by simpa using dpAll_len ha, fun i y x h1 h2 => dpAll_get ha i y _ h1 (by rw [List.getElem?_map, h2]; rfl)⟩
theorem of_tup (hs : SqT K H a vs) (hl : vs.length = xs.length) (h : ∀ (i : Nat) y x, vs[i]? = some y → xs[i]? = some x → Dp K H y (f x)) : Dp K H (.ref a) (.tuple (xs.map f)) :=
  .tup hs (dpAll_of (by simpa using hl) fun i v d h1 h2 => by
    rw [List.getElem?_map] at h2
    cases e : xs[i]? with
    | none => rw [e] at h2; cases h2
    | some x => rw [e] at h2; cases h2; exact h i v x h1 e)
theorem of_lst (hs : SqL K H a vs) (hl : vs.length = xs.length) (h : ∀ (i : Nat) y x, vs[i]? = some y → xs[i]? = some x → Dp K H y (f x)) : Dp K H (.ref a) (.list (xs.map f)) :=
  .lst hs (dpAll_of (by simpa using hl) fun i v d h1 h2 => by
    rw [List.getElem?_map] at h2
    cases e : xs[i]? with
    | none => rw [e] at h2; cases h2
    | some x => rw [e] at h2; cases h2; exact h i v x h1 e)
/-- a tuple of ints -/
theorem dp_ints {is : List Int} (h : Dp K H v (.tuple (is.map PyData.int))) : ∃ a, v = .ref a ∧ SqT K H a (is.map V.int) := by
  obtain ⟨a, vs, rfl, hs, hl, hi⟩ := dp_tup h
  have e : vs = is.map V.int := by
    refine List.ext_getElem? fun i => ?_
    rw [List.getElem?_map]
    cases e1 : vs[i]? with
    | none =>
      have : is[i]? = none := List.getElem?_eq_none (by rw [← hl]; exact List.getElem?_eq_none_iff.mp e1)
      rw [this]; rfl
    | some y =>
      have hlt := (List.getElem?_eq_some_iff.mp e1).1
      have e2 : is[i]? = some is[i] := List.getElem?_eq_getElem (by omega)
      rw [e2, dp_int (hi i y _ e1 e2)]; rfl
  rw [e] at hs
  exact ⟨a, rfl, hs⟩
theorem of_ints {is : List Int} (h : SqT K H a (is.map V.int)) : Dp K H (.ref a) (.tuple (is.map PyData.int)) := of_tup h (by simp) fun i y x h1 h2 => by
  rw [List.getElem?_map, h2] at h1
  cases h1
  exact .int x
/-- all the pairs of ints of a tuple -/
theorem pairs_tup {ps : List (Int × Int)} (h : Dp K H v (.tuple (ps.map fun p => PyData.tuple [PyData.int p.1, PyData.int p.2]))) :
    ∃ (a : Addr) (ks : List (Addr × List Int)), v = .ref a ∧ SqT K H a (ks.map fun k => V.ref k.1) ∧ ks.map (·.2) = ps.map (fun p => [p.1, p.2]) ∧ ∀ k ∈ ks, SqT K H k.1 (k.2.map V.int) := by
  cases h with
  | @tup a vs _ hs ha =>
    suffices q : ∀ (ps : List (Int × Int)) (vs : List V), DpAll K H vs (ps.map fun p => PyData.tuple [PyData.int p.1, PyData.int p.2]) → ∃ ks : List (Addr × List Int), vs = ks.map (fun k => V.ref k.1) ∧ ks.map (·.2) = ps.map (fun p => [p.1, p.2]) ∧ ∀ k ∈ ks, SqT K H k.1 (k.2.map V.int) by
      obtain ⟨ks, e, h2, h3⟩ := q ps vs ha
      rw [e] at hs
      exact ⟨a, ks, rfl, hs, h2, h3⟩
    intro ps
    induction ps with
    | nil =>
      intro vs h
      cases h
      exact ⟨[], rfl, rfl, by simp⟩
    | cons p ps ih =>
      intro vs h
      cases h with
      | cons h1 h2 =>
        obtain ⟨ks, rfl, e2, e3⟩ := ih _ h2
        obtain ⟨q, x, y, rfl, hq, hx, hy⟩ := dp_two h1
        rw [dp_int hx, dp_int hy] at hq
        refine ⟨(q, [p.1, p.2]) :: ks, rfl, by rw [List.map_cons, List.map_cons, e2], fun k hk => ?_⟩
        rcases List.mem_cons.mp hk with rfl | hk
        · exact hq
        · exact e3 k hk
end
/-! ### readings -/
section
variable {K : PySem.W.Frag} {σ : L2.St} {H : Hp} {Q : VK} {D : Ends} {te ta tv : TE} {x y v : V} {p a C dx : Addr} {fs : List (Str × V)} {f : Str}
theorem v_unp2 {g1 g2 : TG} {Q : L2.St → Hp → Prop} (h : SqT K H p [x, y]) (k : g1 x σ H fun σ' H' => g2 y σ' H' Q) : gTup K 2 (gCons g1 (gCons g2 gNil)) (.ref p) σ H Q :=
  ⟨p, _, rfl, h, rfl, x, _, rfl, by
    have e : (fun σ' H' => gCons g2 gNil [y] σ' H' Q) = fun σ' H' => ∃ v r, [y] = v :: r ∧ g2 v σ' H' fun σ2 H2 => gNil r σ2 H2 Q := rfl
    have m : ∀ σ' H', g2 y σ' H' Q → gCons g2 gNil [y] σ' H' Q := fun σ' H' z => ⟨y, [], rfl, by
      have e2 : (fun σ2 H2 => gNil [] σ2 H2 Q) = Q := funext fun σ2 => funext fun H2 => propext ⟨fun z => z.2, fun z => ⟨rfl, z⟩⟩
      rw [e2]; exact z⟩
    have e3 : (fun σ' H' => gCons g2 gNil [y] σ' H' Q) = fun σ' H' => g2 y σ' H' Q := funext fun σ' => funext fun H' => propext ⟨fun ⟨v, r, e, z⟩ => by
      cases e
      have e2 : (fun σ2 H2 => gNil [] σ2 H2 Q) = Q := funext fun σ2 => funext fun H2 => propext ⟨fun z => z.2, fun z => ⟨rfl, z⟩⟩
      rw [e2] at z; exact z, m σ' H'⟩
    rw [e3]; exact k⟩
theorem r_fld (h : te σ H fun x H1 => ∃ a C dx fs v, x = .ref a ∧ H1 a = some (.ins C dx fs) ∧ Cls K C ∧ NoAttr K C f ∧ fs.lookup f = some v ∧ Q v H1) : tFld K te f σ H Q := h
theorem v_fld (h : H a = some (.ins C dx fs)) (c : Cls K C) (n : PySem.W.findIn K (.ref C) f = some none) (l : fs.lookup f = some v) (k : Q v H) : ∃ a' C dx fs v, (V.ref a : V) = .ref a' ∧ H a' = some (.ins C dx fs) ∧ Cls K C ∧ NoAttr K C f ∧ fs.lookup f = some v ∧ Q v H := ⟨a, C, dx, fs, v, rfl, h, c, n, l, k⟩
theorem r_sfld (h : tv σ H fun y H1 => ta σ H1 fun x H2 => ∃ a C dx fs, x = .ref a ∧ H2 a = some (.ins C dx fs) ∧ Cls K C ∧ NoAttr K C f ∧ fs.length < 1000 ∧ D.nx σ (upd H2 a (.ins C dx (putF f y fs)))) : sFld K ta tv f D σ H := h
theorem v_eqD {α : Type} [DecidableEq α] {F : α → PyData} {n : Nat} (e : Emb F n) (hn : n ≤ 64) {u v : α} (h1 : Dp K H x (F u)) (h2 : Dp K H y (F v)) (k : Q (.bl (decide (u = v))) H) : rEqD K x y H Q := ⟨_, _, h1, h2, e.sh hn _, e.sh hn _, by rw [e.eq]; exact k⟩
theorem v_neD {α : Type} [DecidableEq α] {F : α → PyData} {n : Nat} (e : Emb F n) (hn : n ≤ 64) {u v : α} (h1 : Dp K H x (F u)) (h2 : Dp K H y (F v)) (k : Q (.bl (!decide (u = v))) H) : rNeD K x y H Q := ⟨_, _, h1, h2, e.sh hn _, e.sh hn _, by rw [e.eq]; exact k⟩
theorem v_inD {α : Type} [DecidableEq α] {F : α → PyData} {n : Nat} (e : Emb F n) (hn : n ≤ 63) {u : α} {us : List α} [Decidable (u ∈ us)] (h1 : Dp K H x (F u)) (h2 : Dp K H y (.list (us.map F))) (k : Q (.bl (decide (u ∈ us))) H) : rInD K x y H Q :=
  ⟨_, _, h1, h2, e.sh (by omega) _, e.list.sh (by omega) us, by
    have z : ∀ b, b = decide (u ∈ us) → Q (.bl b) H := by rintro _ rfl; exact k
    exact z _ (by rw [e.any]; exact @dec_congr _ _ (_) (_) Iff.rfl)⟩
theorem v_notinD {α : Type} [DecidableEq α] {F : α → PyData} {n : Nat} (e : Emb F n) (hn : n ≤ 63) {u : α} {us : List α} [Decidable (u ∈ us)] (h1 : Dp K H x (F u)) (h2 : Dp K H y (.list (us.map F))) (k : Q (.bl (!decide (u ∈ us))) H) : rNotInD K x y H Q :=
  ⟨_, _, h1, h2, e.sh (by omega) _, e.list.sh (by omega) us, by
    have z : ∀ b, b = decide (u ∈ us) → Q (.bl (!b)) H := by rintro _ rfl; exact k
    exact z _ (by rw [e.any]; exact @dec_congr _ _ (_) (_) Iff.rfl)⟩
theorem r_lenSetT (h : te σ H fun x H1 => ∃ (l : Addr) (ks : List (Addr × List Int)), x = V.ref l ∧ SqT K H1 l (ks.map fun p => V.ref p.1) ∧ (∀ p ∈ ks, SqT K H1 p.1 (p.2.map V.int)) ∧ ks.length < 64 ∧
  ∀ n : Nat, (∃ L : List (List Int), L.Nodup ∧ L.length = n ∧ (∀ k, k ∈ L ↔ k ∈ ks.map (·.2))) → Q (.int n) H1) : tLenSetT K te σ H Q := h
/-- tuple(l), l a new list of a comprehension: nothing else asked -/
theorem v_tupL {xs : List V} (h : H p = some (.lst xs)) (k : ∀ l, H l = none → Q (.ref l) (upd H l (.tup xs))) : gTupl K [.ref p] H Q := ⟨p, xs, rfl, .inl ⟨SqL.of h, k⟩⟩
theorem un64 {k : Nat} {A : Around} (hr : Room k A) : A.units + 64 < cLine := by have := hr.un; omega
theorem un65 {k : Nat} {A : Around} (hr : Room k A) : A.units + 65 < cLine := by have := hr.un; omega
theorem op_eqDK {X : Cx} (hu : X.A.units + 64 < cLine) (hK : X.K = K := by rfl) : OpR X (compareOp .Eq) (rEqD K) := by subst hK; exact op_eqD hu
theorem op_neDK {X : Cx} (hu : X.A.units + 64 < cLine) (hK : X.K = K := by rfl) : OpR X (compareOp .NotEq) (rNeD K) := by subst hK; exact op_neD hu
theorem op_inDK {X : Cx} (hu : X.A.units + 65 < cLine) (hK : X.K = K := by rfl) : OpR X (compareOp .In) (rInD K) := by subst hK; exact op_inD hu
theorem op_notInDK {X : Cx} (hu : X.A.units + 65 < cLine) (hK : X.K = K := by rfl) : OpR X (compareOp .NotIn) (rNotInD K) := by subst hK; exact op_notInD hu
end
theorem short_of {α : Type} [DecidableEq α] : ∀ ps : List α, ¬ ps.Nodup → ∃ qs : List α, qs.length < ps.length ∧ ∀ k, k ∈ ps → k ∈ qs
  | [], h => absurd List.nodup_nil h
  | a :: l, h => by
    by_cases m : a ∈ l
    · refine ⟨l, by simp, fun k hk => ?_⟩
      rcases List.mem_cons.mp hk with rfl | hk
      · exact m
      · exact hk
    · obtain ⟨qs, h1, h2⟩ := short_of l fun n => h (List.nodup_cons.mpr ⟨m, n⟩)
      refine ⟨a :: qs, by simpa using h1, fun k hk => ?_⟩
      rcases List.mem_cons.mp hk with rfl | hk
      · exact List.mem_cons_self
      · exact List.mem_cons_of_mem _ (h2 k hk)
/-- the number of distinct members -/
theorem nodup_card {ps : List (Int × Int)} {L : List (List Int)} (h1 : L.Nodup) (h2 : ∀ k, k ∈ L ↔ k ∈ ps.map fun p => [p.1, p.2]) : L.length < ps.length ↔ ¬ ps.Nodup := by
  have inj : ∀ p q : Int × Int, [p.1, p.2] = [q.1, q.2] → p = q := fun p q h => by
    injection h with a b
    injection b with b _
    exact Prod.ext a b
  have sub1 : L ⊆ ps.map fun p => [p.1, p.2] := fun k hk => (h2 k).mp hk
  have le : L.length ≤ ps.length := by
    have := h1.length_le_of_subset sub1
    rwa [List.length_map] at this
  constructor
  · intro hlt hn
    have hm : (ps.map fun p => [p.1, p.2]).Nodup := List.Pairwise.map _ (fun a b h e => h (inj a b e)) hn
    have := hm.length_le_of_subset (fun k hk => (h2 k).mpr hk)
    rw [List.length_map] at this
    omega
  · intro hn
    obtain ⟨qs, q1, q2⟩ := short_of ps hn
    have := h1.length_le_of_subset (l₂ := qs.map fun p => [p.1, p.2]) fun k hk => by
      obtain ⟨p, hp, rfl⟩ := List.mem_map.mp ((h2 k).mp hk)
      exact List.mem_map_of_mem (q2 p hp)
    rw [List.length_map] at this
    omega
/-- f'text{v}' in such an __init__ -/
theorem fmt2 {p : Str} (hp : p.length ≤ 1000) {a : Addr} {v : V} {H : Hp} {R : VK} (hv : FmtV v) (k : ∀ z : Str, R (.str z) H) : tJs [tC (.str p), tFmt (tVar 1)] Str.empty [some (.ref a), some v] H fun out H1 => R (.str out) H1 := by
  have e0 : (Str.empty ++ p).length ≤ 1000 := by rw [slen_app]; have : Str.empty.length = 0 := rfl; omega
  refine ⟨p, rfl, by rw [line_val]; omega, ?_⟩
  cases v with
  | int i =>
    refine ⟨_, rfl, .inr ⟨i, rfl, hv, _, rfl, ?_, k _⟩⟩
    have e := int_text_length_le (k := 1920) (by decide) hv
    rw [slen_app, line_val]
    show _ + (Str.ofString (toString i)).length ≤ _
    rw [PySem.ofString_length]
    omega
  | str z =>
    have hz : z.length ≤ 1000 := hv
    refine ⟨_, rfl, .inl ⟨z, rfl, by rw [line_val]; omega, _, rfl, ?_, k _⟩⟩
    rw [slen_app, line_val]
    omega
  | _ => exact hv.elim
/-! ### new data -/
/-- what is new in H', and of what was there in H that of Hb -/
def mx (Hb H H' : Hp) : Hp := fun b => match H b with
  | none => H' b
  | some _ => Hb b
abbrev nw (H H' : Hp) : Hp := mx (fun _ => none) H H'
theorem mx_new {Hb H H' : Hp} {b : Addr} (h : H b = none) : mx Hb H H' b = H' b := by unfold mx; rw [h]
theorem mx_old {Hb H H' : Hp} {b : Addr} {o : HO} (h : H b = some o) : mx Hb H H' b = Hb b := by unfold mx; rw [h]
theorem Same.over {H H' : Hp} {p : Addr} {o : HO} (s : Same H H') (n : H p = none) : Same H (upd H' p o) := fun b u e => by
  rw [upd_ne (ne_of_none e n)]
  exact s b u e
theorem same_none {H H' : Hp} {b : Addr} (s : Same H H') (n : H' b = none) : H b = none := by
  cases e : H b with
  | none => rfl
  | some o => rw [s b o e] at n; cases n
theorem mx_same {Hb H H' : Hp} (sb : Same Hb H) (s : Same H H') : Same (mx Hb H H') H' := fun b o e => by
  cases h : H b with
  | none => rwa [mx_new h] at e
  | some u =>
    rw [mx_old h] at e
    exact s _ _ (sb _ _ e)
theorem mx_base {Hb H H' : Hp} (sb : Same Hb H) : Same Hb (mx Hb H H') := fun b o e => by rw [mx_old (sb _ _ e)]; exact e
theorem mx_mono {Hb H H1 H2 : Hp} (s : Same H1 H2) : Same (mx Hb H H1) (mx Hb H H2) := fun b o e => by
  cases h : H b with
  | none => rw [mx_new h] at e ⊢; exact s _ _ e
  | some u => rw [mx_old h] at e ⊢; exact e
/-- new since H1 is new since H -/
theorem mx_back {Hb H H1 H2 : Hp} (sb : Same Hb H) (s : Same H H1) : Same (mx Hb H1 H2) (mx Hb H H2) := fun b o e => by
  cases h : H1 b with
  | none => rw [mx_new h] at e; rw [mx_new (same_none s h)]; exact e
  | some u => rw [mx_old h] at e; rw [mx_old (sb _ _ e)]; exact e
theorem mx_self {H H' : Hp} (s : Same H H') : Same H' (mx H H H') := fun b o e => by
  cases h : H b with
  | none => rw [mx_new h]; exact e
  | some u => rw [mx_old h]; rw [s _ _ h] at e; rw [h]; exact e
theorem same_nil {H : Hp} : Same (fun _ => none) H := fun b o e => by cases e
theorem del_le {H : Hp} {D : Addr} : Same (del H D) H := fun b o e => by
  by_cases h : b = D
  · rw [h, del_same] at e; cases e
  · rwa [del_ne h] at e
theorem Same.del {H H' : Hp} {D : Addr} (s : Same H H') : Same (del H D) (del H' D) := fun b o e => by
  by_cases h : b = D
  · rw [h, del_same] at e; cases e
  · rw [del_ne h] at e ⊢; exact s _ _ e
theorem Same.out {H H' : Hp} {D : Addr} (s : Same H H') (n : H D = Option.none) : Same H (L2.del H' D) := fun b o e => by
  show L2.del H' D b = _
  rw [del_ne (ne_of_none e n)]
  exact s _ _ e
/-- what a comprehension has made so far: H the heap ahead of it, Hb what of it the items may hold -/
def WD (K : PySem.W.Frag) (Hb H : Hp) {α : Type} (f : α → PyData) (xs : List α) : Addr → Nat → List V → Hp → Prop := fun D i acc H' => Same H H' ∧ acc.length = i ∧ ∀ (j : Nat) y a, acc[j]? = some y → xs[j]? = some a → Dp K (L2.del (mx Hb H H') D) y (f a)
theorem lcD_next {K : PySem.W.Frag} {Hb H H1 H4 : Hp} {α : Type} {f : α → PyData} {xs : List α} {D : Addr} {i : Nat} {acc : List V} {a : α} {v : V} (sb : Same Hb H) (hD : H D = none) (hx : xs[i]? = some a) (hW : WD K Hb H f xs D i acc H1) (hL : H1 D = some (.lst acc)) (hz : xs.length ≤ 1000000)
    (s4 : Same H1 H4) (d4 : Dp K (mx Hb H1 H4) v (f a)) : LcNx (WD K Hb H f xs) D (i + 1) v H4 := by
  obtain ⟨s1, hc, ha⟩ := hW
  have hi : i < xs.length := (List.getElem?_eq_some_iff.mp hx).1
  have e0 : L2.del (mx Hb H (upd H4 D (.lst (acc ++ [v])))) D = L2.del (mx Hb H H4) D := funext fun b => by
    by_cases h : b = D
    · rw [h, del_same, del_same]
    · rw [del_ne h, del_ne h]
      cases e : H b with
      | none => rw [mx_new e, mx_new e, upd_ne h]
      | some u => rw [mx_old e, mx_old e]
  refine lc_next (s4 _ _ hL) (by rw [line_val]; omega) ⟨Same.over (s1.trans s4) hD, by simp [hc], fun j y b hj hb => ?_⟩
  rw [e0]
  by_cases hji : j < acc.length
  · rw [List.getElem?_append_left hji] at hj
    exact Dp.same (Same.del (mx_mono s4)) _ _ (ha j y b hj hb)
  · have hlt := (List.getElem?_eq_some_iff.mp hj).1
    rw [List.length_append, List.length_singleton] at hlt
    obtain rfl : j = acc.length := by omega
    rw [List.getElem?_append_right (Nat.le_refl _), Nat.sub_self] at hj
    cases hj
    subst hc
    rw [hx] at hb
    cases hb
    refine Dp.same (fun b o e => ?_) _ _ d4
    have q := mx_back sb s1 b o e
    by_cases h : b = D
    · subst h
      rw [mx_old hL] at e
      rw [sb _ _ e] at hD
      cases hD
    · rw [del_ne h]; exact q
theorem lcD {K : PySem.W.Frag} {σ : L2.St} {H : Hp} {Q : VK} {J : It} {n : Nat} {G : Hp → Prop} {Y : Nat → Hp → V → Hp → Prop} (w : Walk J n G Y) {g : TG} {tt : TT} {te : TE} {vs : List Nat} {α : Type} {f : α → PyData} (xs : List α) (Hb : Hp) (hn : xs.length = n) (hG : ∀ H', Same H H' → G H')
    (ws : ∀ D i a x acc H1 H2, H D = none → xs[i]? = some a → WD K Hb H f xs D i acc H1 → H1 D = some (.lst acc) → Y i H1 x H2 → g x (wipe σ vs) H2 fun σ2 H2 => wipe σ2 vs = wipe σ vs ∧ tt σ2 H2 fun b H3 =>
      if b = true then te σ2 H3 fun y H4 => LcNx (WD K Hb H f xs) D (i + 1) y H4 else LcSk (WD K Hb H f xs) D (i + 1) H3)
    (wd : ∀ D H' ys, H D = none → Same H H' → H' D = some (.lst ys) → Dp K (mx Hb H H') (.ref D) (.list (xs.map f)) → (∀ l, H' l = none → Dp K (mx Hb H (upd H' l (.tup ys))) (.ref l) (.tuple (xs.map f))) → Q (.ref D) H') :
    LcIs J H g tt te vs σ Q := by
  refine l_lc w (WD K Hb H f xs) (fun D hD => ⟨Same.over (Same.refl H) hD, rfl, fun j y a h => by simp at h⟩) (fun D i acc H' hD ⟨s, _⟩ => hG H' s) ?_ ?_
  · rintro D i acc x H1 H2 hD hi hW hL y
    exact ws D i _ x acc H1 H2 hD (List.getElem?_eq_getElem (by omega)) hW hL y
  · rintro D ys H' hD ⟨s1, hc, ha⟩ hL
    refine wd D H' ys hD s1 hL ?_ fun l hl => ?_
    · refine of_lst (SqL.of (by rw [mx_new hD]; exact hL)) (by omega) fun i y x h1 h2 => ?_
      exact Dp.same del_le _ _ (ha i y x h1 h2)
    · refine of_tup (SqT.of (by rw [mx_new (same_none s1 hl)]; exact upd_same)) (by omega) fun i y x h1 h2 => ?_
      exact Dp.same (fun b o e => mx_mono (Same.over (Same.refl H') hl) b o (del_le b o e)) _ _ (ha i y x h1 h2)
/-! slices of lists -/
theorem v_slLs {K : PySem.W.Frag} {H : Hp} {Q : VK} {p : Addr} {xs : List V} {lo hi : Option Int} (h : SqL K H p xs) (k : ∀ l, H l = none → Q (.ref l) (upd H l (.lst (cutV xs lo hi)))) : gSl K (.ref p) lo hi H Q := .inl ⟨p, xs, rfl, h, k⟩
theorem cut_take {xs : List V} {n : Nat} : cutV xs none (some (n : Int)) = xs.take n := by
  unfold cutV
  have e1 : HT.sIx xs.length 0 none = 0 := rfl
  rw [e1, List.drop_zero, Nat.sub_zero]
  have e2 : HT.sIx xs.length xs.length (some (n : Int)) = min n xs.length := HT.sIx_nat _ _ _
  rw [e2]
  by_cases h : n ≤ xs.length
  · rw [Nat.min_eq_left h]
  · rw [Nat.min_eq_right (by omega), List.take_of_length_le (Nat.le_refl _), List.take_of_length_le (by omega)]
theorem cut_drop {xs : List V} {n : Nat} : cutV xs (some (n : Int)) none = xs.drop n := by
  unfold cutV
  have e1 : HT.sIx xs.length xs.length none = xs.length := rfl
  have e2 : HT.sIx xs.length 0 (some (n : Int)) = min n xs.length := HT.sIx_nat _ _ _
  rw [e1, e2]
  by_cases h : n ≤ xs.length
  · rw [Nat.min_eq_left h, List.take_of_length_le (by rw [List.length_drop]; omega)]
  · rw [Nat.min_eq_right (by omega), List.drop_of_length_le (Nat.le_refl _), List.drop_of_length_le (by omega)]
    simp
/-! ### the heap with some objects hidden: those that the law still writes -/
def hid (H : Hp) (L : List Addr) : Hp := fun b => if b ∈ L then none else H b
theorem hid_out {H : Hp} {L : List Addr} {b : Addr} (h : b ∉ L) : hid H L b = H b := if_neg h
theorem hid_in {H : Hp} {L : List Addr} {b : Addr} (h : b ∈ L) : hid H L b = none := if_pos h
theorem hid_le {H : Hp} {L : List Addr} : Same (hid H L) H := fun b o e => by
  by_cases h : b ∈ L
  · rw [hid_in h] at e; cases e
  · rwa [hid_out h] at e
theorem hid_upd {H : Hp} {L : List Addr} {q : Addr} {o : HO} (h : q ∈ L) : hid (upd H q o) L = hid H L := funext fun b => by
  by_cases hb : b ∈ L
  · rw [hid_in hb, hid_in hb]
  · rw [hid_out hb, hid_out hb, upd_ne fun z => hb (by rw [z]; exact h)]
theorem hid_eq {H H' : Hp} {L : List Addr} {q : Addr} (h : q ∈ L) (e : ∀ b, b ≠ q → H' b = H b) : hid H' L = hid H L := funext fun b => by
  by_cases hb : b ∈ L
  · rw [hid_in hb, hid_in hb]
  · rw [hid_out hb, hid_out hb, e b fun z => hb (by rw [z]; exact h)]
theorem hid_new {H : Hp} {L : List Addr} {q : Addr} {o : HO} (h : H q = none) : Same (hid H L) (hid (upd H q o) L) := fun b u e => by
  by_cases hb : b ∈ L
  · rw [hid_in hb] at e; cases e
  · rw [hid_out hb] at e ⊢
    rw [upd_ne (ne_of_none e h)]; exact e
theorem hid_same {H H' : Hp} {L : List Addr} (s : Same H H') : Same (hid H L) (hid H' L) := fun b u e => by
  by_cases hb : b ∈ L
  · rw [hid_in hb] at e; cases e
  · rw [hid_out hb] at e ⊢; exact s _ _ e
theorem hid_sub {H : Hp} {L L' : List Addr} (h : ∀ b ∈ L', b ∈ L) : Same (hid H L) (hid H L') := fun b u e => by
  by_cases hb : b ∈ L
  · rw [hid_in hb] at e; cases e
  · rw [hid_out hb] at e
    rw [hid_out fun z => hb (h b z)]; exact e
theorem hid_more {H : Hp} {L L' : List Addr} {q : Addr} {o : HO} (hq : H q = none) (h : ∀ b ∈ L', b ∈ L ∨ b = q) : Same (hid H L) (hid (upd H q o) L') := fun b u e => by
  by_cases hb : b ∈ L
  · rw [hid_in hb] at e; cases e
  · rw [hid_out hb] at e
    have n := ne_of_none e hq
    rw [hid_out fun z => (h b z).elim hb n, upd_ne n]; exact e
/-- the list at R holds the data xs, its items ys; L is hidden (R among it) -/
structure LstS (K : PySem.W.Frag) (H : Hp) (L : List Addr) (R : Addr) {α : Type} (f : α → PyData) (xs : List α) (ys : List V) : Prop where
  at_ : H R = some (.lst ys)
  len : ys.length = xs.length
  it : ∀ (i : Nat) y x, ys[i]? = some y → xs[i]? = some x → Dp K (hid H L) y (f x)
section
variable {K : PySem.W.Frag} {H H' : Hp} {L L' : List Addr} {R q : Addr} {α : Type} {f : α → PyData} {xs : List α} {ys : List V} {x : α} {y : V} {o : HO}
theorem LstS.nil (h : H R = some (.lst [])) : LstS K H L R f [] [] := ⟨h, rfl, fun i y x h => by simp at h⟩
theorem LstS.grow (a : LstS K H L R f xs ys) (h : H' R = some (.lst ys)) (s : Same (hid H L) (hid H' L')) : LstS K H' L' R f xs ys := ⟨h, a.len, fun i y x h1 h2 => Dp.same s _ _ (a.it i y x h1 h2)⟩
theorem LstS.but (a : LstS K H L R f xs ys) (h : q ∈ L) (n : R ≠ q) (e : ∀ b, b ≠ q → H' b = H b) : LstS K H' L R f xs ys := a.grow ((e R n).trans a.at_) (by rw [hid_eq h e]; exact Same.refl _)
theorem LstS.new (a : LstS K H L R f xs ys) (h : H q = none) : LstS K (upd H q o) L R f xs ys := a.grow (by rw [upd_ne (ne_of_none a.at_ h)]; exact a.at_) (hid_new h)
theorem LstS.other (a : LstS K H L R f xs ys) (h : q ∈ L) (n : R ≠ q) : LstS K (upd H q o) L R f xs ys := a.grow (by rw [upd_ne n]; exact a.at_) (by rw [hid_upd h]; exact Same.refl _)
theorem LstS.more (a : LstS K H L R f xs ys) (h : H q = none) (hl : ∀ b ∈ L', b ∈ L ∨ b = q) : LstS K (upd H q o) L' R f xs ys := a.grow (by rw [upd_ne (ne_of_none a.at_ h)]; exact a.at_) (hid_more h hl)
theorem LstS.less (a : LstS K H L R f xs ys) (hl : ∀ b ∈ L', b ∈ L) : LstS K H L' R f xs ys := a.grow a.at_ (hid_sub hl)
theorem LstS.app (a : LstS K H L R f xs ys) (h : R ∈ L) (d : Dp K (hid H L) y (f x)) : LstS K (upd H R (.lst (ys ++ [y]))) L R f (xs ++ [x]) (ys ++ [y]) := ⟨upd_same, by rw [List.length_append, List.length_append, a.len]; rfl, fun i u z h1 h2 => by
  rw [hid_upd h]
  by_cases hi : i < ys.length
  · rw [List.getElem?_append_left hi] at h1
    rw [List.getElem?_append_left (by rw [← a.len]; exact hi)] at h2
    exact a.it i u z h1 h2
  · rw [List.getElem?_append_right (by omega)] at h1
    rw [List.getElem?_append_right (by rw [← a.len]; omega), ← a.len] at h2
    have e : i - ys.length = 0 := by
      have := (List.getElem?_eq_some_iff.mp h1).1
      rw [List.length_singleton] at this
      omega
    rw [e] at h1 h2
    cases h1
    cases h2
    exact d⟩
theorem LstS.put (a : LstS K H L R f xs ys) {n : Nat} (h : R ∈ L) (d : Dp K (hid H L) y (f x)) : LstS K (upd H R (.lst (ys.set n y))) L R f (xs.set n x) (ys.set n y) := ⟨upd_same, by rw [List.length_set, List.length_set, a.len], fun i u z h1 h2 => by
  rw [hid_upd h]
  by_cases hi : n = i
  · subst hi
    have h3 := (List.getElem?_eq_some_iff.mp h1).1
    rw [List.length_set] at h3
    rw [List.getElem?_set_self h3] at h1
    rw [List.getElem?_set_self (by rw [← a.len]; exact h3)] at h2
    cases h1
    cases h2
    exact d
  · rw [List.getElem?_set_ne hi] at h1 h2
    exact a.it i u z h1 h2⟩
theorem LstS.fin (a : LstS K H L R f xs ys) (hl : ∀ b ∈ L', b ∈ L) (h : R ∉ L') : Dp K (hid H L') (.ref R) (.list (xs.map f)) := of_lst (SqL.of (by rw [hid_out h]; exact a.at_)) a.len fun i y x h1 h2 => Dp.same (hid_sub hl) _ _ (a.it i y x h1 h2)
end
/-! ### l + m, lists that are read -/
def rCatS (K : PySem.W.Frag) : R2 := fun x y H Q => ∃ l b xs zs, x = .ref l ∧ y = .ref b ∧ SqL K H l xs ∧ SqL K H b zs ∧ xs.length + zs.length ≤ sizeLine ∧ ∀ p, H p = none → Q (.ref p) (upd H p (.lst (xs ++ zs)))
theorem g_catS {X : Cx} {K : PySem.W.Frag} (hK : X.K = K := by rfl) : OpR X (binaryOp .Add) (rCatS K) := by
  subst hK
  intro pins s σ H x y v u Q I rx ry h
  obtain ⟨l, b, xs, zs, rfl, rfl, hH, hB, hz, q⟩ := h
  cases rx
  cases ry
  obtain ⟨its, r, ⟨⟨cls, dd, data, sl⟩, n, ho, hc, hdn, hd⟩, hl⟩ := I.list hH
  obtain ⟨its2, r2, ⟨⟨cls2, dd2, data2, sl2⟩, n2, ho2, hc2, hdn2, hd2⟩, hl2⟩ := I.list hB
  simp only at hc hd hc2 hd2
  subst hc hd hc2 hd2
  have e : its.toArray ++ its2.toArray = (its ++ its2).toArray := by simp
  have k1 := r.length
  have k2 := r2.length
  refine concat_meets ⟨_, ho, rfl⟩ ⟨_, ho2, rfl⟩ noFill_list_add seq_list_add PySem.F.slot_list_add PySem.F.entry_list_add (PySem.F.args_list_add_2 _ _) (list_addW l b its.toArray its2.toArray n n2 dd dd2 sl sl2 (by rw [List.size_toArray, List.size_toArray]; omega)) ⟨ho, ho2, ?_⟩
  rw [e]
  exact ⟨.ref _, _, I.lnew (t' := s.toks) (r.append r2) (by rw [List.length_append]; omega), rfl, q _ I.fresh⟩
theorem v_catS {K : PySem.W.Frag} {H : Hp} {Q : VK} {p q : Addr} {xs ys : List V} (h1 : SqL K H p xs) (h2 : SqL K H q ys) (h : xs.length + ys.length ≤ sizeLine) (k : ∀ l, H l = none → Q (.ref l) (upd H l (.lst (xs ++ ys)))) : rCatS K (.ref p) (.ref q) H Q := ⟨p, q, xs, ys, rfl, rfl, h1, h2, h, k⟩
theorem t_lstS {K : PySem.W.Frag} {H : Hp} {R : Bool → Prop} {p : Addr} {xs : List V} (l : SqL K H p xs) (h : R (!xs.isEmpty)) : ∃ k, TruV K (.ref p) H k ∧ R k := ⟨_, .inl ⟨xs, l, rfl⟩, h⟩
end G

set_option Elab.async false
set_option linter.all false
set_option maxRecDepth 100000
set_option maxHeartbeats 4000000
/-! A1: abstract values: data as trees, objects that are still written in a short memory; how they stand on the heap (own work). -/
namespace AV
open PySem PySem.Spec PyProof.Rows L2 G
/-- a value as a tree; r: what is named by its place (an object that is still written, a class, a def) -/
inductive D where
  | non | bl (b : Bool) | int (i : Int) | str (s : Str) | ty (n : String) | r (a : Addr)
  | tup (ds : List D) | lst (ds : List D) | ins (C : Addr) (fs : List (Str × D))
  /-- a list that is only read (the script) -/
  | scr (ds : List D)
/-- an object that may be written -/
inductive Ob where
  | lst (ds : List D) | ins (C : Addr) (fs : List (Str × D)) | xd (fs : List (Str × D)) | dct (fs : List (Str × D))
abbrev Mem := List (Addr × Ob)
abbrev AS := List (Option D)
abbrev AQ := D → Mem → Prop
def Ob.toD : Ob → D
  | .lst ds => .lst ds
  | .ins C fs => .ins C fs
  | .xd _ => .non
  | .dct _ => .non
/-- may be told as data -/
def Ob.fzb : Ob → Bool
  | .lst _ => true
  | .ins _ _ => true
  | _ => false
/-- a dict's items, by texts -/
abbrev inrK (vfs : List (Str × V)) : List (Key × V) := vfs.map fun p => (Sum.inr p.1, p.2)
section
variable (K : PySem.W.Frag)
inductive Rv (F : Hp) : V → D → Prop
  | non : Rv F .non .non
  | bl (b : Bool) : Rv F (.bl b) (.bl b)
  | int (i : Int) : Rv F (.int i) (.int i)
  | str (z : Str) : Rv F (.str z) (.str z)
  | ty (n : String) : Rv F (.ty n) (.ty n)
  | r (a : Addr) : Rv F (.ref a) (.r a)
  | tup {a : Addr} {vs : List V} {ds : List D} : SqT K F a vs → vs.length = ds.length → (∀ (i : Nat) v d, vs[i]? = some v → ds[i]? = some d → Rv F v d) → Rv F (.ref a) (.tup ds)
  | scr {a : Addr} {vs : List V} {ds : List D} : SqL K F a vs → vs.length = ds.length → (∀ (i : Nat) v d, vs[i]? = some v → ds[i]? = some d → Rv F v d) → Rv F (.ref a) (.scr ds)
  | lst {a : Addr} {vs : List V} {ds : List D} : F a = some (.lst vs) → vs.length = ds.length → (∀ (i : Nat) v d, vs[i]? = some v → ds[i]? = some d → Rv F v d) → Rv F (.ref a) (.lst ds)
  | ins {a C dx : Addr} {vfs : List (Str × V)} {fs : List (Str × D)} : F a = some (.ins C dx vfs) → vfs.length = fs.length → (∀ (i : Nat) p q, vfs[i]? = some p → fs[i]? = some q → p.1 = q.1) → (∀ (i : Nat) p q, vfs[i]? = some p → fs[i]? = some q → Rv F p.2 q.2) → Rv F (.ref a) (.ins C fs)
def RvL (F : Hp) (vs : List V) (ds : List D) : Prop := vs.length = ds.length ∧ ∀ (i : Nat) v d, vs[i]? = some v → ds[i]? = some d → Rv K F v d
def RvF (F : Hp) (vfs : List (Str × V)) (fs : List (Str × D)) : Prop := vfs.length = fs.length ∧ ∀ (i : Nat) p q, vfs[i]? = some p → fs[i]? = some q → p.1 = q.1 ∧ Rv K F p.2 q.2
def RO (F H : Hp) (a : Addr) : Ob → Prop
  | .lst ds => ∃ vs, H a = some (.lst vs) ∧ RvL K F vs ds
  | .ins C fs => ∃ dx vfs, H a = some (.ins C dx vfs) ∧ RvF K F vfs fs
  | .xd fs => ∃ vfs, H a = some (.xd vfs) ∧ RvF K F vfs fs
  | .dct fs => ∃ vfs, H a = some (.dK (inrK vfs)) ∧ RvF K F vfs fs ∧ (fs.map (·.1)).Nodup
/-- the memory M and the part F that is never written again, on the heap H -/
structure Fr (M : Mem) (F H : Hp) : Prop where
  sub : Same F H
  out : ∀ p ∈ M, F p.1 = none
  nod : (M.map (·.1)).Nodup
  at_ : ∀ p ∈ M, RO K F H p.1 p.2
def Rs (F : Hp) (xs : AS) (σ : L2.St) : Prop := xs.length = σ.length ∧ ∀ (i : Nat) d, xs[i]? = some (some d) → ∃ v, σ[i]? = some (some v) ∧ Rv K F v d
end
section
variable {K : PySem.W.Frag} {F F' H H' : Hp} {M M' : Mem} {a b : Addr} {o o' : Ob} {v : V} {d : D} {vs : List V} {ds : List D} {vfs : List (Str × V)} {fs : List (Str × D)} {xs : AS} {σ : L2.St}
theorem Rv.same (s : Same F F') (h : Rv K F v d) : Rv K F' v d := by
  induction h with
  | non => exact .non
  | bl b => exact .bl b
  | int i => exact .int i
  | str z => exact .str z
  | ty n => exact .ty n
  | r a => exact .r a
  | tup h1 h2 _ ih => exact .tup (h1.ext s) h2 fun i v d e1 e2 => ih i v d e1 e2
  | scr h1 h2 _ ih => exact .scr (h1.ext s) h2 fun i v d e1 e2 => ih i v d e1 e2
  | lst h1 h2 _ ih => exact .lst (s _ _ h1) h2 fun i v d e1 e2 => ih i v d e1 e2
  | ins h1 h2 h3 _ ih => exact .ins (s _ _ h1) h2 h3 ih
theorem RvL.same (s : Same F F') (h : RvL K F vs ds) : RvL K F' vs ds := ⟨h.1, fun i v d e1 e2 => (h.2 i v d e1 e2).same s⟩
theorem RvF.same (s : Same F F') (h : RvF K F vfs fs) : RvF K F' vfs fs := ⟨h.1, fun i p q e1 e2 => ⟨(h.2 i p q e1 e2).1, (h.2 i p q e1 e2).2.same s⟩⟩
theorem Rs.same (s : Same F F') (h : Rs K F xs σ) : Rs K F' xs σ := ⟨h.1, fun i d e => by
  obtain ⟨v, e1, r⟩ := h.2 i d e
  exact ⟨v, e1, r.same s⟩⟩
theorem RvL.nil : RvL K F [] [] := ⟨rfl, fun i v d h => by simp at h⟩
theorem RvL.cons (h1 : Rv K F v d) (h2 : RvL K F vs ds) : RvL K F (v :: vs) (d :: ds) := ⟨by simp [h2.1], fun i w e e1 e2 => by
  cases i with
  | zero => cases e1; cases e2; exact h1
  | succ i => exact h2.2 i w e (by simpa using e1) (by simpa using e2)⟩
theorem RvL.inv_nil (h : RvL K F vs []) : vs = [] := List.eq_nil_of_length_eq_zero h.1
theorem RvL.inv (h : RvL K F vs (d :: ds)) : ∃ v vs', vs = v :: vs' ∧ Rv K F v d ∧ RvL K F vs' ds := by
  cases vs with
  | nil => have := h.1; simp at this
  | cons v vs => exact ⟨v, vs, rfl, h.2 0 v d rfl rfl, by have := h.1; simpa using this, fun i w e e1 e2 => h.2 (i + 1) w e (by simpa using e1) (by simpa using e2)⟩
theorem RvL.append {vs' : List V} {ds' : List D} (h1 : RvL K F vs ds) (h2 : RvL K F vs' ds') : RvL K F (vs ++ vs') (ds ++ ds') := ⟨by simp [h1.1, h2.1], fun i v d e1 e2 => by
  by_cases hi : i < vs.length
  · rw [List.getElem?_append_left hi] at e1
    rw [List.getElem?_append_left (by rw [← h1.1]; exact hi)] at e2
    exact h1.2 i v d e1 e2
  · rw [List.getElem?_append_right (by omega)] at e1
    rw [List.getElem?_append_right (by rw [← h1.1]; omega), ← h1.1] at e2
    exact h2.2 _ v d e1 e2⟩
theorem RvL.set {n : Nat} (h : RvL K F vs ds) (r : Rv K F v d) : RvL K F (vs.set n v) (ds.set n d) := ⟨by simp [h.1], fun i w e e1 e2 => by
  by_cases hi : n = i
  · subst hi
    have h3 := (List.getElem?_eq_some_iff.mp e1).1
    rw [List.length_set] at h3
    rw [List.getElem?_set_self h3] at e1
    rw [List.getElem?_set_self (by rw [← h.1]; exact h3)] at e2
    cases e1
    cases e2
    exact r
  · rw [List.getElem?_set_ne hi] at e1 e2
    exact h.2 i w e e1 e2⟩
theorem RvL.get (h : RvL K F vs ds) {i : Nat} (e : ds[i]? = some d) : ∃ v, vs[i]? = some v ∧ Rv K F v d := by
  have hi := (List.getElem?_eq_some_iff.mp e).1
  have e1 : vs[i]? = some (vs[i]'(by rw [h.1]; exact hi)) := List.getElem?_eq_getElem _
  exact ⟨_, e1, h.2 i _ d e1 e⟩
theorem RvL.sub {f : Nat → Nat} {vs' : List V} {ds' : List D} (h : RvL K F vs ds) (hl : vs'.length = ds'.length) (e1 : ∀ i v, vs'[i]? = some v → vs[f i]? = some v) (e2 : ∀ i d, ds'[i]? = some d → ds[f i]? = some d) : RvL K F vs' ds' :=
  ⟨hl, fun i v d q1 q2 => h.2 (f i) v d (e1 i v q1) (e2 i d q2)⟩
theorem RvL.take (h : RvL K F vs ds) (n : Nat) : RvL K F (vs.take n) (ds.take n) := ⟨by simp [h.1], fun i v d e1 e2 => by
  rw [List.getElem?_take] at e1 e2
  split at e1
  · rename_i hi
    rw [if_pos hi] at e2
    exact h.2 i v d e1 e2
  · cases e1⟩
theorem RvL.drop (h : RvL K F vs ds) (n : Nat) : RvL K F (vs.drop n) (ds.drop n) := ⟨by simp [h.1], fun i v d e1 e2 => by
  rw [List.getElem?_drop] at e1 e2
  exact h.2 _ v d e1 e2⟩
theorem RvL.reverse (h : RvL K F vs ds) : RvL K F vs.reverse ds.reverse := ⟨by simp [h.1], fun i v d e1 e2 => by
  have hi := (List.getElem?_eq_some_iff.mp e1).1
  rw [List.length_reverse] at hi
  rw [List.getElem?_reverse hi] at e1
  rw [List.getElem?_reverse (by rw [← h.1]; exact hi), ← h.1] at e2
  exact h.2 _ v d e1 e2⟩
theorem RvL.ints {is : List Int} (h : RvL K F vs (is.map D.int)) : vs = is.map V.int := by
  refine List.ext_getElem? fun i => ?_
  cases e : vs[i]? with
  | none => rw [List.getElem?_eq_none (by rw [List.length_map]; have := h.1; rw [List.length_map] at this; rw [← this]; exact List.getElem?_eq_none_iff.mp e)]
  | some v =>
    have hi := (List.getElem?_eq_some_iff.mp e).1
    have hl := h.1
    rw [List.length_map] at hl
    have e2 : (is.map D.int)[i]? = some (.int is[i]) := by rw [List.getElem?_map, List.getElem?_eq_getElem (by omega)]; rfl
    have r := h.2 i v _ e e2
    cases r
    rw [List.getElem?_map, List.getElem?_eq_getElem (by omega)]; rfl
theorem RvL.strs {is : List Str} (h : RvL K F vs (is.map D.str)) : vs = is.map V.str := by
  refine List.ext_getElem? fun i => ?_
  cases e : vs[i]? with
  | none => rw [List.getElem?_eq_none (by rw [List.length_map]; have := h.1; rw [List.length_map] at this; rw [← this]; exact List.getElem?_eq_none_iff.mp e)]
  | some v =>
    have hi := (List.getElem?_eq_some_iff.mp e).1
    have hl := h.1
    rw [List.length_map] at hl
    have e2 : (is.map D.str)[i]? = some (.str is[i]) := by rw [List.getElem?_map, List.getElem?_eq_getElem (by omega)]; rfl
    have r := h.2 i v _ e e2
    cases r
    rw [List.getElem?_map, List.getElem?_eq_getElem (by omega)]; rfl
theorem RvL.bls {is : List Bool} (h : RvL K F vs (is.map D.bl)) : vs = is.map V.bl := by
  refine List.ext_getElem? fun i => ?_
  cases e : vs[i]? with
  | none => rw [List.getElem?_eq_none (by rw [List.length_map]; have := h.1; rw [List.length_map] at this; rw [← this]; exact List.getElem?_eq_none_iff.mp e)]
  | some v =>
    have hi := (List.getElem?_eq_some_iff.mp e).1
    have hl := h.1
    rw [List.length_map] at hl
    have e2 : (is.map D.bl)[i]? = some (.bl is[i]) := by rw [List.getElem?_map, List.getElem?_eq_getElem (by omega)]; rfl
    have r := h.2 i v _ e e2
    cases r
    rw [List.getElem?_map, List.getElem?_eq_getElem (by omega)]; rfl
theorem Rv.tup_inv (h : Rv K F v (.tup ds)) : ∃ a vs, v = .ref a ∧ SqT K F a vs ∧ RvL K F vs ds := by
  cases h with
  | tup h1 h2 h3 => exact ⟨_, _, rfl, h1, h2, h3⟩
theorem Rv.scr_inv (h : Rv K F v (.scr ds)) : ∃ a vs, v = .ref a ∧ SqL K F a vs ∧ RvL K F vs ds := by
  cases h with
  | scr h1 h2 h3 => exact ⟨_, _, rfl, h1, h2, h3⟩
theorem Rv.lst_inv0 (h : Rv K F v (.lst ds)) : ∃ a vs, v = .ref a ∧ F a = some (.lst vs) ∧ RvL K F vs ds := by
  cases h with
  | lst h1 h2 h3 => exact ⟨_, _, rfl, h1, h2, h3⟩
theorem Rv.lst_inv (h : Rv K F v (.lst ds)) : ∃ a vs, v = .ref a ∧ SqL K F a vs ∧ RvL K F vs ds := by
  obtain ⟨a, vs, e, h1, h2⟩ := h.lst_inv0
  exact ⟨a, vs, e, SqL.of h1, h2⟩
theorem Rv.ins_inv {C : Addr} (h : Rv K F v (.ins C fs)) : ∃ a dx vfs, v = .ref a ∧ F a = some (.ins C dx vfs) ∧ RvF K F vfs fs := by
  cases h with
  | ins h1 h2 h3 h4 => exact ⟨_, _, _, rfl, h1, h2, fun i p q a b => ⟨h3 i p q a b, h4 i p q a b⟩⟩
theorem Rv.of_tup (h1 : SqT K F a vs) (h2 : RvL K F vs ds) : Rv K F (.ref a) (.tup ds) := .tup h1 h2.1 h2.2
theorem Rv.of_lst (h1 : F a = some (.lst vs)) (h2 : RvL K F vs ds) : Rv K F (.ref a) (.lst ds) := .lst h1 h2.1 h2.2
theorem RvF.lookup {f : Str} (h : RvF K F vfs fs) (e : fs.lookup f = some d) : ∃ v, vfs.lookup f = some v ∧ Rv K F v d := by
  induction fs generalizing vfs with
  | nil => simp at e
  | cons q fs ih =>
    cases vfs with
    | nil => have := h.1; simp at this
    | cons p vfs =>
      obtain ⟨e1, r⟩ := h.2 0 p q rfl rfl
      obtain ⟨p1, p2⟩ := p
      obtain ⟨q1, q2⟩ := q
      simp only at e1 r
      subst e1
      rw [List.lookup_cons] at e ⊢
      split at e
      · rename_i hf
        cases e
        exact ⟨p2, rfl, r⟩
      · rename_i hf
        obtain ⟨v, e2, r2⟩ := ih (vfs := vfs) ⟨by have := h.1; simpa using this, fun i p q a b => h.2 (i + 1) p q (by simpa using a) (by simpa using b)⟩ e
        exact ⟨v, e2, r2⟩
theorem RvF.lookup_none {f : Str} (h : RvF K F vfs fs) (e : fs.lookup f = none) : vfs.lookup f = none := by
  induction fs generalizing vfs with
  | nil => rw [List.eq_nil_of_length_eq_zero h.1]; rfl
  | cons q fs ih =>
    cases vfs with
    | nil => rfl
    | cons p vfs =>
      obtain ⟨e1, r⟩ := h.2 0 p q rfl rfl
      obtain ⟨p1, p2⟩ := p
      obtain ⟨q1, q2⟩ := q
      simp only at e1 r
      subst e1
      rw [List.lookup_cons] at e ⊢
      split at e
      · cases e
      · rename_i hf
        exact ih (vfs := vfs) ⟨by have := h.1; simpa using this, fun i p q a b => h.2 (i + 1) p q (by simpa using a) (by simpa using b)⟩ e
/-- the field f becomes d -/
def put (f : Str) (d : D) : List (Str × D) → List (Str × D)
  | [] => [(f, d)]
  | (g, e) :: r => if g = f then (g, d) :: r else (g, e) :: put f d r
theorem RvF.put {f : Str} (h : RvF K F vfs fs) (r : Rv K F v d) : RvF K F (putF f v vfs) (put f d fs) := by
  induction fs generalizing vfs with
  | nil =>
    rw [List.eq_nil_of_length_eq_zero h.1]
    exact ⟨rfl, fun i p q e1 e2 => by
      cases i with
      | zero => cases e1; cases e2; exact ⟨rfl, r⟩
      | succ i => simp [putF] at e1⟩
  | cons q fs ih =>
    cases vfs with
    | nil => have := h.1; simp at this
    | cons p vfs =>
      obtain ⟨e1, r0⟩ := h.2 0 p q rfl rfl
      obtain ⟨p1, p2⟩ := p
      obtain ⟨q1, q2⟩ := q
      simp only at e1 r0
      subst e1
      have h' : RvF K F vfs fs := ⟨by have := h.1; simpa using this, fun i p q a b => h.2 (i + 1) p q (by simpa using a) (by simpa using b)⟩
      have cons : ∀ {x : Str} {v : V} {d : D} {vfs : List (Str × V)} {fs : List (Str × D)}, Rv K F v d → RvF K F vfs fs → RvF K F ((x, v) :: vfs) ((x, d) :: fs) := fun r z => ⟨by simp [z.1], fun i p q a b => by
        cases i with
        | zero => cases a; cases b; exact ⟨rfl, r⟩
        | succ i => exact z.2 i p q (by simpa using a) (by simpa using b)⟩
      unfold putF AV.put
      split
      · exact cons r h'
      · exact cons r0 (ih h')
/-! the memory -/
inductive At : Mem → Addr → Ob → (Ob → Mem) → Prop
  | hd {M : Mem} {a : Addr} {o : Ob} : At ((a, o) :: M) a o fun o' => (a, o') :: M
  | tl {M : Mem} {a : Addr} {o : Ob} {p : Addr × Ob} {u : Ob → Mem} : At M a o u → At (p :: M) a o fun o' => p :: u o'
inductive Rem : Mem → Addr → Ob → Mem → Prop
  | hd {M : Mem} {a : Addr} {o : Ob} : Rem ((a, o) :: M) a o M
  | tl {M M' : Mem} {a : Addr} {o : Ob} {p : Addr × Ob} : Rem M a o M' → Rem (p :: M) a o (p :: M')
theorem At.mem {u : Ob → Mem} (h : At M a o u) : (a, o) ∈ M := by
  induction h with
  | hd => exact List.mem_cons_self
  | tl _ ih => exact List.mem_cons_of_mem _ ih
theorem At.keys {u : Ob → Mem} (h : At M a o u) : (u o').map (·.1) = M.map (·.1) := by
  induction h with
  | hd => rfl
  | tl _ ih => simp [ih]
theorem At.of {u : Ob → Mem} (h : At M a o u) (n : (M.map (·.1)).Nodup) {p : Addr × Ob} (hp : p ∈ u o') : p = (a, o') ∨ (p ∈ M ∧ p.1 ≠ a) := by
  induction h with
  | @hd M a o =>
    rcases List.mem_cons.mp hp with rfl | hp
    · exact .inl rfl
    · refine .inr ⟨List.mem_cons_of_mem _ hp, fun e => ?_⟩
      rw [List.map_cons, List.nodup_cons] at n
      have z : p.1 ∈ M.map (·.1) := List.mem_map_of_mem hp
      rw [e] at z
      exact n.1 z
  | @tl M a o q u h ih =>
    rcases List.mem_cons.mp hp with rfl | hp
    · refine .inr ⟨List.mem_cons_self, fun e => ?_⟩
      rw [List.map_cons, List.nodup_cons] at n
      exact n.1 (by rw [e]; exact List.mem_map_of_mem h.mem)
    · rw [List.map_cons, List.nodup_cons] at n
      rcases ih n.2 hp with z | ⟨z1, z2⟩
      · exact .inl z
      · exact .inr ⟨List.mem_cons_of_mem _ z1, z2⟩
theorem Rem.mem (h : Rem M a o M') : (a, o) ∈ M := by
  induction h with
  | hd => exact List.mem_cons_self
  | tl _ ih => exact List.mem_cons_of_mem _ ih
theorem Rem.sub (h : Rem M a o M') : ∀ p ∈ M', p ∈ M := by
  induction h with
  | hd => exact fun p hp => List.mem_cons_of_mem _ hp
  | tl _ ih => exact fun p hp => (List.mem_cons.mp hp).elim (fun e => by rw [e]; exact List.mem_cons_self) fun e => List.mem_cons_of_mem _ (ih p e)
theorem Rem.nod (h : Rem M a o M') (n : (M.map (·.1)).Nodup) : (M'.map (·.1)).Nodup ∧ a ∉ M'.map (·.1) := by
  induction h with
  | hd =>
    rw [List.map_cons, List.nodup_cons] at n
    exact ⟨n.2, n.1⟩
  | @tl M M' a o p h ih =>
    rw [List.map_cons, List.nodup_cons] at n
    obtain ⟨i1, i2⟩ := ih n.2
    rw [List.map_cons, List.nodup_cons]
    refine ⟨⟨fun z => ?_, i1⟩, fun z => ?_⟩
    · obtain ⟨q, hq, e⟩ := List.mem_map.mp z
      exact n.1 (List.mem_map.mpr ⟨q, h.sub q hq, e⟩)
    · rcases List.mem_cons.mp z with z | z
      · exact n.1 (by rw [← z]; exact List.mem_map_of_mem h.mem)
      · exact i2 z
theorem RO.none (h : RO K F H a o) (n : H a = Option.none) : False := by
  cases o with
  | lst ds => obtain ⟨vs, e, _⟩ := h; rw [n] at e; cases e
  | ins C fs => obtain ⟨dx, vs, e, _⟩ := h; rw [n] at e; cases e
  | xd fs => obtain ⟨vs, e, _⟩ := h; rw [n] at e; cases e
  | dct fs => obtain ⟨vs, e, _⟩ := h; rw [n] at e; cases e
theorem RO.mv (h : RO K F H a o) (s : Same F F') (e : H' a = H a) : RO K F' H' a o := by
  cases o with
  | lst ds => obtain ⟨vs, e1, r⟩ := h; exact ⟨vs, e.trans e1, r.same s⟩
  | ins C fs => obtain ⟨dx, vs, e1, r⟩ := h; exact ⟨dx, vs, e.trans e1, r.same s⟩
  | xd fs => obtain ⟨vs, e1, r⟩ := h; exact ⟨vs, e.trans e1, r.same s⟩
  | dct fs => obtain ⟨vs, e1, r, nd⟩ := h; exact ⟨vs, e.trans e1, r.same s, nd⟩
theorem Fr.free (h : Fr K M F H) (n : H a = none) : F a = none ∧ ∀ p ∈ M, p.1 ≠ a := by
  refine ⟨?_, fun p hp e => (h.at_ p hp).none (by rw [e]; exact n)⟩
  cases e : F a with
  | none => rfl
  | some o => rw [h.sub _ _ e] at n; cases n
/-- a new object that is never written -/
theorem Fr.data {ho : HO} (h : Fr K M F H) (n : H a = none) : Same F (upd F a ho) ∧ Fr K M (upd F a ho) (upd H a ho) := by
  obtain ⟨n1, n2⟩ := h.free n
  have s : Same F (upd F a ho) := fun b o e => by rw [upd_ne (ne_of_none e n1)]; exact e
  refine ⟨s, ⟨fun b o e => ?_, fun p hp => ?_, h.nod, fun p hp => (h.at_ p hp).mv s (upd_ne (n2 p hp))⟩⟩
  · by_cases hb : b = a
    · subst hb; rw [upd_same] at e ⊢; exact e
    · rw [upd_ne hb] at e ⊢; exact h.sub _ _ e
  · rw [upd_ne (n2 p hp)]; exact h.out p hp
/-- a new object that may be written -/
theorem Fr.own {ho : HO} (h : Fr K M F H) (n : H a = none) (r : RO K F (upd H a ho) a o) : Fr K ((a, o) :: M) F (upd H a ho) := by
  obtain ⟨n1, n2⟩ := h.free n
  refine ⟨fun b u e => ?_, fun p hp => ?_, ?_, fun p hp => ?_⟩
  · rw [upd_ne (ne_of_none e n1)]; exact h.sub _ _ e
  · rcases List.mem_cons.mp hp with rfl | hp
    · exact n1
    · exact h.out p hp
  · rw [List.map_cons, List.nodup_cons]
    exact ⟨fun z => by
      obtain ⟨q, hq, e⟩ := List.mem_map.mp z
      exact n2 q hq e, h.nod⟩
  · rcases List.mem_cons.mp hp with rfl | hp
    · exact r
    · exact (h.at_ p hp).mv (Same.refl F) (upd_ne (n2 p hp))
/-- a store -/
theorem Fr.put {ho : HO} {u : Ob → Mem} (h : Fr K M F H) (ha : At M a o u) (r : RO K F (upd H a ho) a o') : Fr K (u o') F (upd H a ho) := by
  have n1 := h.out _ ha.mem
  refine ⟨fun b w e => ?_, fun p hp => ?_, by rw [ha.keys]; exact h.nod, fun p hp => ?_⟩
  · rw [upd_ne (ne_of_none e n1)]; exact h.sub _ _ e
  · rcases ha.of h.nod hp with rfl | ⟨z, _⟩
    · exact n1
    · exact h.out p z
  · rcases ha.of h.nod hp with rfl | ⟨z, nz⟩
    · exact r
    · exact (h.at_ p z).mv (Same.refl F) (upd_ne nz)
/-- an object is forgotten -/
theorem Fr.drop (h : Fr K M F H) (r : Rem M a o M') : Fr K M' F H :=
  ⟨h.sub, fun p hp => h.out p (r.sub p hp), (r.nod h.nod).1, fun p hp => h.at_ p (r.sub p hp)⟩
/-- an object is written no more -/
theorem Fr.freeze (h : Fr K M F H) (r : Rem M a o M') (ho : o.fzb = true) : ∃ F', Same F F' ∧ Fr K M' F' H ∧ Rv K F' (.ref a) o.toD := by
  have n1 := h.out _ r.mem
  have hr := h.at_ _ r.mem
  have na := (r.nod h.nod).2
  have s : Same F (fun b => if b = a then H a else F b) := fun b u e => by
    show (if b = a then H a else F b) = _
    rw [if_neg (ne_of_none e n1)]; exact e
  have ea : (fun b => if b = a then H a else F b) a = H a := if_pos rfl
  refine ⟨_, s, ⟨fun b u e => ?_, fun p hp => ?_, (r.nod h.nod).1, fun p hp => (h.at_ p (r.sub p hp)).mv s rfl⟩, ?_⟩
  · have e : (if b = a then H a else F b) = some u := e
    by_cases hb : b = a
    · rw [if_pos hb] at e; rw [hb]; exact e
    · rw [if_neg hb] at e; exact h.sub _ _ e
  · show (if p.1 = a then H a else F p.1) = none
    rw [if_neg fun e => na (by rw [← e]; exact List.mem_map_of_mem hp)]
    exact h.out p (r.sub p hp)
  · cases o with
    | lst ds =>
      obtain ⟨vs, e, q⟩ := hr
      exact .of_lst (ea.trans e) (q.same s)
    | ins C fs =>
      obtain ⟨dx, vs, e, q⟩ := hr
      exact .ins (ea.trans e) q.1 (fun i p q' a b => ((q.same s).2 i p q' a b).1) fun i p q' a b => ((q.same s).2 i p q' a b).2
    | xd fs => exact absurd ho nofun
    | dct fs => exact absurd ho nofun
theorem Rs.get {i : Nat} (h : Rs K F xs σ) (e : xs[i]? = some (some d)) : ∃ v, σ[i]? = some (some v) ∧ Rv K F v d := h.2 i d e
theorem Rs.set {i : Nat} (h : Rs K F xs σ) (r : Rv K F v d) : Rs K F (xs.set i (some d)) (σ.set i (some v)) := ⟨by simp [h.1], fun j e q => by
  by_cases hi : i = j
  · subst hi
    have h3 := (List.getElem?_eq_some_iff.mp q).1
    rw [List.length_set] at h3
    rw [List.getElem?_set_self h3] at q
    cases q
    exact ⟨v, by rw [List.getElem?_set_self (by rw [← h.1]; exact h3)], r⟩
  · rw [List.getElem?_set_ne hi] at q ⊢
    exact h.2 j e q⟩
theorem Rs.start {N : List Str} (h : RvL K F vs ds) : Rs K F (ds.map some ++ List.replicate (N.length - ds.length) none) (L2.start N vs) := by
  unfold L2.start
  refine ⟨by simp [h.1], fun i d e => ?_⟩
  by_cases hi : i < ds.length
  · rw [List.getElem?_append_left (by simpa using hi), List.getElem?_map] at e
    cases q : ds[i]? with
    | none => rw [q] at e; cases e
    | some d' =>
      rw [q] at e
      cases e
      obtain ⟨v, e1, r⟩ := h.get q
      exact ⟨v, by rw [List.getElem?_append_left (by rw [List.length_map, h.1]; exact hi), List.getElem?_map, e1]; rfl, r⟩
  · rw [List.getElem?_append_right (by simpa using hi)] at e
    have := List.mem_of_getElem? e
    rw [List.mem_replicate] at this
    cases this.2
end
end AV

set_option Elab.async false
set_option linter.all false
set_option maxRecDepth 100000
set_option maxHeartbeats 4000000
/-! A2: readings over abstract values: expressions, tests, arguments, operators (own work). -/
namespace AV
open PySem PySem.Spec PyProof.Rows L2 G
abbrev ATE := AS → Mem → AQ → Prop
abbrev ATT := AS → Mem → (Bool → Mem → Prop) → Prop
abbrev ATA := AS → Mem → (List D → Mem → Prop) → Prop
/-- what is wanted of an error: its class, its fields, the slots, the memory -/
abbrev AX := Addr → List (Str × D) → AS → Mem → Prop
section
variable (K : PySem.W.Frag)
/-- the links from what is wanted of abstract ends to what is wanted of the heap -/
def Ln (F : Hp) (A : AQ) (Q : VK) : Prop := ∀ d M' v H' F', A d M' → Same F F' → Rv K F' v d → Fr K M' F' H' → Q v H'
def LnB (F : Hp) (A : Bool → Mem → Prop) (Q : Bool → Hp → Prop) : Prop := ∀ b M' H' F', A b M' → Same F F' → Fr K M' F' H' → Q b H'
def LnL (F : Hp) (A : List D → Mem → Prop) (Q : List V → Hp → Prop) : Prop := ∀ ds M' vs H' F', A ds M' → Same F F' → RvL K F' vs ds → Fr K M' F' H' → Q vs H'
def LnX (F : Hp) (A : AX) (W : WX) : Prop := ∀ C fs xs M σ H F' dd, A C fs xs M → Same F F' → Rs K F' xs σ → Fr K ((dd, .xd fs) :: M) F' H → W (.ref C) (some dd) σ H
def conE (W : WX) (A : AX) (t : ATE) : TE := fun σ H Q => ∃ xs M F B, Rs K F xs σ ∧ Fr K M F H ∧ LnX K F A W ∧ t xs M B ∧ Ln K F B Q
def conT (W : WX) (A : AX) (t : ATT) : TT := fun σ H Q => ∃ xs M F B, Rs K F xs σ ∧ Fr K M F H ∧ LnX K F A W ∧ t xs M B ∧ LnB K F B Q
def conA (W : WX) (A : AX) (t : ATA) : TA := fun σ H Q => ∃ xs M F B, Rs K F xs σ ∧ Fr K M F H ∧ LnX K F A W ∧ t xs M B ∧ LnL K F B Q
/-- what an operator over values asks, abstractly -/
def Op1 (r : V → Hp → VK → Prop) (ar : D → Mem → AQ → Prop) : Prop := ∀ x v M F H B Q, ar x M B → Rv K F v x → Fr K M F H → Ln K F B Q → r v H Q
def Op2 (r : R2) (ar : D → D → Mem → AQ → Prop) : Prop := ∀ x y v w M F H B Q, ar x y M B → Rv K F v x → Rv K F w y → Fr K M F H → Ln K F B Q → r v w H Q
def OpN (r : List V → Hp → VK → Prop) (ar : List D → Mem → AQ → Prop) : Prop := ∀ xs vs M F H B Q, ar xs M B → RvL K F vs xs → Fr K M F H → Ln K F B Q → r vs H Q
def OpM (r : V → List V → Hp → VK → Prop) (ar : D → List D → Mem → AQ → Prop) : Prop := ∀ x xs v vs M F H B Q, ar x xs M B → Rv K F v x → RvL K F vs xs → Fr K M F H → Ln K F B Q → r v vs H Q
end
section
variable {K : PySem.W.Frag} {F F' : Hp} {W : WX} {A : AX}
theorem Ln.mono {B : AQ} {Q : VK} (h : Ln K F B Q) (s : Same F F') : Ln K F' B Q := fun d M v H F2 b s2 => h d M v H F2 b (s.trans s2)
theorem LnB.mono {B : Bool → Mem → Prop} {Q : Bool → Hp → Prop} (h : LnB K F B Q) (s : Same F F') : LnB K F' B Q := fun d M H F2 b s2 => h d M H F2 b (s.trans s2)
theorem LnL.mono {B : List D → Mem → Prop} {Q : List V → Hp → Prop} (h : LnL K F B Q) (s : Same F F') : LnL K F' B Q := fun d M v H F2 b s2 => h d M v H F2 b (s.trans s2)
theorem LnX.mono (h : LnX K F A W) (s : Same F F') : LnX K F' A W := fun C fs xs M σ H F2 dd a s2 => h C fs xs M σ H F2 dd a (s.trans s2)
theorem LnX.none : LnX K F (fun _ _ _ _ => False) W := fun _ _ _ _ _ _ _ _ a => a.elim
theorem Ln.same {B : AQ} {Q : VK} {d : D} {v : V} {M : Mem} {H : Hp} (h : Ln K F B Q) (b : B d M) (r : Rv K F v d) (f : Fr K M F H) : Q v H := h d M v H F b (Same.refl F) r f
/-- a new list: data, or to be written -/
def NewL (xs : List D) (M : Mem) (Q : AQ) : Prop := Q (.lst xs) M ∨ ∀ a, Q (.r a) ((a, .lst xs) :: M)
theorem NewL.run {xs : List D} {vs : List V} {M : Mem} {H : Hp} {B : AQ} {Q : VK} (n : NewL xs M B) (r : RvL K F vs xs) (f : Fr K M F H) (l : Ln K F B Q) : ∀ p, H p = none → Q (.ref p) (upd H p (.lst vs)) := fun p hp => by
  rcases n with n | n
  · obtain ⟨s, f'⟩ := f.data (ho := .lst vs) hp
    exact l _ _ _ _ _ n s (.of_lst upd_same (r.same s)) f'
  · exact l _ _ _ _ _ (n p) (Same.refl F) (.r p) (f.own hp ⟨vs, upd_same, r⟩)
theorem newT {xs : List D} {vs : List V} {M : Mem} {H : Hp} {B : AQ} {Q : VK} (n : B (.tup xs) M) (r : RvL K F vs xs) (f : Fr K M F H) (l : Ln K F B Q) : ∀ p, H p = none → Q (.ref p) (upd H p (.tup vs)) := fun p hp => by
  obtain ⟨s, f'⟩ := f.data (ho := .tup vs) hp
  exact l _ _ _ _ _ n s (.of_tup (SqT.of upd_same) (r.same s)) f'
/-- the items of a list -/
inductive Ls (M : Mem) : D → List D → Prop
  | s {xs : List D} : Ls M (.scr xs) xs
  | d {xs : List D} : Ls M (.lst xs) xs
  | o {a : Addr} {xs : List D} {u : Ob → Mem} : At M a (.lst xs) u → Ls M (.r a) xs
inductive Sq (M : Mem) : D → List D → Prop
  | s {xs : List D} : Sq M (.scr xs) xs
  | d {xs : List D} : Sq M (.lst xs) xs
  | t {xs : List D} : Sq M (.tup xs) xs
  | o {a : Addr} {xs : List D} {u : Ob → Mem} : At M a (.lst xs) u → Sq M (.r a) xs
theorem Ls.at_ {M : Mem} {x : D} {xs : List D} {v : V} {H : Hp} (h : Ls M x xs) (r : Rv K F v x) (f : Fr K M F H) : ∃ a vs, v = .ref a ∧ SqL K H a vs ∧ RvL K F vs xs := by
  cases h with
  | s =>
    obtain ⟨a, vs, rfl, s, l⟩ := r.scr_inv
    exact ⟨a, vs, rfl, s.ext f.sub, l⟩
  | d =>
    obtain ⟨a, vs, rfl, s, l⟩ := r.lst_inv
    exact ⟨a, vs, rfl, s.ext f.sub, l⟩
  | o h =>
    cases r
    obtain ⟨vs, e, l⟩ := f.at_ _ h.mem
    exact ⟨_, vs, rfl, SqL.of e, l⟩
theorem Sq.at_ {M : Mem} {x : D} {xs : List D} {v : V} {H : Hp} (h : Sq M x xs) (r : Rv K F v x) (f : Fr K M F H) : ∃ a vs, v = .ref a ∧ (SqL K H a vs ∨ SqT K H a vs) ∧ RvL K F vs xs := by
  cases h with
  | s =>
    obtain ⟨a, vs, rfl, s, l⟩ := r.scr_inv
    exact ⟨a, vs, rfl, .inl (s.ext f.sub), l⟩
  | d =>
    obtain ⟨a, vs, rfl, s, l⟩ := r.lst_inv
    exact ⟨a, vs, rfl, .inl (s.ext f.sub), l⟩
  | t =>
    obtain ⟨a, vs, rfl, s, l⟩ := r.tup_inv
    exact ⟨a, vs, rfl, .inr (s.ext f.sub), l⟩
  | o h =>
    cases r
    obtain ⟨vs, e, l⟩ := f.at_ _ h.mem
    exact ⟨_, vs, rfl, .inl (SqL.of e), l⟩
theorem Rv.tup_at {xs : List D} {v : V} {M : Mem} {H : Hp} (r : Rv K F v (.tup xs)) (f : Fr K M F H) : ∃ a vs, v = .ref a ∧ SqT K H a vs ∧ RvL K F vs xs := by
  obtain ⟨a, vs, rfl, s, l⟩ := r.tup_inv
  exact ⟨a, vs, rfl, s.ext f.sub, l⟩
end
/-! ### structure of expressions -/
section
variable {X : Cx} {K : PySem.W.Frag} {W : WX} {A : AX}
theorem _root_.L2.PE.to {e : Expr} {t t' : TE} (h : PE X e t) (m : ∀ σ H Q, t' σ H Q → t σ H Q) : PE X e t' := ⟨fun pins s σ H Q I q => h.run pins s σ H Q I (m _ _ _ q)⟩
theorem _root_.L2.PT.to {e : Expr} {t t' : TT} (h : PT X e t) (m : ∀ σ H Q, t' σ H Q → t σ H Q) : PT X e t' := ⟨fun pins s σ H Q I q => h.run pins s σ H Q I (m _ _ _ q)⟩
theorem _root_.L2.PW.to {e : Expr} {t t' : TT} (h : PW X e t) (m : ∀ σ H Q, t' σ H Q → t σ H Q) : PW X e t' := ⟨fun w pins s σ H Q I q => h.run w pins s σ H Q I (m _ _ _ q)⟩
theorem _root_.L2.PA.to {e : List Expr} {t t' : TA} (h : PA X e t) (m : ∀ σ H Q, t' σ H Q → t σ H Q) : PA X e t' := ⟨fun w pins s σ H Q I q => h.run w pins s σ H Q I (m _ _ _ q)⟩
@[reducible] def aVar (i : Nat) : ATE := fun xs M Q => ∃ d, xs[i]? = some (some d) ∧ Q d M
theorem a_var {e : Expr} {i : Nat} (h : PE X e (tVar i)) : PE X e (conE K W A (aVar i)) := h.to fun σ H Q ⟨xs, M, F, B, rs, fr, _, ⟨d, e, b⟩, l⟩ => by
  obtain ⟨v, ev, r⟩ := rs.get e
  exact ⟨v, ev, l.same b r fr⟩
@[reducible] def aC (d : D) : ATE := fun _ M Q => Q d M
theorem a_c {e : Expr} {v : V} {d : D} (h : PE X e (tC v)) (r : ∀ F, Rv K F v d) : PE X e (conE K W A (aC d)) := h.to fun σ H Q ⟨xs, M, F, B, rs, fr, _, b, l⟩ => l.same b (r F) fr
theorem a_int {i : Int} {j pos} : PE X (.Constant (.int i) j pos) (conE K W A (aC (.int i))) := a_c pe_int fun _ => .int i
theorem a_bl {b : Bool} {j pos} : PE X (.Constant (.bool b) j pos) (conE K W A (aC (.bl b))) := a_c pe_bl fun _ => .bl b
theorem a_non {j pos} : PE X (.Constant .none j pos) (conE K W A (aC .non)) := a_c pe_non fun _ => .non
theorem a_str {z : Str} {j pos} : PE X (.Constant (.str z) j pos) (conE K W A (aC (.str z))) := a_c pe_str fun _ => .str z
variable {a b c : Expr} {ta tb tc : ATE} {pos : Pos}
/-- the one step below: an expression's end is another's start -/
theorem con_step {t : ATE} {xs : AS} {M : Mem} {F : Hp} {σ : L2.St} {H : Hp} {R : VK} {B : AQ} (rs : Rs K F xs σ) (fr : Fr K M F H) (lx : LnX K F A W) (h : t xs M B)
    (k : ∀ d M' v H' F', B d M' → Same F F' → Rv K F' v d → Fr K M' F' H' → Rs K F' xs σ → LnX K F' A W → R v H') : conE K W A t σ H R :=
  ⟨xs, M, F, B, rs, fr, lx, h, fun d M' v H' F' b s r f => k d M' v H' F' b s r f (rs.same s) (lx.mono s)⟩
@[reducible] def aOp (ar : D → D → Mem → AQ → Prop) (ta tb : ATE) : ATE := fun xs M Q => ta xs M fun x M1 => tb xs M1 fun y M2 => ar x y M2 Q
theorem op_con {r : R2} {ar : D → D → Mem → AQ → Prop} (tr : Op2 K r ar) (σ : L2.St) (H : Hp) (Q : VK) (h : conE K W A (aOp ar ta tb) σ H Q) : tOp r (conE K W A ta) (conE K W A tb) σ H Q := by
  obtain ⟨xs, M, F, B, rs, fr, lx, h, l⟩ := h
  refine con_step rs fr lx h fun x M1 v H1 F1 h1 s1 r1 f1 rs1 lx1 => ?_
  refine con_step rs1 f1 lx1 h1 fun y M2 w H2 F2 h2 s2 r2 f2 rs2 lx2 => ?_
  exact tr x y v w M2 F2 H2 B Q h2 (r1.same s2) r2 f2 (l.mono (s1.trans s2))
theorem a_op {op : Operator} {r : R2} {ar : D → D → Mem → AQ → Prop} (ho : OpR X (binaryOp op) r ∧ Op2 K r ar) (ha : PE X a (conE K W A ta)) (hb : PE X b (conE K W A tb)) : PE X (.BinOp a op b pos) (conE K W A (aOp ar ta tb)) :=
  (pe_op ho.1 ha hb).to fun σ H Q h => op_con ho.2 σ H Q h
theorem a_ix {r : R2} {ar : D → D → Mem → AQ → Prop} (ho : IxR X r ∧ Op2 K r ar) (ha : PE X a (conE K W A ta)) (hb : PE X b (conE K W A tb)) (hs : PlainIx b) : PE X (.Subscript a b pos) (conE K W A (aOp ar ta tb)) :=
  (pe_ix ho.1 ha hb hs).to fun σ H Q h => op_con ho.2 σ H Q h
theorem a_cmp {op : CmpOp} {r : R2} {ar : D → D → Mem → AQ → Prop} (ho : OpR X (compareOp op) r ∧ Op2 K r ar) (ha : PE X a (conE K W A ta)) (hb : PE X b (conE K W A tb)) (hm : behindInMarks op b = false) : PE X (.Compare a [op] [b] pos) (conE K W A (aOp ar ta tb)) :=
  (pe_cmpR ho.1 ha hb hm).to fun σ H Q h => op_con ho.2 σ H Q h
@[reducible] def aTest (t : ATE) : ATT := fun xs M Q => t xs M fun x M' => ∃ k, x = .bl k ∧ Q k M'
theorem test_con {t : ATE} (σ : L2.St) (H : Hp) (Q : Bool → Hp → Prop) (h : conT K W A (aTest t) σ H Q) : tTest (conE K W A t) σ H Q := by
  obtain ⟨xs, M, F, B, rs, fr, lx, h, l⟩ := h
  refine con_step rs fr lx h fun x M1 v H1 F1 ⟨k, e, h1⟩ s1 r1 f1 rs1 lx1 => ?_
  subst e
  cases r1
  exact ⟨k, rfl, l _ _ _ _ h1 s1 f1⟩
theorem a_tcmp {op : CmpOp} {r : R2} {ar : D → D → Mem → AQ → Prop} (ho : OpR X (compareOp op) r ∧ Op2 K r ar) (ha : PE X a (conE K W A ta)) (hb : PE X b (conE K W A tb)) (hm : behindInMarks op b = false) : PT X (.Compare a [op] [b] pos) (conT K W A (aTest (aOp ar ta tb))) :=
  (pt_cmpR ho.1 ha hb hm).to fun σ H Q h => by
    obtain ⟨xs, M, F, B, rs, fr, lx, h, l⟩ := h
    exact op_con ho.2 σ H _ ⟨xs, M, F, _, rs, fr, lx, h, fun d M' v H' F' ⟨k, e, b⟩ s r f => by
      subst e
      cases r
      exact ⟨k, rfl, l _ _ _ _ b s f⟩⟩
@[reducible] def aUn (ar : D → Mem → AQ → Prop) (ta : ATE) : ATE := fun xs M Q => ta xs M fun x M1 => ar x M1 Q
theorem a_un {op : UnaryOp} {r : V → Hp → VK → Prop} {ar : D → Mem → AQ → Prop} (ho : UnR X (unaryOp op) r ∧ Op1 K r ar) (ha : PE X a (conE K W A ta)) : PE X (.UnaryOp op a pos) (conE K W A (aUn ar ta)) :=
  (pe_un ho.1 ha).to fun σ H Q ⟨xs, M, F, B, rs, fr, lx, h, l⟩ => con_step rs fr lx h fun x M1 v H1 F1 h1 s1 r1 f1 _ _ => ho.2 x v M1 F1 H1 B Q h1 r1 f1 (l.mono s1)
/-- a < b < c -/
@[reducible] def aChain (ar ar' : D → D → Mem → AQ → Prop) (ta tb tc : ATE) : ATE := fun xs M Q => ta xs M fun x M1 => tb xs M1 fun y M2 => ar x y M2 fun z M3 => ∃ k, z = .bl k ∧ if k = true then tc xs M3 fun w M4 => ar' y w M4 Q else Q (.bl false) M3
theorem chain_con {r r' : R2} {ar ar' : D → D → Mem → AQ → Prop} (t1 : Op2 K r ar) (t2 : Op2 K r' ar') (σ : L2.St) (H : Hp) (Q : VK) (h : conE K W A (aChain ar ar' ta tb tc) σ H Q) : tChain r r' (conE K W A ta) (conE K W A tb) (conE K W A tc) σ H Q := by
  obtain ⟨xs, M, F, B, rs, fr, lx, h, l⟩ := h
  refine con_step rs fr lx h fun x M1 v H1 F1 h1 s1 r1 f1 rs1 lx1 => ?_
  refine con_step rs1 f1 lx1 h1 fun y M2 w H2 F2 h2 s2 r2 f2 rs2 lx2 => ?_
  refine t1 x y v w M2 F2 H2 _ _ h2 (r1.same s2) r2 f2 fun z M3 u H3 F3 ⟨k, e, h3⟩ s3 r3 f3 => ?_
  subst e
  cases r3
  refine ⟨k, rfl, ?_⟩
  cases k with
  | true =>
    rw [if_pos rfl] at h3 ⊢
    refine con_step (rs2.same s3) f3 (lx2.mono s3) h3 fun q M4 u4 H4 F4 h4 s4 r4 f4 _ _ => ?_
    exact t2 y q w u4 M4 F4 H4 B Q h4 ((r2.same s3).same s4) r4 f4 (l.mono (((s1.trans s2).trans s3).trans s4))
  | false =>
    rw [if_neg Bool.false_ne_true] at h3 ⊢
    exact l _ _ _ _ _ h3 ((s1.trans s2).trans s3) (.bl false) f3
theorem a_chain {op op' : CmpOp} {r r' : R2} {ar ar' : D → D → Mem → AQ → Prop} (ho : OpR X (compareOp op) r ∧ Op2 K r ar) (ho' : OpR X (compareOp op') r' ∧ Op2 K r' ar') (ha : PE X a (conE K W A ta)) (hb : PE X b (conE K W A tb)) (hc : PE X c (conE K W A tc))
    (hm : lastMarks [op, op'] [b, c] = false := by with_unfolding_all rfl) : PE X (.Compare a [op, op'] [b, c] pos) (conE K W A (aChain ar ar' ta tb tc)) :=
  (pe_chain ho.1 ho'.1 ha hb hc hm).to fun σ H Q h => chain_con ho.2 ho'.2 σ H Q h
theorem a_tchain {op op' : CmpOp} {r r' : R2} {ar ar' : D → D → Mem → AQ → Prop} (ho : OpR X (compareOp op) r ∧ Op2 K r ar) (ho' : OpR X (compareOp op') r' ∧ Op2 K r' ar') (ha : PE X a (conE K W A ta)) (hb : PE X b (conE K W A tb)) (hc : PE X c (conE K W A tc))
    (hm : lastMarks [op, op'] [b, c] = false := by with_unfolding_all rfl) : PT X (.Compare a [op, op'] [b, c] pos) (conT K W A (aTest (aChain ar ar' ta tb tc))) :=
  (pt_chain ho.1 ho'.1 ha hb hc hm).to fun σ H Q h => by
    obtain ⟨xs, M, F, B, rs, fr, lx, h, l⟩ := h
    exact chain_con ho.2 ho'.2 σ H _ ⟨xs, M, F, _, rs, fr, lx, h, fun d M' v H' F' ⟨k, e, b⟩ s r f => by
      subst e
      cases r
      exact ⟨k, rfl, l _ _ _ _ b s f⟩⟩
/-! truth -/
def D.tru (M : Mem) : D → Bool → Prop
  | .non, k => k = false
  | .bl b, k => k = b
  | .int i, k => k = (i != 0)
  | .str z, k => z.length ≤ sizeLine ∧ k = ((z.length : Int) != 0)
  | .lst xs, k => k = !xs.isEmpty
  | .tup xs, k => k = !xs.isEmpty
  | .r a, k => ∃ xs u, At M a (.lst xs) u ∧ k = !xs.isEmpty
  | _, _ => False
theorem tru_at {M : Mem} {x : D} {k : Bool} {v : V} {F H : Hp} (h : x.tru M k) (r : Rv K F v x) (f : Fr K M F H) : TruV K v H k := by
  have emp : ∀ {vs : List V} {ds : List D}, vs.length = ds.length → (!ds.isEmpty) = !vs.isEmpty := fun {vs ds} e => by
    cases vs <;> cases ds <;> first | rfl | (simp at e)
  cases x with
  | non => cases r; exact h
  | bl b => cases r; exact h
  | int i => cases r; exact h
  | str z => cases r; exact h
  | ty n => exact h.elim
  | r a =>
    cases r
    obtain ⟨xs, u, ha, e⟩ := h
    obtain ⟨vs, e1, l⟩ := f.at_ _ ha.mem
    exact .inl ⟨vs, SqL.of e1, by rw [e, emp l.1]⟩
  | tup ds =>
    obtain ⟨a, vs, rfl, s, l⟩ := r.tup_at f
    exact .inr (.inl ⟨vs, s, (show k = !ds.isEmpty from h).trans (emp l.1)⟩)
  | lst ds =>
    obtain ⟨a, vs, rfl, s, l⟩ := (Ls.d (M := M)).at_ r f
    exact .inl ⟨vs, s, (show k = !ds.isEmpty from h).trans (emp l.1)⟩
  | ins C fs => exact h.elim
  | scr ds => exact h.elim
@[reducible] def aTr (ta : ATE) : ATT := fun xs M Q => ta xs M fun x M' => ∃ k, x.tru M' k ∧ Q k M'
theorem a_truth (ha : PE X a (conE K W A ta)) (he : ∀ whole, isTrue a X.env whole = (do let v ← whole; standAt a.pos; holding [v] (truthy v))) (hK : X.K = K := by rfl) : PT X a (conT K W A (aTr ta)) := by
  subst hK
  exact (pt_truth ha he).to fun σ H Q ⟨xs, M, F, B, rs, fr, lx, h, l⟩ => con_step rs fr lx h fun x M1 v H1 F1 ⟨k, e, h1⟩ s1 r1 f1 rs1 lx1 => ⟨k, tru_at e r1 f1, l _ _ _ _ h1 s1 f1⟩
@[reducible] def aOrT (ta tb : ATE) : ATE := fun xs M Q => ta xs M fun x M1 => ∃ k, x.tru M1 k ∧ if k = true then Q x M1 else tb xs M1 Q
@[reducible] def aAndT (ta tb : ATE) : ATE := fun xs M Q => ta xs M fun x M1 => ∃ k, x.tru M1 k ∧ if k = true then tb xs M1 Q else Q x M1
@[reducible] def aNotT (ta : ATE) : ATE := fun xs M Q => ta xs M fun x M1 => ∃ k, x.tru M1 k ∧ Q (.bl (!k)) M1
theorem a_andT {rest : List Expr} (ha : PE X a (conE K W A ta)) (hb : PE X (.BoolOp .And (b :: rest) pos) (conE K W A tb)) (hK : X.K = K := by rfl) : PE X (.BoolOp .And (a :: b :: rest) pos) (conE K W A (aAndT ta tb)) := by
  subst hK
  refine (pe_andT ha hb).to fun σ H Q ⟨xs, M, F, B, rs, fr, lx, h, l⟩ => con_step rs fr lx h fun x M1 v H1 F1 ⟨k, e, h1⟩ s1 r1 f1 rs1 lx1 => ⟨k, tru_at e r1 f1, ?_⟩
  cases k with
  | true => rw [if_pos rfl] at h1 ⊢; exact ⟨xs, M1, F1, B, rs1, f1, lx1, h1, l.mono s1⟩
  | false => rw [if_neg Bool.false_ne_true] at h1 ⊢; exact l _ _ _ _ _ h1 s1 r1 f1
theorem a_orT {rest : List Expr} (ha : PE X a (conE K W A ta)) (hb : PE X (.BoolOp .Or (b :: rest) pos) (conE K W A tb)) (hK : X.K = K := by rfl) : PE X (.BoolOp .Or (a :: b :: rest) pos) (conE K W A (aOrT ta tb)) := by
  subst hK
  refine (pe_orT ha hb).to fun σ H Q ⟨xs, M, F, B, rs, fr, lx, h, l⟩ => con_step rs fr lx h fun x M1 v H1 F1 ⟨k, e, h1⟩ s1 r1 f1 rs1 lx1 => ⟨k, tru_at e r1 f1, ?_⟩
  cases k with
  | true => rw [if_pos rfl] at h1 ⊢; exact l _ _ _ _ _ h1 s1 r1 f1
  | false => rw [if_neg Bool.false_ne_true] at h1 ⊢; exact ⟨xs, M1, F1, B, rs1, f1, lx1, h1, l.mono s1⟩
theorem a_notT (ha : PE X a (conE K W A ta)) (hK : X.K = K := by rfl) : PE X (.UnaryOp .Not a pos) (conE K W A (aNotT ta)) := by
  subst hK
  exact (pe_notT ha).to fun σ H Q ⟨xs, M, F, B, rs, fr, lx, h, l⟩ => con_step rs fr lx h fun x M1 v H1 F1 ⟨k, e, h1⟩ s1 r1 f1 rs1 lx1 => ⟨k, tru_at e r1 f1, l _ _ _ _ _ h1 s1 (.bl _) f1⟩
/-! tests joined -/
@[reducible] def aAnd (t u : ATT) : ATT := fun xs M Q => t xs M fun c M1 => if c = true then u xs M1 Q else Q false M1
@[reducible] def aOr (t u : ATT) : ATT := fun xs M Q => t xs M fun c M1 => if c = true then Q true M1 else u xs M1 Q
@[reducible] def aNot (t : ATT) : ATT := fun xs M Q => t xs M fun c M1 => Q (!c) M1
theorem conT_step {t : ATT} {xs : AS} {M : Mem} {F : Hp} {σ : L2.St} {H : Hp} {R : Bool → Hp → Prop} {B : Bool → Mem → Prop} (rs : Rs K F xs σ) (fr : Fr K M F H) (lx : LnX K F A W) (h : t xs M B)
    (k : ∀ c M' H' F', B c M' → Same F F' → Fr K M' F' H' → Rs K F' xs σ → LnX K F' A W → R c H') : conT K W A t σ H R :=
  ⟨xs, M, F, B, rs, fr, lx, h, fun c M' H' F' b s f => k c M' H' F' b s f (rs.same s) (lx.mono s)⟩
variable {t u : ATT}
theorem a_and {rest : List Expr} (ha : PT X a (conT K W A t)) (hb : PW X (.BoolOp .And (b :: rest) pos) (conT K W A u)) : PW X (.BoolOp .And (a :: b :: rest) pos) (conT K W A (aAnd t u)) :=
  (pw_and ha hb).to fun σ H Q ⟨xs, M, F, B, rs, fr, lx, h, l⟩ => conT_step rs fr lx h fun c M1 H1 F1 h1 s1 f1 rs1 lx1 => by
    cases c with
    | true => rw [if_pos rfl] at h1 ⊢; exact ⟨xs, M1, F1, B, rs1, f1, lx1, h1, l.mono s1⟩
    | false => rw [if_neg Bool.false_ne_true] at h1 ⊢; exact l _ _ _ _ h1 s1 f1
theorem a_or {rest : List Expr} (ha : PT X a (conT K W A t)) (hb : PW X (.BoolOp .Or (b :: rest) pos) (conT K W A u)) : PW X (.BoolOp .Or (a :: b :: rest) pos) (conT K W A (aOr t u)) :=
  (pw_or ha hb).to fun σ H Q ⟨xs, M, F, B, rs, fr, lx, h, l⟩ => conT_step rs fr lx h fun c M1 H1 F1 h1 s1 f1 rs1 lx1 => by
    cases c with
    | true => rw [if_pos rfl] at h1 ⊢; exact l _ _ _ _ h1 s1 f1
    | false => rw [if_neg Bool.false_ne_true] at h1 ⊢; exact ⟨xs, M1, F1, B, rs1, f1, lx1, h1, l.mono s1⟩
theorem a_not (ha : PT X a (conT K W A t)) : PT X (.UnaryOp .Not a pos) (conT K W A (aNot t)) :=
  (pt_not ha).to fun σ H Q ⟨xs, M, F, B, rs, fr, lx, h, l⟩ => conT_step rs fr lx h fun c M1 H1 F1 h1 s1 f1 _ _ => l _ _ _ _ h1 s1 f1
@[reducible] def aIf (t : ATT) (ta tb : ATE) : ATE := fun xs M Q => t xs M fun c M1 => if c = true then ta xs M1 Q else tb xs M1 Q
theorem a_ifExp (hc : PT X c (conT K W A t)) (ha : PE X a (conE K W A ta)) (hb : PE X b (conE K W A tb)) : PE X (.IfExp c a b pos) (conE K W A (aIf t ta tb)) :=
  (pe_ifExp hc ha hb).to fun σ H Q ⟨xs, M, F, B, rs, fr, lx, h, l⟩ => conT_step rs fr lx h fun c M1 H1 F1 h1 s1 f1 rs1 lx1 => by
    cases c with
    | true => rw [if_pos rfl] at h1 ⊢; exact ⟨xs, M1, F1, B, rs1, f1, lx1, h1, l.mono s1⟩
    | false => rw [if_neg Bool.false_ne_true] at h1 ⊢; exact ⟨xs, M1, F1, B, rs1, f1, lx1, h1, l.mono s1⟩
/-! arguments, displays -/
@[reducible] def aNil : ATA := fun _ M Q => Q [] M
@[reducible] def aCons (te : ATE) (tr : ATA) : ATA := fun xs M Q => te xs M fun x M1 => tr xs M1 fun ys M2 => Q (x :: ys) M2
theorem aa_nil : PA X [] (conA K W A aNil) := (pa_nil (X := X)).to fun σ H Q ⟨xs, M, F, B, rs, fr, lx, h, l⟩ => l _ _ _ _ _ h (Same.refl F) .nil fr
theorem conA_step {t : ATA} {xs : AS} {M : Mem} {F : Hp} {σ : L2.St} {H : Hp} {R : List V → Hp → Prop} {B : List D → Mem → Prop} (rs : Rs K F xs σ) (fr : Fr K M F H) (lx : LnX K F A W) (h : t xs M B)
    (k : ∀ ds M' vs H' F', B ds M' → Same F F' → RvL K F' vs ds → Fr K M' F' H' → Rs K F' xs σ → LnX K F' A W → R vs H') : conA K W A t σ H R :=
  ⟨xs, M, F, B, rs, fr, lx, h, fun d M' v H' F' b s r f => k d M' v H' F' b s r f (rs.same s) (lx.mono s)⟩
theorem aa_cons {es : List Expr} {e : Expr} {te : ATE} {tr : ATA} (ha : PE X e (conE K W A te)) (hr : PA X es (conA K W A tr)) (hs : starEach (e :: es) X.env = (false, eval e X.env) :: starEach es X.env := by rfl) : PA X (e :: es) (conA K W A (aCons te tr)) :=
  (pa_cons ha hr hs).to fun σ H Q ⟨xs, M, F, B, rs, fr, lx, h, l⟩ => con_step rs fr lx h fun x M1 v H1 F1 h1 s1 r1 f1 rs1 lx1 => conA_step rs1 f1 lx1 h1 fun ds M2 vs H2 F2 h2 s2 r2 f2 _ _ => l _ _ _ _ _ h2 (s1.trans s2) (.cons (r1.same s2) r2) f2
variable {es : List Expr} {tr : ATA}
@[reducible] def aTup (t : ATA) : ATE := fun xs M Q => t xs M fun ys M1 => ys.length ≤ sizeLine ∧ Q (.tup ys) M1
@[reducible] def aLst (t : ATA) : ATE := fun xs M Q => t xs M fun ys M1 => ys.length ≤ sizeLine ∧ Q (.lst ys) M1
@[reducible] def aLstO (t : ATA) : ATE := fun xs M Q => t xs M fun ys M1 => ys.length ≤ sizeLine ∧ ∀ a, Q (.r a) ((a, .lst ys) :: M1)
theorem a_tup {x1} (h : PA X es (conA K W A tr)) : PE X (.Tuple es x1 pos) (conE K W A (aTup tr)) :=
  (pe_tup h).to fun σ H Q ⟨xs, M, F, B, rs, fr, lx, h, l⟩ => conA_step rs fr lx h fun ds M1 vs H1 F1 ⟨h0, h1⟩ s1 r1 f1 _ _ => ⟨by rw [r1.1]; exact h0, newT h1 r1 f1 (l.mono s1)⟩
theorem a_lst (h : PA X es (conA K W A tr)) : PE X (.List es pos) (conE K W A (aLst tr)) :=
  (pe_lst h).to fun σ H Q ⟨xs, M, F, B, rs, fr, lx, h, l⟩ => conA_step rs fr lx h fun ds M1 vs H1 F1 ⟨h0, h1⟩ s1 r1 f1 _ _ => ⟨by rw [r1.1]; exact h0, NewL.run (.inl h1) r1 f1 (l.mono s1)⟩
theorem a_lstO (h : PA X es (conA K W A tr)) : PE X (.List es pos) (conE K W A (aLstO tr)) :=
  (pe_lst h).to fun σ H Q ⟨xs, M, F, B, rs, fr, lx, h, l⟩ => conA_step rs fr lx h fun ds M1 vs H1 F1 ⟨h0, h1⟩ s1 r1 f1 _ _ => ⟨by rw [r1.1]; exact h0, NewL.run (.inr h1) r1 f1 (l.mono s1)⟩
/-! calls of what is built in -/
@[reducible] def aCB (ar : List D → Mem → AQ → Prop) (t : ATA) : ATE := fun xs M Q => t xs M fun ds M1 => ar ds M1 Q
theorem cb_con {r : List V → Hp → VK → Prop} {ar : List D → Mem → AQ → Prop} (tr' : OpN K r ar) (σ : L2.St) (H : Hp) (Q : VK) (h : conE K W A (aCB ar tr) σ H Q) : tCB r (conA K W A tr) σ H Q := by
  obtain ⟨xs, M, F, B, rs, fr, lx, h, l⟩ := h
  exact conA_step rs fr lx h fun ds M1 vs H1 F1 h1 s1 r1 f1 _ _ => tr' ds vs M1 F1 H1 B Q h1 r1 f1 (l.mono s1)
variable {e : Expr} {x : Str} {p : Pos}
theorem a_callB {id : String} {r : List V → Hp → VK → Prop} {ar : List D → Mem → AQ → Prop} (hc : CallR X (.builtin id) r ∧ OpN K r ar) (hg : Gl X x) (hm : X.mg x = none) (hv : bootBuiltins x = some (.builtin id)) (ha : PA X (e :: es) (conA K W A tr)) (hn : x ≠ "__name__" := by decide) (hdb : (x == ("__debug__" : Str)) = false := by decide)
    (he : starEach (e :: es) X.env = (false, eval e X.env) :: starEach es X.env := by rfl) (hpl : (backTo pos (starEach es X.env)).any (·.1) = false := by rfl) : PE X (.Call (.Name x p) (e :: es) [] pos) (conE K W A (aCB ar tr)) :=
  (pe_callB hc.1 hg hm hv ha hn hdb he hpl).to fun σ H Q h => cb_con hc.2 σ H Q h
theorem a_callTy {T : String} {r : List V → Hp → VK → Prop} {ar : List D → Mem → AQ → Prop} (hc : CallR X (.type T) r ∧ OpN K r ar) (hg : Gl X x) (hm : X.mg x = none) (hv : bootBuiltins x = some (.type T)) (ha : PA X (e :: es) (conA K W A tr)) (hn : x ≠ "__name__" := by decide) (hdb : (x == ("__debug__" : Str)) = false := by decide)
    (he : starEach (e :: es) X.env = (false, eval e X.env) :: starEach es X.env := by rfl) (hpl : (backTo pos (starEach es X.env)).any (·.1) = false := by rfl) : PE X (.Call (.Name x p) (e :: es) [] pos) (conE K W A (aCB ar tr)) :=
  (pe_callTy hc.1 hg hm hv ha hn hdb he hpl).to fun σ H Q h => cb_con hc.2 σ H Q h
/-! methods of lists and texts -/
def D.isK (M : Mem) : String → D → Prop
  | "list", .r a => ∃ xs u, At M a (.lst xs) u
  | "list", .lst _ => True
  | "str", .str _ => True
  | _, _ => False
@[reducible] def aBM (T : String) (ar : D → List D → Mem → AQ → Prop) (to : ATE) (t : ATA) : ATE := fun xs M Q => to xs M fun x M1 => x.isK M1 T ∧ t xs M1 fun ys M2 => ar x ys M2 Q
@[reducible] def aBM0 (T : String) (ar : D → List D → Mem → AQ → Prop) (to : ATE) : ATE := fun xs M Q => to xs M fun x M1 => x.isK M1 T ∧ ar x [] M1 Q
theorem isK_at {M : Mem} {T : String} {x : D} {v : V} {F H : Hp} (h : x.isK M T) (r : Rv K F v x) (f : Fr K M F H) : tyV K T v H := by
  unfold D.isK at h
  split at h
  · obtain ⟨xs, u, ha⟩ := h
    cases r
    obtain ⟨vs, e1, l⟩ := f.at_ _ ha.mem
    exact .inl ⟨rfl, vs, SqL.of e1⟩
  · obtain ⟨a, vs, rfl, s, l⟩ := (Ls.d (M := M)).at_ r f
    exact .inl ⟨rfl, vs, s⟩
  · cases r; rfl
  · exact h.elim
variable {T name id : String} {m : Str} {r : V → List V → Hp → VK → Prop} {ar : D → List D → Mem → AQ → Prop} {o : Expr} {tob : ATE} {apos : Pos}
theorem bm_con (tr' : OpM K r ar) (σ : L2.St) (H : Hp) (Q : VK) (h : conE K W A (aBM T ar tob tr) σ H Q) : tBM K T r (conE K W A tob) (conA K W A tr) σ H Q := by
  obtain ⟨xs, M, F, B, rs, fr, lx, h, l⟩ := h
  exact con_step rs fr lx h fun x M1 v H1 F1 ⟨k1, h1⟩ s1 r1 f1 rs1 lx1 => ⟨isK_at k1 r1 f1, conA_step rs1 f1 lx1 h1 fun ds M2 vs H2 F2 h2 s2 r2 f2 _ _ => tr' x ds v vs M2 F2 H2 B Q h2 (r1.same s2) r2 f2 (l.mono (s1.trans s2))⟩
theorem bm0_con (tr' : OpM K r ar) (σ : L2.St) (H : Hp) (Q : VK) (h : conE K W A (aBM0 T ar tob) σ H Q) : tBM0 K T r (conE K W A tob) σ H Q := by
  obtain ⟨xs, M, F, B, rs, fr, lx, h, l⟩ := h
  exact con_step rs fr lx h fun x M1 v H1 F1 ⟨k1, h1⟩ s1 r1 f1 rs1 lx1 => ⟨isK_at k1 r1 f1, tr' x [] v [] M1 F1 H1 B Q h1 r1 .nil f1 (l.mono s1)⟩
theorem a_bm {ex : Expr} (tr' : OpM K r ar) (h : PE X ex (tBM X.K T r (conE K W A tob) (conA K W A tr))) (hK : X.K = K := by rfl) : PE X ex (conE K W A (aBM T ar tob tr)) := by
  subst hK
  exact h.to fun σ H Q q => bm_con tr' σ H Q q
theorem a_bm0 {ex : Expr} (tr' : OpM K r ar) (h : PE X ex (tBM0 X.K T r (conE K W A tob))) (hK : X.K = K := by rfl) : PE X ex (conE K W A (aBM0 T ar tob)) := by
  subst hK
  exact h.to fun σ H Q q => bm0_con tr' σ H Q q
/-! fields -/
inductive InsAt (M : Mem) : D → Addr → List (Str × D) → Prop
  | d {C : Addr} {fs : List (Str × D)} : InsAt M (.ins C fs) C fs
  | o {a C : Addr} {fs : List (Str × D)} {u : Ob → Mem} : At M a (.ins C fs) u → InsAt M (.r a) C fs
theorem InsAt.at_ {M : Mem} {x : D} {C : Addr} {fs : List (Str × D)} {v : V} {F H : Hp} (h : InsAt M x C fs) (r : Rv K F v x) (f : Fr K M F H) : ∃ a dx vfs, v = .ref a ∧ H a = some (.ins C dx vfs) ∧ RvF K F vfs fs := by
  cases h with
  | d =>
    obtain ⟨a, dx, vfs, rfl, e, l⟩ := r.ins_inv
    exact ⟨a, dx, vfs, rfl, f.sub _ _ e, l⟩
  | o h =>
    cases r
    obtain ⟨dx, vfs, e, l⟩ := f.at_ _ h.mem
    exact ⟨_, dx, vfs, rfl, e, l⟩
@[reducible] def aFld (K : PySem.W.Frag) (ta : ATE) (f : Str) : ATE := fun xs M Q => ta xs M fun x M1 => ∃ C fs d, InsAt M1 x C fs ∧ Cls K C ∧ NoAttr K C f ∧ fs.lookup f = some d ∧ Q d M1
theorem a_fld {f : Str} (he : PE X e (conE K W A ta)) (hb : attributeBase e f X.env (eval e X.env) = eval e X.env := by rfl) (hK : X.K = K := by rfl) : PE X (.Attribute e f pos) (conE K W A (aFld K ta f)) := by
  subst hK
  exact (pe_fld he hb).to fun σ H Q ⟨xs, M, F, B, rs, fr, lx, h, l⟩ => con_step rs fr lx h fun x M1 v H1 F1 ⟨C, fs, d, hi, cl, na, lk, h1⟩ s1 r1 f1 _ _ => by
    obtain ⟨a, dx, vfs, rfl, ea, rf⟩ := hi.at_ r1 f1
    obtain ⟨u, eu, ru⟩ := rf.lookup lk
    exact ⟨a, C, dx, vfs, u, rfl, ea, cl, na, eu, l _ _ _ _ _ h1 s1 ru f1⟩
/-! slices -/
abbrev ATO := AS → Mem → (Option Int → Mem → Prop) → Prop
def LnO (K : PySem.W.Frag) (F : Hp) (B : Option Int → Mem → Prop) (Q : Option Int → Hp → Prop) : Prop := ∀ b M' H' F', B b M' → Same F F' → Fr K M' F' H' → Q b H'
def conO (K : PySem.W.Frag) (W : WX) (A : AX) (t : ATO) : TO := fun σ H Q => ∃ xs M F B, Rs K F xs σ ∧ Fr K M F H ∧ LnX K F A W ∧ t xs M B ∧ LnO K F B Q
@[reducible] def aNoPart : ATO := fun _ M Q => Q none M
@[reducible] def aPart (t : ATE) : ATO := fun xs M Q => t xs M fun x M1 => ∃ i, x = .int i ∧ Q (some i) M1
theorem _root_.L2.PO.to {e : Option Expr} {t t' : TO} (h : PO X e t) (m : ∀ σ H Q, t' σ H Q → t σ H Q) : PO X e t' := ⟨fun pins s σ H Q I q => h.run pins s σ H Q I (m _ _ _ q)⟩
theorem ao_none : PO X none (conO K W A aNoPart) := po_none.to fun σ H Q ⟨xs, M, F, B, rs, fr, lx, h, l⟩ => l _ _ _ _ h (Same.refl F) fr
theorem ao_some (h : PE X e (conE K W A ta)) : PO X (some e) (conO K W A (aPart ta)) := (po_some h).to fun σ H Q ⟨xs, M, F, B, rs, fr, lx, h, l⟩ => con_step rs fr lx h fun x M1 v H1 F1 ⟨i, e, h1⟩ s1 r1 f1 _ _ => by
  subst e
  cases r1
  exact ⟨i, rfl, l _ _ _ _ h1 s1 f1⟩
def OpS (K : PySem.W.Frag) (r : V → Option Int → Option Int → Hp → VK → Prop) (ar : D → Option Int → Option Int → Mem → AQ → Prop) : Prop := ∀ x l h v M F H B Q, ar x l h M B → Rv K F v x → Fr K M F H → Ln K F B Q → r v l h H Q
@[reducible] def aSl (ar : D → Option Int → Option Int → Mem → AQ → Prop) (te : ATE) (tl th : ATO) : ATE := fun xs M Q => te xs M fun x M1 => tl xs M1 fun l M2 => th xs M2 fun u M3 => ar x l u M3 Q
theorem a_slice {r : V → Option Int → Option Int → Hp → VK → Prop} {ar : D → Option Int → Option Int → Mem → AQ → Prop} {lo hi : Option Expr} {tl th : ATO} {p2 : Pos} (hr : SlR X r ∧ OpS K r ar) (he : PE X e (conE K W A ta)) (hl : PO X lo (conO K W A tl)) (hu : PO X hi (conO K W A th)) :
    PE X (.Subscript e (.Slice lo hi none p2) pos) (conE K W A (aSl ar ta tl th)) :=
  (pe_slice hr.1 he hl hu).to fun σ H Q ⟨xs, M, F, B, rs, fr, lx, h, l⟩ => con_step rs fr lx h fun x M1 v H1 F1 h1 s1 r1 f1 rs1 lx1 =>
    ⟨xs, M1, F1, _, rs1, f1, lx1, h1, fun o M2 H2 F2 h2 s2 f2 => ⟨xs, M2, F2, _, rs1.same s2, f2, lx1.mono s2, h2, fun o' M3 H3 F3 h3 s3 f3 => hr.2 x o o' v M3 F3 H3 B Q h3 ((r1.same s2).same s3) f3 (l.mono ((s1.trans s2).trans s3))⟩⟩
@[reducible] def aRev (K : PySem.W.Frag) (te : ATE) : ATE := fun xs M Q => te xs M fun x M1 => ∃ ds, Ls M1 x ds ∧ NewL ds.reverse M1 Q
theorem a_revL {k : Nat} {p1 p2 p3 : Pos} (he : PE X e (conE K W A ta)) (hK : X.K = K := by rfl) : PE X (.Subscript e (.Slice none none (some (.UnaryOp .USub (.Constant (.int 1) k p1) p2)) p3) pos) (conE K W A (aRev K ta)) := by
  subst hK
  exact (pe_revL he).to fun σ H Q ⟨xs, M, F, B, rs, fr, lx, h, l⟩ => con_step rs fr lx h fun x M1 v H1 F1 ⟨ds, hl, h1⟩ s1 r1 f1 rs1 lx1 => by
    obtain ⟨a, vs, rfl, s, rl⟩ := hl.at_ r1 f1
    exact ⟨a, vs, rfl, s, NewL.run h1 rl.reverse f1 (l.mono s1)⟩
end
end AV

set_option Elab.async false
set_option linter.all false
set_option maxRecDepth 100000
set_option maxHeartbeats 4000000
/-! A3: targets, walks, comprehensions, statements, loops, calls of own defs (own work). -/
namespace AV
open PySem PySem.Spec PyProof.Rows L2 G TL
structure AEnds where
  nx : AS → Mem → Prop
  rt : AQ
  bk : AS → Mem → Prop := fun _ _ => False
  ct : AS → Mem → Prop := fun _ _ => False
abbrev ATS := AEnds → AS → Mem → Prop
abbrev ATG := D → AS → Mem → (AS → Mem → Prop) → Prop
abbrev ATGs := List D → AS → Mem → (AS → Mem → Prop) → Prop
abbrev ATI := AS → Mem → (List D → Mem → Prop) → Prop
section
variable (K : PySem.W.Frag)
def LnS (F : Hp) (B : AS → Mem → Prop) (Q : L2.St → Hp → Prop) : Prop := ∀ xs M σ H F', B xs M → Same F F' → Rs K F' xs σ → Fr K M F' H → Q σ H
structure LnE (F : Hp) (B : AEnds) (Q : Ends) : Prop where
  nx : LnS K F B.nx Q.nx
  rt : Ln K F B.rt Q.rt
  bk : LnS K F B.bk Q.bk
  ct : LnS K F B.ct Q.ct
def conS (W : WX) (A : AX) (t : ATS) : TS := fun Q σ H => ∃ xs M F B, Rs K F xs σ ∧ Fr K M F H ∧ LnX K F A W ∧ t B xs M ∧ LnE K F B Q
/-- off the slots vs nothing is changed -/
def Off (vs : List Nat) (σ σ' : L2.St) : Prop := σ'.length = σ.length ∧ ∀ i, i ∉ vs → σ'[i]? = σ[i]?
def conG (W : WX) (A : AX) (vs : List Nat) (t : ATG) : TG := fun v σ H Q => ∃ x xs M F B, Rv K F v x ∧ Rs K F xs σ ∧ Fr K M F H ∧ LnX K F A W ∧ t x xs M B ∧ ∀ xs' M' σ' H' F', B xs' M' → Same F F' → Rs K F' xs' σ' → Fr K M' F' H' → Off vs σ σ' → Q σ' H'
def conGs (W : WX) (A : AX) (vs : List Nat) (t : ATGs) : TGs := fun v σ H Q => ∃ x xs M F B, RvL K F v x ∧ Rs K F xs σ ∧ Fr K M F H ∧ LnX K F A W ∧ t x xs M B ∧ ∀ xs' M' σ' H' F', B xs' M' → Same F F' → Rs K F' xs' σ' → Fr K M' F' H' → Off vs σ σ' → Q σ' H'
/-- J walks the items its, as long as F stands -/
structure Wk (F : Hp) (its : List D) (J : It) : Prop where
  ex : ∃ (G : Hp → Prop) (Y : Nat → Hp → V → Hp → Prop), Walk J its.length G Y ∧ (∀ M' F' H', Same F F' → Fr K M' F' H' → G H') ∧
    ∀ i H1 x H2 F1 M1 d, Y i H1 x H2 → its[i]? = some d → Same F F1 → Fr K M1 F1 H1 → ∃ F2, Same F1 F2 ∧ Fr K M1 F2 H2 ∧ Rv K F2 x d
def conI (W : WX) (A : AX) (wi : ATI) : TI := fun σ H R => ∃ xs M F B, Rs K F xs σ ∧ Fr K M F H ∧ LnX K F A W ∧ wi xs M B ∧ ∀ its M' J H' F', B its M' → Same F F' → Fr K M' F' H' → Wk K F' its J → R J H'
end
section
variable {K : PySem.W.Frag} {F F' : Hp} {W : WX} {A : AX} {X : Cx}
theorem LnS.mono {B : AS → Mem → Prop} {Q : L2.St → Hp → Prop} (h : LnS K F B Q) (s : Same F F') : LnS K F' B Q := fun xs M σ H F2 b s2 => h xs M σ H F2 b (s.trans s2)
theorem LnE.mono {B : AEnds} {Q : Ends} (h : LnE K F B Q) (s : Same F F') : LnE K F' B Q := ⟨h.nx.mono s, h.rt.mono s, h.bk.mono s, h.ct.mono s⟩
theorem Off.refl {vs : List Nat} {σ : L2.St} : Off vs σ σ := ⟨rfl, fun _ _ => rfl⟩
theorem Off.trans {vs ws : List Nat} {σ σ1 σ2 : L2.St} (a : Off vs σ σ1) (b : Off ws σ1 σ2) : Off (vs ++ ws) σ σ2 := ⟨b.1.trans a.1, fun i h => by
  rw [List.mem_append, not_or] at h
  exact (b.2 i h.2).trans (a.2 i h.1)⟩
theorem Off.set {i : Nat} {σ : L2.St} {v : Option V} : Off [i] σ (σ.set i v) := ⟨List.length_set, fun j h => List.getElem?_set_ne fun e => h (by simp [e])⟩
theorem wipe_get {σ : L2.St} {i : Nat} : ∀ {vs : List Nat}, i ∉ vs → (L2.wipe σ vs)[i]? = σ[i]?
  | [], _ => rfl
  | v :: vs, h => by
    rw [List.mem_cons, not_or] at h
    unfold L2.wipe
    rw [List.getElem?_set_ne fun e => h.1 e.symm, wipe_get h.2]
theorem wipe_in {σ : L2.St} {i : Nat} : ∀ {vs : List Nat}, i ∈ vs → i < σ.length → (L2.wipe σ vs)[i]? = some none
  | v :: vs, h, hi => by
    unfold L2.wipe
    by_cases e : v = i
    · subst e
      rw [List.getElem?_set_self (by rw [L2.wipe_length]; exact hi)]
    · rw [List.getElem?_set_ne e]
      exact wipe_in ((List.mem_cons.mp h).resolve_left fun z => e z.symm) hi
theorem wipe_off {σ σ' : L2.St} {vs : List Nat} (o : Off vs (L2.wipe σ vs) σ') : L2.wipe σ' vs = L2.wipe σ vs := by
  refine List.ext_getElem? fun i => ?_
  by_cases h : i ∈ vs
  · by_cases hi : i < σ.length
    · rw [wipe_in h hi, wipe_in h (by rw [o.1, L2.wipe_length]; exact hi)]
    · rw [List.getElem?_eq_none (by rw [L2.wipe_length, o.1, L2.wipe_length]; omega), List.getElem?_eq_none (by rw [L2.wipe_length]; omega)]
  · rw [wipe_get h, o.2 i h]
/-! ### targets -/
@[reducible] def agName (i : Nat) : ATG := fun d xs M Q => Q (xs.set i (some d)) M
@[reducible] def agNil : ATGs := fun ds xs M Q => ds = [] ∧ Q xs M
@[reducible] def agCons (t : ATG) (u : ATGs) : ATGs := fun ds xs M Q => ∃ d r, ds = d :: r ∧ t d xs M fun xs' M' => u r xs' M' Q
@[reducible] def agTup (n : Nat) (t : ATGs) : ATG := fun d xs M Q => ∃ ds, d = .tup ds ∧ ds.length = n ∧ t ds xs M Q
theorem _root_.L2.PG.to {e : Expr} {t t' : TG} (h : PG X e t) (m : ∀ v σ H Q, t' v σ H Q → t v σ H Q) : PG X e t' := ⟨fun pins s σ H v u Q I r q => h.run pins s σ H v u Q I r (m _ _ _ _ q)⟩
theorem _root_.L2.PGs.to {e : List Expr} {t t' : TGs} (h : PGs X e t) (m : ∀ v σ H Q, t' v σ H Q → t v σ H Q) : PGs X e t' := ⟨fun pins s σ H v u Q I r q => h.run pins s σ H v u Q I r (m _ _ _ _ q)⟩
variable {pos : Pos} {e : Expr} {es : List Expr}
theorem ag_name {i : Nat} (h : PG X e (gName i)) : PG X e (conG K W A [i] (agName i)) := h.to fun v σ H Q ⟨x, xs, M, F, B, rv, rs, fr, lx, h, l⟩ => l _ _ _ _ _ h (Same.refl F) (rs.set rv) fr Off.set
theorem ags_nil : PGs X [] (conGs K W A [] agNil) := pgs_nil.to fun v σ H Q ⟨x, xs, M, F, B, rv, rs, fr, lx, ⟨e, h⟩, l⟩ => by
  subst e
  exact ⟨rv.inv_nil, l _ _ _ _ _ h (Same.refl F) rs fr Off.refl⟩
theorem ags_cons {t : ATG} {u : ATGs} {vs ws : List Nat} (h1 : PG X e (conG K W A vs t)) (h2 : PGs X es (conGs K W A ws u)) (hs : (assignEach (e :: es) X.env).map (·.2) = assign e X.env :: (assignEach es X.env).map (·.2) := by rfl) :
    PGs X (e :: es) (conGs K W A (vs ++ ws) (agCons t u)) := (pgs_cons h1 h2 hs).to fun v σ H Q ⟨x, xs, M, F, B, rv, rs, fr, lx, ⟨d, r, e, h⟩, l⟩ => by
  subst e
  obtain ⟨v, vr, rfl, r1, r2⟩ := rv.inv
  exact ⟨v, vr, rfl, d, xs, M, F, _, r1, rs, fr, lx, h, fun xs' M' σ' H' F1 b s rs' fr' o => ⟨r, xs', M', F1, _, r2.same s, rs', fr', lx.mono s, b, fun xs2 M2 σ2 H2 F2 b2 s2 rs2 fr2 o2 => l _ _ _ _ _ b2 (s.trans s2) rs2 fr2 (o.trans o2)⟩⟩
theorem ag_tup {t : ATGs} {vs : List Nat} {k n : Nat} (hc : X.calm = true) (h : PGs X es (conGs K W A vs t)) (hn : (assignEach es X.env).length = n := by rfl) (hst : (assignEach es X.env).findIdx? (·.1) = none := by rfl) (hK : X.K = K := by rfl) :
    PG X (.Tuple es k pos) (conG K W A vs (agTup n t)) := by
  subst hK
  exact (pg_tup hc h hn hst).to fun v σ H Q ⟨x, xs, M, F, B, rv, rs, fr, lx, ⟨ds, e, hl, h⟩, l⟩ => by
    subst e
    obtain ⟨a, vs', rfl, hq, r⟩ := rv.tup_at fr
    exact ⟨a, vs', rfl, hq, r.1.trans hl, ds, xs, M, F, B, r, rs, fr, lx, h, l⟩
/-! stores to a place of a list -/
def aSet (o i d : D) (M : Mem) (Q : Mem → Prop) : Prop := ∃ a xs k j u, o = .r a ∧ i = .int k ∧ At M a (.lst xs) u ∧ ixN xs.length k = some j ∧ Q (u (.lst (xs.set j d)))
theorem set_con {o i d : D} {v1 v2 v3 : V} {M : Mem} {F H : Hp} {B : Mem → Prop} {Q : Hp → Prop} (h : aSet o i d M B) (r1 : Rv K F v1 o) (r2 : Rv K F v2 i) (r3 : Rv K F v3 d) (fr : Fr K M F H) (l : ∀ M' H', B M' → Fr K M' F H' → Q H') : rSetL v1 v2 v3 H Q := by
  obtain ⟨a, xs, k, j, u, rfl, rfl, ha, hj, q⟩ := h
  cases r1
  cases r2
  obtain ⟨vs, e1, rl⟩ := fr.at_ _ ha.mem
  exact ⟨a, vs, k, j, rfl, rfl, e1, by rw [rl.1]; exact hj, l _ _ q (fr.put ha ⟨_, upd_same, rl.set r3⟩)⟩
@[reducible] def agSub (to ti : ATE) : ATG := fun d xs M Q => to xs M fun o M1 => ti xs M1 fun i M2 => aSet o i d M2 fun M3 => Q xs M3
theorem ag_sub {tob ti : ATE} (h : PG X e (gSub (conE K W A tob) (conE K W A ti) rSetL)) : PG X e (conG K W A [] (agSub tob ti)) := h.to fun v σ H Q ⟨x, xs, M, F, B, rv, rs, fr, lx, h, l⟩ =>
  con_step rs fr lx h fun o M1 v1 H1 F1 h1 s1 r1 f1 rs1 lx1 => con_step rs1 f1 lx1 h1 fun i M2 v2 H2 F2 h2 s2 r2 f2 rs2 lx2 =>
    set_con h2 (r1.same s2) r2 ((rv.same s1).same s2) f2 fun M3 H3 b f3 => l _ _ _ _ _ b (s1.trans s2) rs2 f3 Off.refl
/-! ### walks -/
theorem _root_.L2.PI.to {tg e : Expr} {t t' : TI} (h : PI X tg e t) (m : ∀ σ H R, t' σ H R → t σ H R) : PI X tg e t' := ⟨fun pins s σ H R I q => h.run pins s σ H R I (m _ _ _ q)⟩
def chars (z : Str) : List D := (tl z).map fun c => .str ⟨#[c]⟩
inductive Its : D → List D → Prop
  | scr {xs : List D} : Its (.scr xs) xs
  | lst {xs : List D} : Its (.lst xs) xs
  | tup {xs : List D} : Its (.tup xs) xs
  | str {z : Str} : Its (.str z) (chars z)
@[reducible] def aiOf (ta : ATE) : ATI := fun xs M R => ta xs M fun x M1 => ∃ its, Its x its ∧ R its M1
theorem wk_list {a : Addr} {vs : List V} {its : List D} (hs : SqL K F a vs) (r : RvL K F vs its) : Wk K F its (Itl K a) :=
  ⟨fun H => SqL K H a vs, YAt vs, by rw [← r.1]; exact walk_list, fun M' F' H' s f => (hs.ext s).ext f.sub, fun i H1 x H2 F1 M1 d ⟨e1, e2⟩ ed s f => ⟨F1, Same.refl _, by rw [e1]; exact f, (r.2 i x d e2 ed).same s⟩⟩
theorem wk_tup {a : Addr} {vs : List V} {its : List D} (hs : SqT K F a vs) (r : RvL K F vs its) : Wk K F its (Itt K a) :=
  ⟨fun H => SqT K H a vs, YAt vs, by rw [← r.1]; exact walk_tup, fun M' F' H' s f => (hs.ext s).ext f.sub, fun i H1 x H2 F1 M1 d ⟨e1, e2⟩ ed s f => ⟨F1, Same.refl _, by rw [e1]; exact f, (r.2 i x d e2 ed).same s⟩⟩
theorem wk_str {z : Str} : Wk K F (chars z) (L2.Its z) :=
  ⟨fun _ => True, fun i H v H' => H' = H ∧ ∃ c, z.cps[i]? = some c ∧ v = .str ⟨#[c]⟩, by
    have e : (chars z).length = z.cps.size := by unfold chars tl; rw [List.length_map, Array.length_toList]
    rw [e]; exact walk_str, fun _ _ _ _ _ => trivial, fun i H1 x H2 F1 M1 d ⟨e1, c, hc, ex⟩ ed s f => ⟨F1, Same.refl _, by rw [e1]; exact f, by
      subst ex
      unfold chars tl at ed
      rw [List.getElem?_map, Array.getElem?_toList, hc] at ed
      cases ed
      exact .str _⟩⟩
theorem wk_range {lo : Int} {n : Nat} : Wk K F ((List.range n).map fun (i : Nat) => D.int (lo + i)) (Itr lo n) :=
  ⟨fun _ => True, YFn fun i => .int (lo + i), by rw [List.length_map, List.length_range]; exact walk_range, fun _ _ _ _ _ => trivial, fun i H1 x H2 F1 M1 d ⟨e1, e2⟩ ed s f => ⟨F1, Same.refl _, by rw [e1]; exact f, by
    subst e2
    rw [List.getElem?_map] at ed
    cases q : (List.range n)[i]? with
    | none => rw [q] at ed; cases ed
    | some j =>
      rw [q] at ed
      cases ed
      have := (List.getElem?_eq_some_iff.mp q).2
      rw [List.getElem_range] at this
      subst this
      exact .int _⟩⟩
theorem ai_of {tg : Expr} {ta : ATE} (h : PI X tg e (gIt K (conE K W A ta))) : PI X tg e (conI K W A (aiOf ta)) := h.to fun σ H R ⟨xs, M, F, B, rs, fr, lx, h, l⟩ =>
  con_step rs fr lx h fun x M1 v H1 F1 ⟨its, hi, h1⟩ s1 r1 f1 _ _ => by
    cases hi with
    | scr =>
      obtain ⟨a, vs, rfl, s, rl⟩ := r1.scr_inv
      exact .inl ⟨a, rfl, ⟨vs, s.ext f1.sub⟩, l _ _ _ _ _ h1 s1 f1 (wk_list s rl)⟩
    | lst =>
      obtain ⟨a, vs, rfl, s, rl⟩ := r1.lst_inv
      exact .inl ⟨a, rfl, ⟨vs, s.ext f1.sub⟩, l _ _ _ _ _ h1 s1 f1 (wk_list s rl)⟩
    | tup =>
      obtain ⟨a, vs, rfl, s, rl⟩ := r1.tup_inv
      exact .inr (.inl ⟨a, rfl, ⟨vs, s.ext f1.sub⟩, l _ _ _ _ _ h1 s1 f1 (wk_tup s rl)⟩)
    | str =>
      cases r1
      exact .inr (.inr ⟨_, rfl, l _ _ _ _ _ h1 s1 f1 wk_str⟩)
@[reducible] def aiR1 (t : ATA) : ATI := fun xs M R => t xs M fun ds M1 => ∃ j : Int, ds = [.int j] ∧ (-(2 ^ 62) ≤ j ∧ j < 2 ^ 62) ∧ R ((List.range j.toNat).map fun (i : Nat) => D.int i) M1
@[reducible] def aiR2 (t : ATA) : ATI := fun xs M R => t xs M fun ds M1 => ∃ i j : Int, ds = [.int i, .int j] ∧ (-(2 ^ 62) ≤ i ∧ i < 2 ^ 62 ∧ -(2 ^ 62) ≤ j ∧ j < 2 ^ 62) ∧ R ((List.range (j - i).toNat).map fun (k : Nat) => D.int (i + k)) M1
theorem ai_r1 {tg : Expr} {t : ATA} (h : PI X tg e (iRng1 (conA K W A t))) : PI X tg e (conI K W A (aiR1 t)) := h.to fun σ H R ⟨xs, M, F, B, rs, fr, lx, h, l⟩ =>
  conA_step rs fr lx h fun ds M1 vs H1 F1 ⟨j, e, ⟨b1, b2⟩, h1⟩ s1 r1 f1 _ _ => by
    subst e
    obtain ⟨v, vs, rfl, q, r2⟩ := r1.inv
    cases q
    obtain rfl := r2.inv_nil
    have w := wk_range (K := K) (F := F1) (lo := 0) (n := j.toNat)
    simp only [Int.zero_add] at w
    exact ⟨j, rfl, b1, b2, l _ _ _ _ _ h1 s1 f1 w⟩
theorem ai_r2 {tg : Expr} {t : ATA} (h : PI X tg e (iRng2 (conA K W A t))) : PI X tg e (conI K W A (aiR2 t)) := h.to fun σ H R ⟨xs, M, F, B, rs, fr, lx, h, l⟩ =>
  conA_step rs fr lx h fun ds M1 vs H1 F1 ⟨i, j, e, b, h1⟩ s1 r1 f1 _ _ => by
    subst e
    obtain ⟨v, vs, rfl, q, r2⟩ := r1.inv
    cases q
    obtain ⟨v, vs, rfl, q, r3⟩ := r2.inv
    cases q
    obtain rfl := r3.inv_nil
    exact ⟨i, j, rfl, b, l _ _ _ _ _ h1 s1 f1 wk_range⟩
end
end AV

set_option Elab.async false
set_option linter.all false
set_option maxRecDepth 100000
set_option maxHeartbeats 4000000
/-! A4: comprehensions, statements, loops, calls of own defs and methods, new instances, errors (own work). -/
namespace AV
open PySem PySem.Spec PyProof.Rows L2 G TL
/-- what is known may be told in another way: less of it, or an object that is written no more as data -/
def Fz (K : PySem.W.Frag) (xs : AS) (M : Mem) (xs' : AS) (M' : Mem) : Prop := ∀ F σ H, Rs K F xs σ → Fr K M F H → ∃ F', Same F F' ∧ Rs K F' xs' σ ∧ Fr K M' F' H
def FzV (K : PySem.W.Frag) (d : D) (M : Mem) (d' : D) (M' : Mem) : Prop := ∀ F v H, Rv K F v d → Fr K M F H → ∃ F', Same F F' ∧ Rv K F' v d' ∧ Fr K M' F' H
/-- one place of a value told anew -/
inductive Sb (a : Addr) (e : D) : D → D → Prop
  | hit : Sb a e (.r a) e
  | same {d : D} : Sb a e d d
  | tup {ds ds' : List D} : ds.length = ds'.length → (∀ (i : Nat) d d', ds[i]? = some d → ds'[i]? = some d' → Sb a e d d') → Sb a e (.tup ds) (.tup ds')
  | lst {ds ds' : List D} : ds.length = ds'.length → (∀ (i : Nat) d d', ds[i]? = some d → ds'[i]? = some d' → Sb a e d d') → Sb a e (.lst ds) (.lst ds')
def SbL (a : Addr) (e : D) (ds ds' : List D) : Prop := ds.length = ds'.length ∧ ∀ (i : Nat) d d', ds[i]? = some d → ds'[i]? = some d' → Sb a e d d'
def SbF (a : Addr) (e : D) (fs fs' : List (Str × D)) : Prop := fs.length = fs'.length ∧ ∀ (i : Nat) p q, fs[i]? = some p → fs'[i]? = some q → p.1 = q.1 ∧ Sb a e p.2 q.2
inductive SbO (a : Addr) (e : D) : Ob → Ob → Prop
  | same {o : Ob} : SbO a e o o
  | lst {ds ds' : List D} : SbL a e ds ds' → SbO a e (.lst ds) (.lst ds')
  | ins {C : Addr} {fs fs' : List (Str × D)} : SbF a e fs fs' → SbO a e (.ins C fs) (.ins C fs')
inductive SbS (a : Addr) (e : D) : AS → AS → Prop
  | nil : SbS a e [] []
  | hit {xs xs' : AS} : SbS a e xs xs' → SbS a e (some (.r a) :: xs) (some e :: xs')
  | same {x : Option D} {xs xs' : AS} : SbS a e xs xs' → SbS a e (x :: xs) (x :: xs')
  | deep {d d' : D} {xs xs' : AS} : Sb a e d d' → SbS a e xs xs' → SbS a e (some d :: xs) (some d' :: xs')
inductive SbM (a : Addr) (e : D) : Mem → Mem → Prop
  | nil : SbM a e [] []
  | rest {M : Mem} : SbM a e M M
  | same {p : Addr × Ob} {M M' : Mem} : SbM a e M M' → SbM a e (p :: M) (p :: M')
  | deep {b : Addr} {o o' : Ob} {M M' : Mem} : SbO a e o o' → SbM a e M M' → SbM a e ((b, o) :: M) ((b, o') :: M')
section
variable {K : PySem.W.Frag} {F F' H : Hp} {a : Addr} {e d d' : D} {v : V} {vs : List V} {ds ds' : List D} {xs xs' : AS} {M M' M2 : Mem} {σ : L2.St} {o : Ob}
theorem Sb.rv (h : Sb a e d d') : ∀ {v}, Rv K F (.ref a) e → Rv K F v d → Rv K F v d' := by
  induction h with
  | hit => intro v re r; cases r; exact re
  | same => intro v _ r; exact r
  | tup hl _ ih =>
    intro v re r
    obtain ⟨a, vs, rfl, s, l⟩ := r.tup_inv
    refine .of_tup s ⟨l.1.trans hl, fun i w d' h1 h2 => ?_⟩
    have hi := (List.getElem?_eq_some_iff.mp h2).1
    have q := List.getElem?_eq_getElem (show i < _ from by rw [hl]; exact hi)
    exact ih i _ d' q h2 re (l.2 i w _ h1 q)
  | lst hl _ ih =>
    intro v re r
    obtain ⟨a, vs, rfl, s, l⟩ := r.lst_inv0
    refine .of_lst s ⟨l.1.trans hl, fun i w d' h1 h2 => ?_⟩
    have hi := (List.getElem?_eq_some_iff.mp h2).1
    have q := List.getElem?_eq_getElem (show i < _ from by rw [hl]; exact hi)
    exact ih i _ d' q h2 re (l.2 i w _ h1 q)
theorem SbL.rv (h : SbL a e ds ds') (re : Rv K F (.ref a) e) (r : RvL K F vs ds) : RvL K F vs ds' := ⟨r.1.trans h.1, fun i w d' h1 h2 => by
  have hi := (List.getElem?_eq_some_iff.mp h2).1
  have q := List.getElem?_eq_getElem (show i < ds.length from by rw [h.1]; exact hi)
  exact (h.2 i _ d' q h2).rv re (r.2 i w _ h1 q)⟩
theorem SbL.nil : SbL a e [] [] := ⟨rfl, fun i d d' h => by simp at h⟩
theorem SbL.cons (h : Sb a e d d') (t : SbL a e ds ds') : SbL a e (d :: ds) (d' :: ds') := ⟨by simp [t.1], fun i x y h1 h2 => by
  cases i with
  | zero => cases h1; cases h2; exact h
  | succ i => exact t.2 i x y (by simpa using h1) (by simpa using h2)⟩
theorem SbF.nil : SbF a e [] [] := ⟨rfl, fun i d d' h => by simp at h⟩
theorem SbF.cons {f : Str} {fs fs' : List (Str × D)} (h : Sb a e d d') (t : SbF a e fs fs') : SbF a e ((f, d) :: fs) ((f, d') :: fs') := ⟨by simp [t.1], fun i x y h1 h2 => by
  cases i with
  | zero => cases h1; cases h2; exact ⟨rfl, h⟩
  | succ i => exact t.2 i x y (by simpa using h1) (by simpa using h2)⟩
theorem SbF.rv {vfs : List (Str × V)} {fs fs' : List (Str × D)} (h : SbF a e fs fs') (re : Rv K F (.ref a) e) (r : RvF K F vfs fs) : RvF K F vfs fs' := ⟨r.1.trans h.1, fun i w d' h1 h2 => by
  have hi := (List.getElem?_eq_some_iff.mp h2).1
  have q := List.getElem?_eq_getElem (show i < fs.length from by rw [h.1]; exact hi)
  obtain ⟨e1, z⟩ := h.2 i _ d' q h2
  obtain ⟨e2, y⟩ := r.2 i w _ h1 q
  exact ⟨e2.trans e1, z.rv re y⟩⟩
theorem SbO.ro {b : Addr} {o o' : Ob} (h : SbO a e o o') (re : Rv K F (.ref a) e) (r : RO K F H b o) : RO K F H b o' := by
  cases h with
  | same => exact r
  | lst h => obtain ⟨vs, e1, l⟩ := r; exact ⟨vs, e1, h.rv re l⟩
  | ins h => obtain ⟨dx, vs, e1, l⟩ := r; exact ⟨dx, vs, e1, h.rv re l⟩
theorem SbS.rs (h : SbS a e xs xs') (re : Rv K F (.ref a) e) : ∀ {σ}, Rs K F xs σ → Rs K F xs' σ := by
  have tail : ∀ {x : Option D} {ys : AS} {σ : L2.St}, Rs K F (x :: ys) σ → ∃ w σ', σ = w :: σ' ∧ Rs K F ys σ' ∧ ∀ d, x = some d → ∃ v, w = some v ∧ Rv K F v d := fun {x ys σ} r => by
    cases σ with
    | nil => have := r.1; simp at this
    | cons w σ => exact ⟨w, σ, rfl, ⟨by have := r.1; simpa using this, fun i d q => r.2 (i + 1) d (by simpa using q)⟩, fun d q => by
        obtain ⟨v, e1, rv⟩ := r.2 0 d (by rw [q]; rfl)
        exact ⟨v, by simpa using e1, rv⟩⟩
  have glue : ∀ {x : Option D} {ys : AS} {w : Option V} {σ : L2.St}, Rs K F ys σ → (∀ d, x = some d → ∃ v, w = some v ∧ Rv K F v d) → Rs K F (x :: ys) (w :: σ) := fun {x ys w σ} r k => ⟨by simp [r.1], fun i d q => by
    cases i with
    | zero =>
      obtain ⟨v, e1, rv⟩ := k d (by simpa using q)
      exact ⟨v, by rw [e1]; rfl, rv⟩
    | succ i => exact r.2 i d (by simpa using q)⟩
  induction h with
  | nil => intro σ r; exact r
  | hit _ ih =>
    intro σ r
    obtain ⟨w, σ', rfl, r1, k⟩ := tail r
    refine glue (ih r1) fun d q => ?_
    obtain ⟨v, e1, rv⟩ := k _ rfl
    cases q
    cases rv
    exact ⟨_, e1, re⟩
  | same _ ih =>
    intro σ r
    obtain ⟨w, σ', rfl, r1, k⟩ := tail r
    exact glue (ih r1) k
  | deep h _ ih =>
    intro σ r
    obtain ⟨w, σ', rfl, r1, k⟩ := tail r
    refine glue (ih r1) fun d q => ?_
    obtain ⟨v, e1, rv⟩ := k _ rfl
    cases q
    exact ⟨v, e1, h.rv re rv⟩
theorem SbM.fr (h : SbM a e M M') (re : Rv K F (.ref a) e) (f : Fr K M F H) : Fr K M' F H := by
  have keys : M'.map (·.1) = M.map (·.1) := by
    induction h with
    | nil => rfl
    | rest => rfl
    | same _ ih => rw [List.map_cons, List.map_cons, ih ⟨f.sub, fun p hp => f.out p (List.mem_cons_of_mem _ hp), by have := f.nod; rw [List.map_cons, List.nodup_cons] at this; exact this.2, fun p hp => f.at_ p (List.mem_cons_of_mem _ hp)⟩]
    | deep _ _ ih => rw [List.map_cons, List.map_cons, ih ⟨f.sub, fun p hp => f.out p (List.mem_cons_of_mem _ hp), by have := f.nod; rw [List.map_cons, List.nodup_cons] at this; exact this.2, fun p hp => f.at_ p (List.mem_cons_of_mem _ hp)⟩]
  have at_ : ∀ q ∈ M', ∃ p ∈ M, p.1 = q.1 ∧ SbO a e p.2 q.2 := by
    clear f keys
    induction h with
    | nil => intro q hq; cases hq
    | rest => intro q hq; exact ⟨q, hq, rfl, .same⟩
    | same _ ih =>
      intro q hq
      rcases List.mem_cons.mp hq with rfl | hq
      · exact ⟨q, List.mem_cons_self, rfl, .same⟩
      · obtain ⟨p, hp, z⟩ := ih q hq
        exact ⟨p, List.mem_cons_of_mem _ hp, z⟩
    | deep ho _ ih =>
      intro q hq
      rcases List.mem_cons.mp hq with rfl | hq
      · exact ⟨_, List.mem_cons_self, rfl, ho⟩
      · obtain ⟨p, hp, z⟩ := ih q hq
        exact ⟨p, List.mem_cons_of_mem _ hp, z⟩
  refine ⟨f.sub, fun q hq => ?_, by rw [keys]; exact f.nod, fun q hq => ?_⟩
  · obtain ⟨p, hp, e1, _⟩ := at_ q hq
    rw [← e1]; exact f.out p hp
  · obtain ⟨p, hp, e1, ho⟩ := at_ q hq
    rw [← e1]; exact ho.ro re (f.at_ p hp)
theorem Fz.refl : Fz K xs M xs M := fun F σ H rs fr => ⟨F, Same.refl F, rs, fr⟩
theorem Fz.trans {xs2 : AS} (h1 : Fz K xs M xs' M') (h2 : Fz K xs' M' xs2 M2) : Fz K xs M xs2 M2 := fun F σ H rs fr => by
  obtain ⟨F1, s1, r1, f1⟩ := h1 F σ H rs fr
  obtain ⟨F2, s2, r2, f2⟩ := h2 F1 σ H r1 f1
  exact ⟨F2, s1.trans s2, r2, f2⟩
/-- the object at a is written no more -/
theorem Fz.froze (h : Rem M a o M') (ho : o.fzb = true) (hx : SbS a o.toD xs xs') (hm : SbM a o.toD M' M2) : Fz K xs M xs' M2 := fun F σ H rs fr => by
  obtain ⟨F1, s1, f1, r1⟩ := fr.freeze h ho
  exact ⟨F1, s1, hx.rs r1 (rs.same s1), hm.fr r1 f1⟩
theorem Fz.lst (h : Rem M a (.lst ds) M') (hx : SbS a (.lst ds) xs xs') (hm : SbM a (.lst ds) M' M2) : Fz K xs M xs' M2 := Fz.froze h rfl hx hm
theorem Fz.ins {C : Addr} {fs : List (Str × D)} (h : Rem M a (.ins C fs) M') (hx : SbS a (.ins C fs) xs xs') (hm : SbM a (.ins C fs) M' M2) : Fz K xs M xs' M2 := Fz.froze h rfl hx hm
theorem Fz.drop (h : Rem M a o M') : Fz K xs M xs M' := fun F σ H rs fr => ⟨F, Same.refl F, rs, fr.drop h⟩
/-- less is said of the slots -/
theorem Fz.less (hl : xs'.length = xs.length) (h : ∀ (i : Nat) d, xs'[i]? = some (some d) → xs[i]? = some (some d)) : Fz K xs M xs' M := fun F σ H rs fr => ⟨F, Same.refl F, ⟨hl.trans rs.1, fun i d q => rs.2 i d (h i d q)⟩, fr⟩
theorem FzV.refl : FzV K d M d M := fun F σ H rs fr => ⟨F, Same.refl F, rs, fr⟩
theorem FzV.trans {d2 : D} (h1 : FzV K d M d' M') (h2 : FzV K d' M' d2 M2) : FzV K d M d2 M2 := fun F σ H rs fr => by
  obtain ⟨F1, s1, r1, f1⟩ := h1 F σ H rs fr
  obtain ⟨F2, s2, r2, f2⟩ := h2 F1 σ H r1 f1
  exact ⟨F2, s1.trans s2, r2, f2⟩
theorem FzV.froze (h : Rem M a o M') (ho : o.fzb = true) (hx : Sb a o.toD d d') (hm : SbM a o.toD M' M2) : FzV K d M d' M2 := fun F v H rv fr => by
  obtain ⟨F1, s1, f1, r1⟩ := fr.freeze h ho
  exact ⟨F1, s1, hx.rv r1 (rv.same s1), hm.fr r1 f1⟩
theorem FzV.lst (h : Rem M a (.lst ds) M') : FzV K (.r a) M (.lst ds) M' := FzV.froze h rfl .hit .rest
theorem FzV.ins {C : Addr} {fs : List (Str × D)} (h : Rem M a (.ins C fs) M') : FzV K (.r a) M (.ins C fs) M' := FzV.froze h rfl .hit .rest
theorem FzV.drop (h : Rem M a o M') : FzV K d M d M' := fun F σ H rs fr => ⟨F, Same.refl F, rs, fr.drop h⟩
end
/-! ### comprehensions -/
def awipe (xs : AS) : List Nat → AS
  | [] => xs
  | v :: vs => (awipe xs vs).set v none
theorem Rs.wipe {K : PySem.W.Frag} {F : Hp} {xs : AS} {σ : L2.St} (h : Rs K F xs σ) : ∀ vs, Rs K F (awipe xs vs) (L2.wipe σ vs)
  | [] => h
  | v :: vs => by
    have ih := Rs.wipe h vs
    unfold awipe L2.wipe
    refine ⟨by simp [ih.1], fun i d q => ?_⟩
    by_cases e : v = i
    · subst e
      have hv := (List.getElem?_eq_some_iff.mp q).1
      rw [List.length_set] at hv
      rw [List.getElem?_set_self hv] at q
      cases q
    · rw [List.getElem?_set_ne e] at q ⊢
      exact ih.2 i d q
@[reducible] def aYes : ATT := fun _ M R => R true M
theorem ats_nil {K : PySem.W.Frag} {W : WX} {A : AX} {X : Cx} : PTs X [] (conT K W A aYes) := ⟨fun pins s σ H Q I ⟨xs, M, F, B, rs, fr, lx, h, l⟩ => (pts_nil (X := X)).run pins s σ H Q I (l _ _ _ _ h (Same.refl F) fr)⟩
/-- the turns of a comprehension: a the place of its list, acc what it holds; I a word of the turn, of acc, of the memory -/
def lcIs (a : Addr) (g : ATG) (tt : ATT) (te : ATE) (ws : AS) (its : List D) (M : Mem) (Q : List D → Mem → Prop) : Prop := ∃ I : Nat → List D → Mem → Prop, I 0 [] M ∧
  (∀ i d acc M, its[i]? = some d → I i acc M → g d ws M fun xs1 M1 => tt xs1 M1 fun b M2 =>
    if b = true then te xs1 M2 fun e M3 => ∃ u, At M3 a (.lst acc) u ∧ acc.length < sizeLine ∧ I (i + 1) (acc ++ [e]) (u (.lst (acc ++ [e])))
    else ∃ u, At M2 a (.lst acc) u ∧ I (i + 1) acc M2) ∧ ∀ acc M, I its.length acc M → Q acc M
/-- how its list is handed on: as an object, as data -/
abbrev Fin := Addr → List D → Mem → AQ → Prop
@[reducible] def finO : Fin := fun a _ M Q => Q (.r a) M
@[reducible] def finD : Fin := fun a acc M Q => ∃ M3, Rem M a (.lst acc) M3 ∧ Q (.lst acc) M3
@[reducible] def aLc (fin : Fin) (wi : ATI) (g : ATG) (tt : ATT) (te : ATE) (vs : List Nat) : ATE := fun xs M Q => wi xs M fun its M1 => ∀ a, lcIs a g tt te (awipe xs vs) its ((a, .lst []) :: M1) fun acc M2 => fin a acc M2 Q
def FinOk (K : PySem.W.Frag) (fin : Fin) : Prop := ∀ a acc M B F H, fin a acc M B → Fr K M F H → ∃ d M' F', B d M' ∧ Same F F' ∧ Rv K F' (.ref a) d ∧ Fr K M' F' H
theorem finO_ok {K : PySem.W.Frag} : FinOk K finO := fun a acc M B F H h f => ⟨.r a, M, F, h, Same.refl F, .r a, f⟩
theorem finD_ok {K : PySem.W.Frag} : FinOk K finD := fun a acc M B F H ⟨M3, hr, h⟩ f => by
  obtain ⟨F2, s2, f2, r2⟩ := f.freeze hr rfl
  exact ⟨_, M3, F2, h, s2, r2, f2⟩
section
variable {K : PySem.W.Frag} {W : WX} {A : AX} {X : Cx} {fin : Fin} {wi : ATI} {g : ATG} {tt : ATT} {te : ATE} {vs : List Nat}
theorem lc_con (hf : FinOk K fin) (σ : L2.St) (H : Hp) (Q : VK) (h : conE K W A (aLc fin wi g tt te vs) σ H Q) : tLc (conI K W A wi) (conG K W A vs g) (conT K W A tt) (conE K W A te) vs σ H Q := by
  obtain ⟨xs, M, F, B, rs, fr, lx, h, l⟩ := h
  refine ⟨xs, M, F, _, rs, fr, lx, h, fun its M1 J H1 F1 h1 s1 f1 wk => ?_⟩
  have rs1 := rs.same s1
  have lx1 := lx.mono s1
  obtain ⟨G, Y, w, hG, hY⟩ := wk.ex
  show LcIs J H1 (conG K W A vs g) (conT K W A tt) (conE K W A te) vs σ Q
  intro D0 hD
  obtain ⟨I, I0, step, fins⟩ := h1 D0
  refine lc_it w (fun i H' => ∃ ds M' F', Same F1 F' ∧ Fr K M' F' H' ∧ I i ds M') ⟨[], _, F1, Same.refl F1, f1.own (o := .lst []) hD ⟨[], upd_same, .nil⟩, I0⟩ (fun i H' _ ⟨ds, M', F', s', f', _⟩ => hG M' F' H' s' f') ?_ ?_
  · rintro i x H2 H3 hi ⟨ds, M', F', s2, f2, go⟩ y
    have hit : its[i]? = some its[i] := List.getElem?_eq_getElem hi
    obtain ⟨F3, s3, f3, rx⟩ := hY i H2 x H3 F' M' _ y hit s2 f2
    have s13 := s2.trans s3
    refine ⟨its[i], awipe xs vs, M', F3, _, rx, (rs1.same s13).wipe vs, f3, lx1.mono s13, step i _ ds M' hit go, fun xs2 M2 σ2 H4 F4 h4 s4 rs4 f4 off => ⟨wipe_off off, ?_⟩⟩
    refine conT_step rs4 f4 (lx1.mono (s13.trans s4)) h4 fun b M5 H5 F5 h5 s5 f5 rs5 lx5 => ?_
    have s15 := (s13.trans s4).trans s5
    cases b with
    | true =>
      rw [if_pos rfl] at h5 ⊢
      refine con_step rs5 f5 lx5 h5 fun d M6 v6 H6 F6 ⟨u, ha, hz, h6⟩ s6 r6 f6 _ _ => ?_
      obtain ⟨ws, ew, rw6⟩ := f6.at_ _ ha.mem
      exact ⟨ws, ew, by rw [rw6.1]; exact hz, ds ++ [d], _, F6, s15.trans s6, f6.put (o' := .lst (ds ++ [d])) ha ⟨ws ++ [v6], upd_same, rw6.append (.cons r6 .nil)⟩, h6⟩
    | false =>
      rw [if_neg Bool.false_ne_true] at h5 ⊢
      obtain ⟨u, ha, h6⟩ := h5
      exact ⟨ds, M5, F5, s15, f5, h6⟩
  · rintro H' ⟨ds, M', F', s', f', go⟩
    obtain ⟨d, M3, F3, b, s3, r3, f3⟩ := hf _ _ _ _ _ _ (fins _ _ go) f'
    exact l _ _ _ _ _ b ((s1.trans s').trans s3) r3 f3
theorem a_lc {e : Expr} (hf : FinOk K fin) (h : PE X e (tLc (conI K W A wi) (conG K W A vs g) (conT K W A tt) (conE K W A te) vs)) : PE X e (conE K W A (aLc fin wi g tt te vs)) := h.to fun σ H Q q => lc_con hf σ H Q q
end
end AV

set_option Elab.async false
set_option linter.all false
set_option maxRecDepth 100000
set_option maxHeartbeats 4000000
/-! A5: statements, loops, calls of own defs and methods, new instances, errors, over abstract values (own work). -/
namespace AV
open PySem PySem.Spec PyProof.Rows L2 G TL
/-- a boundary between statements: what is known may be told anew -/
def Nx (K : PySem.W.Frag) (u : AS → Mem → Prop) (xs : AS) (M : Mem) : Prop := ∃ xs' M', Fz K xs M xs' M' ∧ u xs' M'
def NxV (K : PySem.W.Frag) (u : AQ) (d : D) (M : Mem) : Prop := ∃ d' M', FzV K d M d' M' ∧ u d' M'
section
variable {K : PySem.W.Frag} {F F' H : Hp} {W : WX} {A : AX} {X : Cx}
theorem Nx.of {u : AS → Mem → Prop} {xs : AS} {M : Mem} (h : u xs M) : Nx K u xs M := ⟨xs, M, Fz.refl, h⟩
theorem Nx.fz {u : AS → Mem → Prop} {xs xs' : AS} {M M' : Mem} (z : Fz K xs M xs' M') (h : u xs' M') : Nx K u xs M := ⟨xs', M', z, h⟩
theorem NxV.of {u : AQ} {d : D} {M : Mem} (h : u d M) : NxV K u d M := ⟨d, M, FzV.refl, h⟩
theorem NxV.fz {u : AQ} {d d' : D} {M M' : Mem} (z : FzV K d M d' M') (h : u d' M') : NxV K u d M := ⟨d', M', z, h⟩
theorem Nx.ln {u : AS → Mem → Prop} {Q : L2.St → Hp → Prop} (l : LnS K F u Q) : LnS K F (Nx K u) Q := fun xs M σ H F1 ⟨xs', M', z, h⟩ s rs fr => by
  obtain ⟨F2, s2, rs2, fr2⟩ := z F1 σ H rs fr
  exact l xs' M' σ H F2 h (s.trans s2) rs2 fr2
theorem NxV.ln {u : AQ} {Q : VK} (l : Ln K F u Q) : Ln K F (NxV K u) Q := fun d M v H F1 ⟨d', M', z, h⟩ s rv fr => by
  obtain ⟨F2, s2, rv2, fr2⟩ := z F1 v H rv fr
  exact l d' M' v H F2 h (s.trans s2) rv2 fr2
theorem _root_.L2.PS.to {e : Stmt} {t t' : TS} (h : PS X e t) (m : ∀ D σ H, t' D σ H → t D σ H) : PS X e t' := ⟨fun pins s σ H D I q => h.run pins s σ H D I (m _ _ _ q)⟩
theorem _root_.L2.PSs.to {e : List Stmt} {t t' : TS} (h : PSs X e t) (m : ∀ D σ H, t' D σ H → t D σ H) : PSs X e t' := ⟨fun pins s σ H D I q => h.run pins s σ H D I (m _ _ _ q)⟩
variable {st : Stmt} {rest body : List Stmt} {pos : Pos} {t u : ATS} {te ta tb : ATE} {g : ATG} {tt : ATT}
/-! ### blocks -/
@[reducible] def aNext : ATS := fun Q xs M => Q.nx xs M
@[reducible] def aSeq (K : PySem.W.Frag) (t u : ATS) : ATS := fun Q xs M => t { Q with nx := Nx K fun xs' M' => u Q xs' M' } xs M
def aCut (K : PySem.W.Frag) (t u : ATS) : ATS := fun Q xs M => ∃ I : AS → Mem → Prop, t { Q with nx := Nx K I } xs M ∧ ∀ xs' M', I xs' M' → u Q xs' M'
theorem seq_con {B : AEnds} {Q : Ends} {u : ATS} {I : AS → Mem → Prop} (lx : LnX K F A W) (l : LnE K F B Q) (hI : ∀ xs M, I xs M → u B xs M) : LnE K F { B with nx := Nx K I } { Q with nx := fun σ H => conS K W A u Q σ H } :=
  ⟨Nx.ln fun xs M σ H F1 h s rs fr => ⟨xs, M, F1, B, rs, fr, lx.mono s, hI _ _ h, l.mono s⟩, l.rt, l.bk, l.ct⟩
theorem as_nil : PSs X [] (conS K W A aNext) := pss_nil.to fun Q σ H ⟨xs, M, F, B, rs, fr, lx, h, l⟩ => l.nx _ _ _ _ _ h (Same.refl F) rs fr
theorem as_one (h : PS X st (conS K W A t)) : PSs X [st] (conS K W A t) := pss_one h
theorem as_cons (h1 : PS X st (conS K W A t)) (h2 : PSs X rest (conS K W A u)) : PSs X (st :: rest) (conS K W A (aSeq K t u)) := (pss_cons h1 h2).to fun Q σ H ⟨xs, M, F, B, rs, fr, lx, h, l⟩ =>
  ⟨xs, M, F, _, rs, fr, lx, h, seq_con lx l fun _ _ h => h⟩
theorem as_cut (h1 : PS X st (conS K W A t)) (h2 : PSs X rest (conS K W A u)) : PSs X (st :: rest) (conS K W A (aCut K t u)) := (pss_cons h1 h2).to fun Q σ H ⟨xs, M, F, B, rs, fr, lx, ⟨I, h, hI⟩, l⟩ =>
  ⟨xs, M, F, _, rs, fr, lx, h, seq_con lx l hI⟩
/-! ### simple statements -/
@[reducible] def aAsg (te : ATE) (g : ATG) : ATS := fun Q xs M => te xs M fun d M1 => g d xs M1 Q.nx
@[reducible] def aDrop (te : ATE) : ATS := fun Q xs M => te xs M fun _ M1 => Q.nx xs M1
@[reducible] def aRet (K : PySem.W.Frag) (te : ATE) : ATS := fun Q xs M => te xs M (NxV K Q.rt)
@[reducible] def aRetN : ATS := fun Q _ M => Q.rt .non M
@[reducible] def aBrk : ATS := fun Q xs M => Q.bk xs M
@[reducible] def aCnt : ATS := fun Q xs M => Q.ct xs M
theorem as_asg {vs : List Nat} (h : PS X st (tAsg (conE K W A te) (conG K W A vs g))) : PS X st (conS K W A (aAsg te g)) := h.to fun Q σ H ⟨xs, M, F, B, rs, fr, lx, h, l⟩ =>
  con_step rs fr lx h fun d M1 v H1 F1 h1 s1 r1 f1 rs1 lx1 => ⟨d, xs, M1, F1, _, r1, rs1, f1, lx1, h1, fun xs' M' σ' H' F' b s rs' fr' _ => l.nx _ _ _ _ _ b (s1.trans s) rs' fr'⟩
theorem as_set {i : Nat} (h : PS X st (tAsg (conE K W A te) (gName i))) : PS X st (conS K W A (aAsg te (agName i))) := h.to fun Q σ H ⟨xs, M, F, B, rs, fr, lx, h, l⟩ =>
  con_step rs fr lx h fun d M1 v H1 F1 h1 s1 r1 f1 rs1 lx1 => l.nx _ _ _ _ _ h1 s1 (rs1.set r1) f1
theorem as_setLc {fin : Fin} {wi : ATI} {vs : List Nat} {i : Nat} (hf : FinOk K fin) (h : PS X st (tAsg (tLc (conI K W A wi) (conG K W A vs g) (conT K W A tt) (conE K W A te) vs) (gName i))) : PS X st (conS K W A (aAsg (aLc fin wi g tt te vs) (agName i))) := h.to fun Q σ H ⟨xs, M, F, B, rs, fr, lx, h, l⟩ =>
  lc_con (A := A) hf σ H _ ⟨xs, M, F, _, rs, fr, lx, h, fun d M1 v H1 F1 h1 s1 r1 f1 => l.nx _ _ _ _ _ h1 s1 ((rs.same s1).set r1) f1⟩
theorem as_drop (h : PS X st (tDrop (conE K W A te))) : PS X st (conS K W A (aDrop te)) := h.to fun Q σ H ⟨xs, M, F, B, rs, fr, lx, h, l⟩ =>
  con_step rs fr lx h fun d M1 v H1 F1 h1 s1 r1 f1 rs1 lx1 => l.nx _ _ _ _ _ h1 s1 rs1 f1
theorem as_ret (h : PS X st (tRet (conE K W A te))) : PS X st (conS K W A (aRet K te)) := h.to fun Q σ H ⟨xs, M, F, B, rs, fr, lx, h, l⟩ =>
  ⟨xs, M, F, _, rs, fr, lx, h, NxV.ln l.rt⟩
theorem as_retN (h : PS X st tRetN) : PS X st (conS K W A aRetN) := h.to fun Q σ H ⟨xs, M, F, B, rs, fr, lx, h, l⟩ => l.rt _ _ _ _ _ h (Same.refl F) .non fr
theorem as_brk (h : PS X st tBreak) : PS X st (conS K W A aBrk) := h.to fun Q σ H ⟨xs, M, F, B, rs, fr, lx, h, l⟩ => l.bk _ _ _ _ _ h (Same.refl F) rs fr
theorem as_cnt (h : PS X st tCont) : PS X st (conS K W A aCnt) := h.to fun Q σ H ⟨xs, M, F, B, rs, fr, lx, h, l⟩ => l.ct _ _ _ _ _ h (Same.refl F) rs fr
theorem as_next (h : PS X st tNext) : PS X st (conS K W A aNext) := h.to fun Q σ H ⟨xs, M, F, B, rs, fr, lx, h, l⟩ => l.nx _ _ _ _ _ h (Same.refl F) rs fr
@[reducible] def aIfS (c : ATT) (t u : ATS) : ATS := fun Q xs M => c xs M fun b M1 => if b = true then t Q xs M1 else u Q xs M1
theorem as_if {c : Expr} {a b : List Stmt} (hc : PT X c (conT K W A tt)) (ha : PSs X a (conS K W A t)) (hb : PSs X b (conS K W A u)) : PS X (.If c a b pos) (conS K W A (aIfS tt t u)) := (ps_if hc ha hb).to fun Q σ H ⟨xs, M, F, B, rs, fr, lx, h, l⟩ =>
  conT_step rs fr lx h fun k M1 H1 F1 h1 s1 f1 rs1 lx1 => by
    cases k with
    | true => rw [if_pos rfl] at h1 ⊢; exact ⟨xs, M1, F1, B, rs1, f1, lx1, h1, l.mono s1⟩
    | false => rw [if_neg Bool.false_ne_true] at h1 ⊢; exact ⟨xs, M1, F1, B, rs1, f1, lx1, h1, l.mono s1⟩
/-- fs' is fs with d at f -/
inductive PutR (f : Str) (d : D) : List (Str × D) → List (Str × D) → Prop
  | nil : PutR f d [] [(f, d)]
  | hd {e : D} {r : List (Str × D)} : PutR f d ((f, e) :: r) ((f, d) :: r)
  | tl {g : Str} {e : D} {r r' : List (Str × D)} : (g == f) = false → PutR f d r r' → PutR f d ((g, e) :: r) ((g, e) :: r')
theorem PutR.eq {f : Str} {d : D} {fs fs' : List (Str × D)} (h : PutR f d fs fs') : put f d fs = fs' := by
  induction h with
  | nil => rfl
  | hd => unfold put; rw [if_pos rfl]
  | tl ne _ ih => unfold put; rw [if_neg (by simpa using ne), ih]
/-- o.f = e -/
@[reducible] def aFldS (K : PySem.W.Frag) (ta tv : ATE) (f : Str) : ATS := fun Q xs M => tv xs M fun y M1 => ta xs M1 fun x M2 => ∃ a C fs fs' u, x = .r a ∧ At M2 a (.ins C fs) u ∧ Cls K C ∧ NoAttr K C f ∧ fs.length < 1000 ∧ PutR f y fs fs' ∧ Q.nx xs (u (.ins C fs'))
theorem fr_fld {M : Mem} {a C dx : Addr} {fs : List (Str × D)} {vfs : List (Str × V)} {u : Ob → Mem} {f : Str} {y : D} {v : V} (fr : Fr K M F H) (ha : At M a (.ins C fs) u) (e : H a = some (.ins C dx vfs)) (r : RvF K F vfs fs) (ry : Rv K F v y) :
    Fr K (u (.ins C (put f y fs))) F (upd H a (.ins C dx (putF f v vfs))) := fr.put (o' := .ins C (put f y fs)) ha ⟨dx, _, upd_same, r.put ry⟩
theorem as_fld {f : Str} (h : PS X st (sFld X.K (conE K W A ta) (conE K W A tb) f)) (hK : X.K = K := by rfl) : PS X st (conS K W A (aFldS K ta tb f)) := by
  subst hK
  exact h.to fun Q σ H ⟨xs, M, F, B, rs, fr, lx, h, l⟩ => con_step rs fr lx h fun y M1 v H1 F1 h1 s1 r1 f1 rs1 lx1 => con_step rs1 f1 lx1 h1 fun x M2 w H2 F2 ⟨a, C, fs, fs', u, e, ha, cl, na, hl, pe, h2⟩ s2 r2 f2 rs2 lx2 => by
    subst e
    cases r2
    obtain ⟨dx, vfs, e1, rf⟩ := f2.at_ _ ha.mem
    rw [← pe.eq] at h2
    exact ⟨a, C, dx, vfs, rfl, e1, cl, na, by rw [rf.1]; exact hl, l.nx _ _ _ _ _ h2 (s1.trans s2) rs2 (fr_fld f2 ha e1 rf (r1.same s2))⟩
/-- o.f += e, ints -/
@[reducible] def aFldA (K : PySem.W.Frag) (ta tv : ATE) (k : Int → Int → Int) (f : Str) : ATS := fun Q xs M => ta xs M fun x M1 => ∃ a C fs i, x = .r a ∧ InsAt M1 (.r a) C fs ∧ Cls K C ∧ NoAttr K C f ∧ fs.lookup f = some (.int i) ∧
  tv xs M1 fun y M2 => ∃ j fs' fs2 u, y = .int j ∧ At M2 a (.ins C fs') u ∧ fs'.length < 1000 ∧ PutR f (.int (k i j)) fs' fs2 ∧ Q.nx xs (u (.ins C fs2))
theorem as_fldA {f : Str} {k : Int → Int → Int} {rd : V → V → Hp → VK → Prop} (hr : ∀ x y H Q, (∃ i j, x = .int i ∧ y = .int j ∧ Q (.int (k i j)) H) → rd x y H Q) (h : PS X st (sFldAug X.K (conE K W A ta) (conE K W A tb) rd f)) (hK : X.K = K := by rfl) : PS X st (conS K W A (aFldA K ta tb k f)) := by
  subst hK
  exact h.to fun Q σ H ⟨xs, M, F, B, rs, fr, lx, h, l⟩ => con_step rs fr lx h fun x M1 v H1 F1 ⟨a, C, fs, i, e, hi, cl, na, hl, h1⟩ s1 r1 f1 rs1 lx1 => by
    subst e
    obtain ⟨a', dx, vfs, e0, e1, rf⟩ := hi.at_ r1 f1
    subst e0
    cases r1
    obtain ⟨v, ev, rv⟩ := rf.lookup hl
    cases rv
    refine ⟨a, C, dx, vfs, _, rfl, e1, cl, na, ev, con_step rs1 f1 lx1 h1 fun y M2 w H2 F2 ⟨j, fs', fs2, u, e, ha, hz, pe, h2⟩ s2 r2 f2 rs2 lx2 => ?_⟩
    subst e
    rw [← pe.eq] at h2
    cases r2
    obtain ⟨dx', vfs', e2, rf'⟩ := f2.at_ _ ha.mem
    exact hr _ _ _ _ ⟨i, j, rfl, rfl, dx', vfs', e2, by rw [rf'.1]; exact hz, l.nx _ _ _ _ _ h2 (s1.trans s2) rs2 (fr_fld f2 ha e2 rf' (.int _))⟩
/-- x += e, ints -/
@[reducible] def aAug (i : Nat) (te : ATE) (k : Int → Int → Int) : ATS := fun Q xs M => ∃ n, xs[i]? = some (some (.int n)) ∧ te xs M fun y M1 => ∃ j, y = .int j ∧ Q.nx (xs.set i (some (.int (k n j)))) M1
theorem as_aug {i : Nat} {k : Int → Int → Int} (h : PS X st (tAug i (conE K W A te) (ipI k))) : PS X st (conS K W A (aAug i te k)) := h.to fun Q σ H ⟨xs, M, F, B, rs, fr, lx, ⟨n, hn, h⟩, l⟩ => by
  obtain ⟨v, ev, rv⟩ := rs.get hn
  cases rv
  exact ⟨_, ev, con_step rs fr lx h fun y M1 w H1 F1 ⟨j, e, h1⟩ s1 r1 f1 rs1 lx1 => by
    subst e
    cases r1
    exact ⟨n, j, rfl, rfl, l.nx _ _ _ _ _ h1 s1 (rs1.set (.int _)) f1⟩⟩
/-! ### loops -/
/-- the turns of a for; I a word of the turn, the slots, the memory -/
def forIs (K : PySem.W.Frag) (g : ATG) (tb : ATS) (Q : AEnds) (its : List D) (xs : AS) (M : Mem) : Prop := ∃ I : Nat → AS → Mem → Prop, I 0 xs M ∧
  (∀ i d xs M, its[i]? = some d → I i xs M → g d xs M fun xs1 M1 => tb { Q with nx := Nx K (I (i + 1)), ct := Nx K (I (i + 1)), bk := Q.nx } xs1 M1) ∧ ∀ xs M, I its.length xs M → Q.nx xs M
@[reducible] def aFor (K : PySem.W.Frag) (wi : ATI) (g : ATG) (tb : ATS) : ATS := fun Q xs M => wi xs M fun its M1 => forIs K g tb Q its xs M1
theorem as_for {wi : ATI} {vs : List Nat} (h : PS X st (tFor (conI K W A wi) (conG K W A vs g) (conS K W A t))) : PS X st (conS K W A (aFor K wi g t)) := h.to fun Q σ H ⟨xs, M, F, B, rs, fr, lx, h, l⟩ => by
  refine ⟨xs, M, F, _, rs, fr, lx, h, fun its M1 J H1 F1 ⟨I, I0, step, fins⟩ s1 f1 wk => ?_⟩
  obtain ⟨G, Y, w, hG, hY⟩ := wk.ex
  refine for_it w (fun i σ' H' => ∃ xs' M' F', Same F1 F' ∧ Rs K F' xs' σ' ∧ Fr K M' F' H' ∧ I i xs' M') ⟨xs, M1, F1, Same.refl F1, rs.same s1, f1, I0⟩ (fun i σ' H' _ ⟨xs', M', F', s', _, f', _⟩ => hG M' F' H' s' f') ?_ ?_
  · rintro i x σ' H2 H3 hi ⟨xs', M', F', s2, rs2, f2, go⟩ y
    have hit : its[i]? = some its[i] := List.getElem?_eq_getElem hi
    obtain ⟨F3, s3, f3, rx⟩ := hY i H2 x H3 F' M' _ y hit s2 f2
    have s13 := s2.trans s3
    refine ⟨its[i], xs', M', F3, _, rx, rs2.same s3, f3, lx.mono (s1.trans s13), step i _ xs' M' hit go, fun xs3 M3 σ3 H4 F4 h4 s4 rs4 f4 _ => ?_⟩
    have next : LnS K F4 (I (i + 1)) (fun σ' H' => ∃ xs' M' F', Same F1 F' ∧ Rs K F' xs' σ' ∧ Fr K M' F' H' ∧ I (i + 1) xs' M') :=
      fun xs5 M5 σ5 H5 F5 h5 s5 rs5 f5 => ⟨xs5, M5, F5, (s13.trans s4).trans s5, rs5, f5, h5⟩
    have lm := l.mono ((s1.trans s13).trans s4)
    exact ⟨xs3, M3, F4, _, rs4, f4, lx.mono ((s1.trans s13).trans s4), h4, Nx.ln next, lm.rt, lm.nx, Nx.ln next⟩
  · rintro σ' H' ⟨xs', M', F', s', rs', f', go⟩
    exact l.nx _ _ _ _ _ (fins _ _ go) (s1.trans s') rs' f'
def aWhile (K : PySem.W.Frag) (c : ATT) (tb : ATS) : ATS := fun Q xs M => ∃ I : Nat → AS → Mem → Prop, (∃ m, I m xs M) ∧ ∀ m xs M, I m xs M →
  c xs M fun b M1 => if b = true then tb { Q with nx := Nx K fun xs' M' => ∃ m', m' < m ∧ I m' xs' M', ct := Nx K fun xs' M' => ∃ m', m' < m ∧ I m' xs' M', bk := Q.nx } xs M1 else Q.nx xs M1
theorem as_while (h : PS X st (tWhile (conT K W A tt) (conS K W A t))) : PS X st (conS K W A (aWhile K tt t)) := h.to fun Q σ H ⟨xs, M, F, B, rs, fr, lx, ⟨I, ⟨m0, w0⟩, h⟩, l⟩ => by
  refine ⟨fun m σ' H' => ∃ xs' M' F', Same F F' ∧ Rs K F' xs' σ' ∧ Fr K M' F' H' ∧ I m xs' M', ⟨m0, xs, M, F, Same.refl F, rs, fr, w0⟩, ?_⟩
  rintro m σ' H' ⟨xs', M', F', s', rs', f', w⟩
  refine conT_step rs' f' (lx.mono s') (h m xs' M' w) fun b M1 H1 F1 h1 s1 f1 rs1 lx1 => ?_
  cases b with
  | true =>
    rw [if_pos rfl] at h1 ⊢
    have next : LnS K F1 (fun xs' M' => ∃ m', m' < m ∧ I m' xs' M') (fun σ' H' => ∃ m', m' < m ∧ ∃ xs' M' F', Same F F' ∧ Rs K F' xs' σ' ∧ Fr K M' F' H' ∧ I m' xs' M') :=
      fun xs5 M5 σ5 H5 F5 ⟨m', hm, h5⟩ s5 rs5 f5 => ⟨m', hm, xs5, M5, F5, (s'.trans s1).trans s5, rs5, f5, h5⟩
    have lm := l.mono (s'.trans s1)
    exact ⟨_, fun σ' H' q => q, xs', M1, F1, _, rs1, f1, lx1, h1, Nx.ln next, lm.rt, lm.nx, Nx.ln next⟩
  | false =>
    rw [if_neg Bool.false_ne_true] at h1 ⊢
    exact l.nx _ _ _ _ _ h1 (s'.trans s1) rs1 f1
/-! ### own defs -/
abbrev AXc := Addr → List (Str × D) → Mem → Prop
abbrev ASp := List D → Mem → AQ → AXc → Prop
def LnC (K : PySem.W.Frag) (F : Hp) (B : AXc) (E : XK) : Prop := ∀ C fs M H F' dd, B C fs M → Same F F' → Fr K ((dd, .xd fs) :: M) F' H → E (.ref C) (some dd) H
def conSp (K : PySem.W.Frag) (asp : ASp) : Sp := fun vs H Q E => ∃ ds M F B BX, RvL K F vs ds ∧ Fr K M F H ∧ asp ds M B BX ∧ Ln K F B Q ∧ LnC K F BX E
abbrev noX : AXc := fun _ _ _ => False
abbrev noW : WX := fun _ _ _ _ => False
abbrev noA : AX := fun _ _ _ _ => False
theorem LnC.none {E : XK} : LnC K F noX E := fun _ _ _ _ _ _ h => h.elim
variable {e : Expr} {ar : ATA} {asp : ASp}
@[reducible] def aCall (asp : ASp) (t : ATA) : ATE := fun xs M Q => t xs M fun ds M1 => asp ds M1 Q noX
@[reducible] def aCallX (A : AX) (asp : ASp) (t : ATA) : ATE := fun xs M Q => t xs M fun ds M1 => asp ds M1 Q fun C fs M' => A C fs xs M'
theorem a_call {E : XK} (h : PE X e (tCall (conSp K asp) [] E (conA K W A ar))) : PE X e (conE K W A (aCall asp ar)) := h.to fun σ H Q ⟨xs, M, F, B, rs, fr, lx, h, l⟩ =>
  conA_step rs fr lx h fun ds M1 vs H1 F1 h1 s1 r1 f1 _ _ => ⟨ds, M1, F1, B, noX, by rw [List.append_nil]; exact r1, f1, h1, l.mono s1, .none⟩
theorem a_callX (h : PE X e (tCallS (conSp K asp) (WE W) (conA K W A ar))) : PE X e (conE K W A (aCallX A asp ar)) := h.to fun σ H Q ⟨xs, M, F, B, rs, fr, lx, h, l⟩ =>
  conA_step rs fr lx h fun ds M1 vs H1 F1 h1 s1 r1 f1 rs1 lx1 => ⟨ds, M1, F1, B, _, r1, f1, h1, l.mono s1, fun C fs M2 H2 F2 dd a s f2 => lx1 C fs xs M2 σ H2 F2 dd a s (rs1.same s) f2⟩
/-- a call in an except suite -/
theorem a_callH {E : L2.St → XK} (h : PE X e (tCallS (conSp K asp) E (conA K W A ar))) : PE X e (conE K W A (aCall asp ar)) := h.to fun σ H Q ⟨xs, M, F, B, rs, fr, lx, h, l⟩ =>
  conA_step rs fr lx h fun ds M1 vs H1 F1 h1 s1 r1 f1 _ _ => ⟨ds, M1, F1, B, noX, r1, f1, h1, l.mono s1, .none⟩
@[reducible] def aMeth (C : Addr) (m : Str) (asp : ASp) (tob : ATE) (t : ATA) : ATE := fun xs M Q => tob xs M fun x M1 => ∃ fs, InsAt M1 x C fs ∧ fs.lookup m = none ∧ t xs M1 fun ds M2 => asp (x :: ds) M2 Q noX
theorem a_meth {E : XK} {C : Addr} {m : Str} (h : PE X e (tMeth C m (conSp K asp) [] E (conE K W A ta) (conA K W A ar))) : PE X e (conE K W A (aMeth C m asp ta ar)) := h.to fun σ H Q ⟨xs, M, F, B, rs, fr, lx, h, l⟩ =>
  con_step rs fr lx h fun x M1 v H1 F1 ⟨fs, hi, hm, h1⟩ s1 r1 f1 rs1 lx1 => by
    obtain ⟨a, dx, vfs, rfl, e1, rf⟩ := hi.at_ r1 f1
    exact ⟨a, dx, vfs, rfl, e1, rf.lookup_none hm, conA_step rs1 f1 lx1 h1 fun ds M2 vs H2 F2 h2 s2 r2 f2 _ _ => ⟨x :: ds, M2, F2, B, noX, by rw [List.append_nil]; exact .cons (r1.same s2) r2, f2, h2, l.mono (s1.trans s2), .none⟩⟩
theorem a_meth0 {E : XK} {C : Addr} {m : Str} (h : PE X e (tMeth C m (conSp K asp) [] E (conE K W A ta) tNil)) : PE X e (conE K W A (aMeth C m asp ta aNil)) := h.to fun σ H Q ⟨xs, M, F, B, rs, fr, lx, h, l⟩ =>
  con_step rs fr lx h fun x M1 v H1 F1 ⟨fs, hi, hm, h1⟩ s1 r1 f1 rs1 lx1 => by
    obtain ⟨a, dx, vfs, rfl, e1, rf⟩ := hi.at_ r1 f1
    exact ⟨a, dx, vfs, rfl, e1, rf.lookup_none hm, [x], M1, F1, B, noX, .cons r1 .nil, f1, h1, l.mono s1, .none⟩
/-! ### new instances -/
abbrev FinI := Addr → Addr → Mem → AQ → Prop
@[reducible] def finIO : FinI := fun x _ M Q => Q (.r x) M
@[reducible] def finID : FinI := fun x C M Q => ∃ fs M3, Rem M x (.ins C fs) M3 ∧ Q (.ins C fs) M3
def FinIOk (K : PySem.W.Frag) (fin : FinI) : Prop := ∀ a C M B F H, fin a C M B → Fr K M F H → ∃ d M' F', B d M' ∧ Same F F' ∧ Rv K F' (.ref a) d ∧ Fr K M' F' H
theorem finIO_ok : FinIOk K finIO := fun a acc M B F H h f => ⟨.r a, M, F, h, Same.refl F, .r a, f⟩
theorem finID_ok : FinIOk K finID := fun a C M B F H ⟨fs, M3, hr, h⟩ f => by
  obtain ⟨F2, s2, f2, r2⟩ := f.freeze hr rfl
  exact ⟨_, M3, F2, h, s2, r2, f2⟩
@[reducible] def aMk (A : AX) (fin : FinI) (C : Addr) (asp : ASp) (t : ATA) : ATE := fun xs M Q => t xs M fun ds M1 => ∀ x, asp (.r x :: ds) ((x, .ins C []) :: M1) (fun d M2 => d = .non ∧ fin x C M2 Q) fun C fs M' => A C fs xs M'
/-- something else new on the heap -/
theorem Fr.beside {M : Mem} {b : Addr} {ho : HO} (f : Fr K M F H) (n : H b = none) : Fr K M F (upd H b ho) :=
  ⟨fun c o e => by rw [upd_ne (ne_of_none (f.sub _ _ e) n)]; exact f.sub _ _ e, f.out, f.nod, fun p hp => (f.at_ p hp).mv (Same.refl F) (upd_ne ((f.free n).2 p hp))⟩
theorem Fr.grow {M : Mem} {H' : Hp} (f : Fr K M F H) (s : Same H H') : Fr K M F H' :=
  ⟨f.sub.trans s, f.out, f.nod, fun p hp => by
    have r := f.at_ p hp
    cases e : H p.1 with
    | none => exact (r.none e).elim
    | some o => exact r.mv (Same.refl F) ((s _ _ e).trans e.symm)⟩
theorem a_mk {fin : FinI} {C : Addr} (hf : FinIOk K fin) (h : PE X e (tMkX C (conSp K asp) (WE W) (conA K W A ar))) : PE X e (conE K W A (aMk A fin C asp ar)) := h.to fun σ H Q ⟨xs, M, F, B, rs, fr, lx, h, l⟩ =>
  conA_step rs fr lx h fun ds M1 vs H1 F1 h1 s1 r1 f1 rs1 lx1 => fun x dx hx hd hne => by
    have f2 := f1.beside (ho := .own x) hd
    have hx2 : upd H1 dx (.own x) x = none := by rw [upd_ne hne.symm]; exact hx
    have f3 := f2.own (o := .ins C []) (ho := .ins C dx []) hx2 ⟨dx, [], upd_same, rfl, fun i p q e => by simp at e⟩
    refine ⟨.r x :: ds, _, F1, _, _, .cons (.r x) r1, f3, h1 x, fun d M2 v H2 F2 ⟨e, b⟩ s2 rv f2 => ?_, fun C fs M2 H2 F2 dd a s f2 => lx1 C fs xs M2 σ H2 F2 dd a s (rs1.same s) f2⟩
    subst e
    cases rv
    obtain ⟨d, M3, F3, b3, s3, r3, f3⟩ := hf _ _ _ _ _ _ b f2
    exact ⟨rfl, l _ _ _ _ _ b3 ((s1.trans s2).trans s3) r3 f3⟩
/-! ### errors -/
def D.fmt : D → Prop
  | .int i => i.natAbs.log2 < 1920
  | .str z => z.length ≤ 1000
  | _ => False
@[reducible] def aRaise (A : AX) (C : Addr) (f : Str) (t : ATA) : ATS := fun _ xs M => t xs M fun ds M1 => ∃ d, ds = [d] ∧ d.fmt ∧ A C [(f, d)] xs M1
theorem as_raise {C : Addr} {f : Str} (h : PS X st (tRs (tMkO C (spExI C f) [] (conA K W A ar)) W)) : PS X st (conS K W A (aRaise A C f ar)) := h.to fun Q σ H ⟨xs, M, F, B, rs, fr, lx, h, l⟩ => by
  refine r_rs (conA_step rs fr lx h fun ds M1 vs H1 F1 ⟨d, e, hf, a⟩ s1 r1 f1 rs1 lx1 => ?_)
  subst e
  obtain ⟨v, vr, rfl, rv, rr⟩ := r1.inv
  obtain rfl := rr.inv_nil
  have fm : FmtV v := by
    cases d <;> first | exact hf.elim | (cases rv; exact hf)
  refine mk_is fm fun dd H2 s2 hd e2 => ?_
  have f2 := f1.grow s2
  obtain ⟨n1, n2⟩ := f1.free hd
  refine lx1 C _ xs M1 σ H2 F1 dd a (Same.refl F1) rs1 ⟨f2.sub, fun p hp => ?_, ?_, fun p hp => ?_⟩
  · rcases List.mem_cons.mp hp with rfl | hp
    · exact n1
    · exact f2.out p hp
  · rw [List.map_cons, List.nodup_cons]
    exact ⟨fun z => by
      obtain ⟨q, hq, eq⟩ := List.mem_map.mp z
      exact n2 q hq eq, f2.nod⟩
  · rcases List.mem_cons.mp hp with rfl | hp
    · exact ⟨[(f, v)], e2, rfl, fun i p q a b => by
        cases i with
        | zero => cases a; cases b; exact ⟨rfl, rv⟩
        | succ i => simp at a⟩
    · exact f2.at_ p hp
/-- try: .. except c as x: ..; ts the suite by the error's place, class, dict -/
@[reducible] def aTry (K : PySem.W.Frag) (A : AX) (c : Value) (i : Nat) (tb : AX → ATS) (ts : Addr → Addr → Addr → ATS) : ATS := fun Q xs M =>
  tb (fun C fs xs' M' => ∃ b, PySem.W.exmOne K (.ref C) c = some b ∧ (b = true → ∀ a dd, ts a C dd { nx := fun xs M => Q.nx (xs.set i none) M, rt := Q.rt, bk := fun xs M => Q.bk (xs.set i none) M, ct := fun xs M => Q.ct (xs.set i none) M } (xs'.set i (some (.r a))) ((dd, .xd fs) :: M')) ∧
    (b = false → A C fs xs' M')) Q xs M
theorem Rs.clr {xs : AS} {σ : L2.St} {i : Nat} (h : Rs K F xs σ) : Rs K F (xs.set i none) (σ.set i none) := ⟨by simp [h.1], fun j d q => by
  by_cases e : i = j
  · subst e
    have hv := (List.getElem?_eq_some_iff.mp q).1
    rw [List.length_set] at hv
    rw [List.getElem?_set_self hv] at q
    cases q
  · rw [List.getElem?_set_ne e] at q ⊢
    exact h.2 j d q⟩
theorem as_try {c : Value} {i : Nat} {tb : AX → ATS} {ts : Addr → Addr → Addr → ATS} (h : PS X st (tTry K c i (fun W' => fun Q σ H => ∃ A', conS K W' A' (tb A') Q σ H) (fun a cls d => fun Q σ H => ∃ C dd, cls = .ref C ∧ d = some dd ∧ conS K noW noA (ts a C dd) Q σ H) W)) :
    PS X st (conS K W A (aTry K A c i tb ts)) := h.to fun Q σ H ⟨xs, M, F, B, rs, fr, lx, h, l⟩ => by
  refine r_try ⟨_, xs, M, F, B, rs, fr, fun C fs xs' M' σ' H' F' dd ⟨b, e1, h1, h2⟩ s rs' f' => ⟨b, e1, fun eb a ha => ?_, fun eb => lx C fs xs' M' σ' H' F' dd (h2 eb) s rs' f'⟩, h, l⟩
  refine ⟨C, dd, rfl, rfl, _, _, F', _, rs'.set (.r a), f', .none, h1 eb a dd, ?_, (l.mono s).rt, ?_, ?_⟩
  · exact fun xs2 M2 σ2 H2 F2 b2 s2 rs2 f2 => l.nx _ _ _ _ _ b2 (s.trans s2) rs2.clr f2
  · exact fun xs2 M2 σ2 H2 F2 b2 s2 rs2 f2 => l.bk _ _ _ _ _ b2 (s.trans s2) rs2.clr f2
  · exact fun xs2 M2 σ2 H2 F2 b2 s2 rs2 f2 => l.ct _ _ _ _ _ b2 (s.trans s2) rs2.clr f2
theorem as_tryG {y nm : Str} {c : Value} {i : Nat} {suite : List Stmt} {b₀ : Stmt} {np pos' : Pos} {tb : AX → ATS} {ts : Addr → Addr → Addr → ATS} (hs : X.stack = X.env :: X.outer) (hf : X.env.frame = some X.env.locals) (hN : X.N.Nodup) (hi : X.N[i]? = some nm) (hln : X.env.kindOf nm = some .local) (hc : Names X y c) (tk : L2N.Takes X W)
    (hb : ∀ (W' : WX) (A' : AX) (pn : List (Addr × Obj)) (xe : Value → Shared → Prop), L2N.Takes (X.tr pn xe) W' → PassesOwn (model X.prog X.w) X.A X.env xe → PSs (X.tr pn xe) body (conS K W' A' (tb A')))
    (hsu : ∀ (a : Addr) (oe : Obj) (C dd : Addr) (pn : List (Addr × Obj)), L2N.Zn (.ref C) (some dd) oe → (∃ vs, oe.data = .fields vs) → PSs (X.suite a ((a, oe) :: pn)) (b₀ :: suite) (conS K noW noA (ts a C dd))) (hK : X.K = K := by rfl) :
    PS X (.Try body [.ExceptHandler (some (.Name y np)) (some nm) (b₀ :: suite) pos'] [] [] pos) (conS K W A (aTry K A c i tb ts)) :=
  as_try (g_try (tb := fun W' => fun Q σ H => ∃ A', conS K W' A' (tb A') Q σ H) (ts := fun a cls d => fun Q σ H => ∃ C dd, cls = .ref C ∧ d = some dd ∧ conS K noW noA (ts a C dd) Q σ H) hs hf hN hi hln hc tk
    (fun W' pn xe tk' po => ⟨fun pins s σ H Q I ⟨A', h⟩ => (hb W' A' pn xe tk' po).run pins s σ H Q I h⟩)
    (fun a oe cls d pn hz hv => ⟨fun pins s σ H Q I ⟨C, dd, e1, e2, h⟩ => by subst e1 e2; exact (hsu a oe C dd pn hz hv).run pins s σ H Q I h⟩) hK)
/-- e.f of the error that the suite holds -/
@[reducible] def aXf (K : PySem.W.Frag) (a C dd : Addr) (f : Str) (te : ATE) : ATE := fun xs M Q => te xs M fun x M1 => ∃ fs u d, x = .r a ∧ ExK K C ∧ PySem.W.findIn K (.ref C) f = some none ∧ At M1 dd (.xd fs) u ∧ fs.lookup f = some d ∧ Q d M1
theorem a_xf {a C dd : Addr} {f : Str} (h : PE X e (tXfE K a (.ref C) (some dd) f (conE K W A te))) : PE X e (conE K W A (aXf K a C dd f te)) := h.to fun σ H Q ⟨xs, M, F, B, rs, fr, lx, h, l⟩ =>
  con_step rs fr lx h fun x M1 v H1 F1 ⟨fs, u, d, ex, ek, ef, ha, hl, h1⟩ s1 r1 f1 rs1 lx1 => by
    subst ex
    cases r1
    obtain ⟨vfs, e1, rf⟩ := f1.at_ _ ha.mem
    obtain ⟨w, ew, rw'⟩ := rf.lookup hl
    exact ⟨C, dd, vfs, w, rfl, rfl, ek, ef, rfl, e1, ew, l _ _ _ _ _ h1 s1 rw' f1⟩
def aIsE (K : PySem.W.Frag) (a C dd : Addr) : List D → Mem → AQ → Prop := fun ds M Q => ∃ c cv fs u b, ds = [.r a, c] ∧ (c = .r cv ∧ PySem.W.kitOne K (.ref C) (.ref cv) = some b ∨ ∃ n, c = .ty n ∧ PySem.W.kitOne K (.ref C) (.type n) = some b) ∧ ExK K C ∧ At M dd (.xd fs) u ∧ Q (.bl b) M
theorem isE_op {a C dd : Addr} : OpN K (gIsE K a (.ref C) (some dd)) (aIsE K a C dd) := fun ds vs M F H B Q ⟨c, cv, fs, u, b, e, hc, ek, ha, h⟩ r f l => by
  subst e
  obtain ⟨v1, vr, rfl, r1, r2⟩ := r.inv
  cases r1
  obtain ⟨v2, vr2, rfl, r3, r4⟩ := r2.inv
  obtain rfl := r4.inv_nil
  obtain ⟨vfs, e1, rf⟩ := f.at_ _ ha.mem
  rcases hc with ⟨rfl, hk⟩ | ⟨n, rfl, hk⟩
  · cases r3
    exact ⟨_, _, C, dd, vfs, b, rfl, .own _, rfl, ek, rfl, e1, hk, l.same h (.bl b) f⟩
  · cases r3
    exact ⟨_, _, C, dd, vfs, b, rfl, .ty _, rfl, ek, rfl, e1, hk, l.same h (.bl b) f⟩
end
/-! ### the promise of a def by its body -/
abbrev astart (N : List Str) (ds : List D) : AS := ds.map some ++ List.replicate (N.length - ds.length) none
section
variable {P : Program} {w : World} {K : PySem.W.Frag} {mg : Str → Option Value} {base : Heap} {k : Nat} {x qual m : Str} {ps N : List Str} {st : Stmt} {asp asp' : ASp} {C : Addr}
theorem conSp.len (h : ∀ ds M Q E, asp ds M Q E → ds.length = ps.length) : ∀ vs H Q E, conSp K asp vs H Q E → vs.length = ps.length := fun vs H Q E ⟨ds, M, F, B, BX, r, _, h1, _, _⟩ => r.1.trans (h ds M B BX h1)
theorem conSp.imp (h : ∀ ds M Q E, asp' ds M Q E → asp ds M Q E) : ∀ vs H Q E, conSp K asp' vs H Q E → conSp K asp vs H Q E := fun vs H Q E ⟨ds, M, F, B, BX, r, f, h1, l, lc⟩ => ⟨ds, M, F, B, BX, r, f, h _ _ _ _ h1, l, lc⟩
theorem body_con {X : Cx} {W : WX} {A : AX} {body : List Stmt} {t : ATS} {vs : List V} {H F : Hp} {ds : List D} {M : Mem} {B : AQ} {Q : VK} (r : RvL K F vs ds) (f : Fr K M F H) (lx : LnX K F A W) (l : Ln K F B Q) (h : t { nx := fun _ M' => B .non M', rt := B } (astart N ds) M) :
    conS K W A t { nx := fun _ H' => Q .non H', rt := Q } (L2.start N vs) H :=
  ⟨_, M, F, _, Rs.start r, f, lx, h, fun xs M' σ H' F' b s _ f' => l _ _ _ _ _ b s .non f', l, fun _ _ _ _ _ b => b.elim, fun _ _ _ _ _ b => b.elim⟩
/-- a def that lets nothing out -/
theorem def_A (F : FunAt K mg x qual st) (S : FnScope N ps (defScope st))
    (hb : ∀ (kV doc pm : Value) (an : Option Addr) (cdv ct : Value) (us : List Value), us.length = ps.length → bindArgs (PySem.W.fnOf x qual (defArgs st) (defBody st) (defScope st) .none kV doc pm an cdv ct) ⟨us, []⟩ = pure (ps.zip us))
    (len : ∀ ds M Q E, asp ds M Q E → ds.length = ps.length)
    (body : ∀ (f : Addr) (cdv : Value) (Ar : Around) (outer : List Env) (s : Shared) (H : Hp) (E : XK) (ds : List D) (M : Mem) (Q : AQ) (EX : AXc), Room k (Ar.deeper (envOfC qual (defScope st) s.heap.objs.size f cdv)) → asp ds M Q EX →
      ∃ t, PSs (cxOf CX0 P w K mg base N qual (defScope st) f cdv Ar outer s H E).nox (defBody st) (conS K noW noA t) ∧ t { nx := fun _ M' => Q .non M', rt := Q } (astart N ds) M) : Cal P w K mg base CX0 (k + 1) x ps (conSp K asp) :=
  def_ok F S hb (conSp.len len) fun f cdv Ar outer s H vs Q E hr ⟨ds, M, F0, B, BX, r, fr, h, l, lc⟩ => by
    obtain ⟨t, d, q⟩ := body f cdv Ar outer s H E ds M B BX hr h
    exact ⟨_, d, body_con (body := defBody st) (X := (cxOf CX0 P w K mg base N qual (defScope st) f cdv Ar outer s H E).nox) r fr .none l q⟩
theorem met_A (F : MetAt K C m qual st) (S : FnScope N ps (defScope st))
    (hb : ∀ (kV doc pm : Value) (an : Option Addr) (cdv ct : Value) (us : List Value), us.length = ps.length → bindArgs (PySem.W.fnOf m qual (defArgs st) (defBody st) (defScope st) .none kV doc pm an cdv ct) ⟨us, []⟩ = pure (ps.zip us))
    (len : ∀ ds M Q E, asp ds M Q E → ds.length = ps.length)
    (body : ∀ (f : Addr) (cdv : Value) (Ar : Around) (outer : List Env) (s : Shared) (H : Hp) (E : XK) (ds : List D) (M : Mem) (Q : AQ) (EX : AXc), Room k (Ar.deeper (envOfC qual (defScope st) s.heap.objs.size f cdv)) → asp ds M Q EX →
      ∃ t, PSs (cxOf CX0 P w K mg base N qual (defScope st) f cdv Ar outer s H E).nox (defBody st) (conS K noW noA t) ∧ t { nx := fun _ M' => Q .non M', rt := Q } (astart N ds) M) : MCal P w K mg base CX0 (k + 1) C m ps (conSp K asp) :=
  met_ok F S hb (conSp.len len) fun f cdv Ar outer s H vs Q E hr ⟨ds, M, F0, B, BX, r, fr, h, l, lc⟩ => by
    obtain ⟨t, d, q⟩ := body f cdv Ar outer s H E ds M B BX hr h
    exact ⟨_, d, body_con (body := defBody st) (X := (cxOf CX0 P w K mg base N qual (defScope st) f cdv Ar outer s H E).nox) r fr .none l q⟩
/-- a def that may raise -/
theorem lnc_x {F : Hp} {BX : AXc} {E : XK} (lc : LnC K F BX E) : LnX K F (fun C fs _ M => BX C fs M) (fun cls d _ H => E cls d H) := fun C fs xs M σ H F' dd a s _ f => lc C fs M H F' dd a s f
theorem def_AX (F : FunAt K mg x qual st) (S : FnScope N ps (defScope st))
    (hb : ∀ (kV doc pm : Value) (an : Option Addr) (cdv ct : Value) (us : List Value), us.length = ps.length → bindArgs (PySem.W.fnOf x qual (defArgs st) (defBody st) (defScope st) .none kV doc pm an cdv ct) ⟨us, []⟩ = pure (ps.zip us))
    (len : ∀ ds M Q E, asp ds M Q E → ds.length = ps.length)
    (body : ∀ (f : Addr) (cdv : Value) (Ar : Around) (outer : List Env) (s : Shared) (H : Hp) (E : XK) (ds : List D) (M : Mem) (Q : AQ) (EX : AXc), Room k (Ar.deeper (envOfC qual (defScope st) s.heap.objs.size f cdv)) → asp ds M Q EX →
      ∃ t, PSs (cxOf (HX P w) P w K mg base N qual (defScope st) f cdv Ar outer s H E) (defBody st) (conS K (fun cls d _ H => E cls d H) (fun C fs _ M => EX C fs M) t) ∧ t { nx := fun _ M' => Q .non M', rt := Q } (astart N ds) M) : Cal P w K mg base (HX P w) (k + 1) x ps (conSp K asp) :=
  def_okX F S hb (conSp.len len) fun f cdv Ar outer s H vs Q E hr ⟨ds, M, F0, B, BX, r, fr, h, l, lc⟩ => by
    obtain ⟨t, d, q⟩ := body f cdv Ar outer s H E ds M B BX hr h
    exact ⟨_, d, body_con (body := defBody st) (X := cxOf (HX P w) P w K mg base N qual (defScope st) f cdv Ar outer s H E) r fr (lnc_x lc) l q⟩
theorem met_AX (F : MetAt K C m qual st) (S : FnScope N ps (defScope st))
    (hb : ∀ (kV doc pm : Value) (an : Option Addr) (cdv ct : Value) (us : List Value), us.length = ps.length → bindArgs (PySem.W.fnOf m qual (defArgs st) (defBody st) (defScope st) .none kV doc pm an cdv ct) ⟨us, []⟩ = pure (ps.zip us))
    (len : ∀ ds M Q E, asp ds M Q E → ds.length = ps.length)
    (body : ∀ (f : Addr) (cdv : Value) (Ar : Around) (outer : List Env) (s : Shared) (H : Hp) (E : XK) (ds : List D) (M : Mem) (Q : AQ) (EX : AXc), Room k (Ar.deeper (envOfC qual (defScope st) s.heap.objs.size f cdv)) → asp ds M Q EX →
      ∃ t, PSs (cxOf (HX P w) P w K mg base N qual (defScope st) f cdv Ar outer s H E) (defBody st) (conS K (fun cls d _ H => E cls d H) (fun C fs _ M => EX C fs M) t) ∧ t { nx := fun _ M' => Q .non M', rt := Q } (astart N ds) M) : MCal P w K mg base (HX P w) (k + 1) C m ps (conSp K asp) :=
  met_okX F S hb (conSp.len len) fun f cdv Ar outer s H vs Q E hr ⟨ds, M, F0, B, BX, r, fr, h, l, lc⟩ => by
    obtain ⟨t, d, q⟩ := body f cdv Ar outer s H E ds M B BX hr h
    exact ⟨_, d, body_con (body := defBody st) (X := cxOf (HX P w) P w K mg base N qual (defScope st) f cdv Ar outer s H E) r fr (lnc_x lc) l q⟩
/-- a def called in an except suite -/
theorem def_AH (F : FunAt K mg x qual st) (S : FnScope N ps (defScope st))
    (hb : ∀ (kV doc pm : Value) (an : Option Addr) (cdv ct : Value) (us : List Value), us.length = ps.length → bindArgs (PySem.W.fnOf x qual (defArgs st) (defBody st) (defScope st) .none kV doc pm an cdv ct) ⟨us, []⟩ = pure (ps.zip us))
    (len : ∀ ds M Q E, asp ds M Q E → ds.length = ps.length)
    (body : ∀ (f : Addr) (cdv : Value) (Ar : Around) (outer : List Env) (s : Shared) (H : Hp) (E : XK) (p : Addr × Obj) (ds : List D) (M : Mem) (Q : AQ) (EX : AXc), L2H.Hot1 Ar p → L2H.RoomH k (Ar.deeper (envOfC qual (defScope st) s.heap.objs.size f cdv)) → asp ds M Q EX →
      ∃ t, PSs (L2H.cxH CX0 P w K mg base N qual (defScope st) f cdv Ar outer s H E p) (defBody st) (conS K noW noA t) ∧ t { nx := fun _ M' => Q .non M', rt := Q } (astart N ds) M) : CalH P w K mg base CX0 (k + 1) x ps (conSp K asp) :=
  def_okH F S hb (conSp.len len) fun f cdv Ar outer s H vs Q E p hp hr ⟨ds, M, F0, B, BX, r, fr, h, l, lc⟩ => by
    obtain ⟨t, d, q⟩ := body f cdv Ar outer s H E p ds M B BX hp hr h
    exact ⟨_, d, body_con (body := defBody st) (X := L2H.cxH CX0 P w K mg base N qual (defScope st) f cdv Ar outer s H E p) r fr .none l q⟩
end
end AV

set_option Elab.async false
set_option linter.all false
set_option maxRecDepth 100000
set_option maxHeartbeats 4000000
/-! A6: operators, subscripts, slices, built-in calls and methods over abstract values (own work). -/
namespace AV
open PySem PySem.Spec PyProof.Rows L2 G TL
/-! ### plain data: none, ints, texts, tuples and lists of such -/
mutual
def D.py : D → PyData
  | .bl b => .bool b
  | .int i => .int i
  | .str z => .str z
  | .tup ds => .tuple (pyL ds)
  | .lst ds => .list (pyL ds)
  | _ => .none
def pyL : List D → List PyData
  | [] => []
  | d :: ds => d.py :: pyL ds
end
mutual
/-- plain, at most n deep -/
def D.pl : D → Nat → Bool
  | .non, _ => true
  | .int _, _ => true
  | .str z, _ => PyData.strOk z
  | .tup ds, n + 1 => plL ds n
  | .lst ds, n + 1 => plL ds n
  | _, _ => false
def plL : List D → Nat → Bool
  | [], _ => true
  | d :: ds, n => d.pl n && plL ds n
end
theorem plL_iff {ds : List D} {n : Nat} : plL ds n = true ↔ ∀ d ∈ ds, d.pl n = true := by
  induction ds with
  | nil => simp [plL]
  | cons d ds ih => simp [plL, ih]
theorem pl_tup {ds : List D} {n : Nat} (h : ∀ d ∈ ds, d.pl n = true) : (D.tup ds).pl (n + 1) = true := by rw [D.pl]; exact plL_iff.mpr h
theorem pl_lst {ds : List D} {n : Nat} (h : ∀ d ∈ ds, d.pl n = true) : (D.lst ds).pl (n + 1) = true := by rw [D.pl]; exact plL_iff.mpr h
theorem pyL_map (ds : List D) : pyL ds = ds.map D.py := by
  induction ds with
  | nil => rfl
  | cons d ds ih => rw [pyL, ih]; rfl
theorem pl_shape : ∀ (n : Nat) (d : D), d.pl n = true → PyData.canLay0 d.py = true ∧ PyData.depth d.py ≤ n
  | n, .non, _ => by simp [D.py, PyData.canLay0, PyData.depth]
  | n, .int i, _ => by simp [D.py, PyData.canLay0, PyData.depth]
  | n, .str z, h => by simpa [D.py, PyData.canLay0, PyData.depth, D.pl] using h
  | n + 1, .tup ds, h => by
    rw [D.pl] at h
    have q : ∀ ds : List D, plL ds n = true → PyData.canLayAll0 (pyL ds) = true ∧ PyData.depthAll (pyL ds) ≤ n := by
      intro ds
      induction ds with
      | nil => intro _; simp [pyL, PyData.canLayAll0, PyData.depthAll]
      | cons d ds ih =>
        intro h
        rw [plL, Bool.and_eq_true] at h
        obtain ⟨a, b⟩ := pl_shape n d h.1
        obtain ⟨c, e⟩ := ih h.2
        rw [pyL, PyData.canLayAll0, PyData.depthAll, a, c]
        exact ⟨rfl, Nat.max_le.mpr ⟨b, e⟩⟩
    obtain ⟨a, b⟩ := q ds h
    rw [D.py, PyData.canLay0, PyData.depth]
    exact ⟨a, by omega⟩
  | n + 1, .lst ds, h => by
    rw [D.pl] at h
    have q : ∀ ds : List D, plL ds n = true → PyData.canLayAll0 (pyL ds) = true ∧ PyData.depthAll (pyL ds) ≤ n := by
      intro ds
      induction ds with
      | nil => intro _; simp [pyL, PyData.canLayAll0, PyData.depthAll]
      | cons d ds ih =>
        intro h
        rw [plL, Bool.and_eq_true] at h
        obtain ⟨a, b⟩ := pl_shape n d h.1
        obtain ⟨c, e⟩ := ih h.2
        rw [pyL, PyData.canLayAll0, PyData.depthAll, a, c]
        exact ⟨rfl, Nat.max_le.mpr ⟨b, e⟩⟩
    obtain ⟨a, b⟩ := q ds h
    rw [D.py, PyData.canLay0, PyData.depth]
    exact ⟨a, by omega⟩
  | n, .bl b, h => by simp [D.pl] at h
  | n, .ty b, h => by simp [D.pl] at h
  | n, .r b, h => by simp [D.pl] at h
  | n, .ins _ _, h => by simp [D.pl] at h
  | n, .scr _, h => by simp [D.pl] at h
  | 0, .tup _, h => by simp [D.pl] at h
  | 0, .lst _, h => by simp [D.pl] at h
theorem pl_eqv : ∀ (n : Nat) (d e : D), d.pl n = true → e.pl n = true → (PyData.eqv d.py e.py = true ↔ d = e)
  | 0, d, e, h1, h2 => by
    cases d <;> simp [D.pl] at h1 <;> cases e <;> simp [D.pl] at h2 <;> simp [D.py, PyData.eqv]
  | n + 1, d, e, h1, h2 => by
    have q : ∀ ds es : List D, plL ds n = true → plL es n = true → (PyData.eqvAll (pyL ds) (pyL es) = true ↔ ds = es) := by
      intro ds
      induction ds with
      | nil => intro es _ _; cases es <;> simp [pyL, PyData.eqvAll]
      | cons d ds ih =>
        intro es h1 h2
        cases es with
        | nil => simp [pyL, PyData.eqvAll]
        | cons e es =>
          rw [plL, Bool.and_eq_true] at h1 h2
          rw [pyL, pyL, PyData.eqvAll, Bool.and_eq_true, pl_eqv n d e h1.1 h2.1, ih es h1.2 h2.2, List.cons.injEq]
    cases d with
    | tup ds =>
      rw [D.pl] at h1
      cases e with
      | tup es => rw [D.pl] at h2; rw [D.py, D.py, PyData.eqv, q ds es h1 h2, D.tup.injEq]
      | _ => simp [D.pl] at h2 <;> simp [D.py, PyData.eqv]
    | lst ds =>
      rw [D.pl] at h1
      cases e with
      | lst es => rw [D.pl] at h2; rw [D.py, D.py, PyData.eqv, q ds es h1 h2, D.lst.injEq]
      | _ => simp [D.pl] at h2 <;> simp [D.py, PyData.eqv]
    | non => cases e <;> simp [D.pl] at h2 <;> simp [D.py, PyData.eqv]
    | int i => cases e <;> simp [D.pl] at h2 <;> simp [D.py, PyData.eqv]
    | str z => cases e <;> simp [D.pl] at h2 <;> simp [D.py, PyData.eqv]
    | bl _ => simp [D.pl] at h1
    | ty _ => simp [D.pl] at h1
    | r _ => simp [D.pl] at h1
    | ins _ _ => simp [D.pl] at h1
    | scr _ => simp [D.pl] at h1
section
variable {K : PySem.W.Frag} {F H : Hp} {M : Mem} {d : D} {v : V} {ds : List D} {vs : List V}
theorem Rv.dp (r : Rv K F v d) : ∀ n, d.pl n = true → Dp K F v d.py := by
  induction r with
  | non => intro n h; rw [D.py] <;> first | exact .non | simp
  | bl b => intro n h; simp [D.pl] at h
  | int i => intro n h; rw [D.py]; exact .int i
  | str z => intro n h; rw [D.py]; exact .str z
  | ty n => intro n h; simp [D.pl] at h
  | r a => intro n h; simp [D.pl] at h
  | tup hs hl hi ih =>
    intro n h
    cases n with
    | zero => simp [D.pl] at h
    | succ n =>
      rw [D.pl] at h
      rw [D.py, pyL_map]
      refine .tup hs (dpAll_of (by rw [List.length_map]; exact hl) fun i v d e1 e2 => ?_)
      rw [List.getElem?_map] at e2
      obtain ⟨d', e3, rfl⟩ := Option.map_eq_some_iff.mp e2
      exact ih i v d' e1 e3 n (plL_iff.mp h _ (List.mem_of_getElem? e3))
  | lst hs hl hi ih =>
    intro n h
    cases n with
    | zero => simp [D.pl] at h
    | succ n =>
      rw [D.pl] at h
      rw [D.py, pyL_map]
      refine .lst (SqL.of hs) (dpAll_of (by rw [List.length_map]; exact hl) fun i v d e1 e2 => ?_)
      rw [List.getElem?_map] at e2
      obtain ⟨d', e3, rfl⟩ := Option.map_eq_some_iff.mp e2
      exact ih i v d' e1 e3 n (plL_iff.mp h _ (List.mem_of_getElem? e3))
  | ins => intro n h; simp [D.pl] at h
  | scr => intro n h; simp [D.pl] at h
theorem pl_sh {n : Nat} (hn : n ≤ 64) (h : d.pl n = true) : SeqAt.shaped d.py = true := by
  obtain ⟨a, b⟩ := pl_shape n d h
  unfold SeqAt.shaped
  rw [a, decide_eq_true (by omega)]
  rfl
/-- plain data, perhaps in a list that is still written -/
inductive Pd (M : Mem) (n : Nat) : D → D → Prop
  | d {d : D} : d.pl n = true → Pd M n d d
  | o {a : Addr} {xs : List D} {u : Ob → Mem} : At M a (.lst xs) u → (D.lst xs).pl n = true → Pd M n (.r a) (.lst xs)
theorem Pd.dp {n : Nat} {x : D} (h : Pd M n x d) (r : Rv K F v x) (f : Fr K M F H) : Dp K H v d.py := by
  cases h with
  | d h => exact Dp.same f.sub _ _ (r.dp n h)
  | o ha h =>
    obtain ⟨vs, e, l⟩ := f.at_ _ ha.mem
    cases r
    have r2 : Rv K H (.ref _) (.lst _) := .of_lst e (l.same f.sub)
    exact r2.dp n h
theorem Pd.pl {n : Nat} {x : D} (h : Pd M n x d) : d.pl n = true := by cases h <;> assumption
end
/-! ### operators -/
abbrev A2 := D → D → Mem → AQ → Prop
inductive aAdd : A2
  | int {i j : Int} {M : Mem} {Q : AQ} : Q (.int (i + j)) M → aAdd (.int i) (.int j) M Q
  | str {a b : Str} {M : Mem} {Q : AQ} : a.length + b.length ≤ sizeLine → Q (.str (a ++ b)) M → aAdd (.str a) (.str b) M Q
  | lst {x y : D} {xs ys : List D} {M : Mem} {Q : AQ} : Ls M x xs → Ls M y ys → xs.length + ys.length ≤ sizeLine → Q (.lst (xs ++ ys)) M → aAdd x y M Q
  | lstO {x y : D} {xs ys : List D} {M : Mem} {Q : AQ} : Ls M x xs → Ls M y ys → xs.length + ys.length ≤ sizeLine → (∀ a, Q (.r a) ((a, .lst (xs ++ ys)) :: M)) → aAdd x y M Q
  | tup {xs ys : List D} {M : Mem} {Q : AQ} : xs.length + ys.length ≤ sizeLine → Q (.tup (xs ++ ys)) M → aAdd (.tup xs) (.tup ys) M Q
inductive aAddO : A2
  | mk {x y : D} {xs ys : List D} {M : Mem} {Q : AQ} : Ls M x xs → Ls M y ys → xs.length + ys.length ≤ sizeLine → (∀ a, Q (.r a) ((a, .lst (xs ++ ys)) :: M)) → aAddO x y M Q
def aInt2 (C : Int → Int → Prop) (g : Int → Int → D) : A2 := fun x y M Q => ∃ i j, x = .int i ∧ y = .int j ∧ C i j ∧ Q (g i j) M
section
variable {X : Cx} {K : PySem.W.Frag}
theorem int2_tr {C C' : Int → Int → Prop} {g : Int → Int → D} {g' : Int → Int → V} (hc : ∀ i j, C i j → C' i j) (hg : ∀ F i j, Rv K F (g' i j) (g i j)) : Op2 K (rI C' g') (aInt2 C g) := fun x y v w M F H B Q ⟨i, j, e1, e2, c, h⟩ r1 r2 f l => by
  subst e1 e2
  cases r1
  cases r2
  exact ⟨i, j, rfl, rfl, hc i j c, l.same h (hg F i j) f⟩
theorem int0_tr {C : Int → Int → Prop} {g : Int → Int → D} {g' : Int → Int → V} (hg : ∀ F i j, Rv K F (g' i j) (g i j)) : Op2 K (rI0 g') (aInt2 C g) := fun x y v w M F H B Q ⟨i, j, e1, e2, c, h⟩ r1 r2 f l => by
  subst e1 e2
  cases r1
  cases r2
  exact ⟨i, j, rfl, rfl, l.same h (hg F i j) f⟩
abbrev cT : Int → Int → Prop := fun _ _ => True
abbrev aSub : A2 := aInt2 cT fun i j => .int (i - j)
abbrev aMul : A2 := aInt2 CMul fun i j => .int (i * j)
abbrev aDiv : A2 := aInt2 CDiv fun i j => .int (i / j)
abbrev aMod : A2 := aInt2 (fun _ j => 0 < j) fun i j => .int (i % j)
abbrev aPow : A2 := aInt2 CPow fun i j => .int (i ^ j.toNat)
abbrev aLt : A2 := aInt2 cT fun i j => .bl (decide (i < j))
abbrev aLe : A2 := aInt2 cT fun i j => .bl (decide (i ≤ j))
abbrev aGt : A2 := aInt2 cT fun i j => .bl (decide (j < i))
abbrev aGe : A2 := aInt2 cT fun i j => .bl (decide (j ≤ i))
theorem o_sub : OpR X (binaryOp .Sub) gSubI ∧ Op2 K gSubI aSub := ⟨g_sub, int0_tr fun _ _ _ => .int _⟩
theorem o_mul : OpR X (binaryOp .Mult) gMul ∧ Op2 K gMul aMul := ⟨g_mul, int2_tr (fun _ _ h => h) fun _ _ _ => .int _⟩
theorem o_div : OpR X (binaryOp .FloorDiv) gDiv ∧ Op2 K gDiv aDiv := ⟨g_div, int2_tr (fun _ _ h => h) fun _ _ _ => .int _⟩
theorem o_mod : OpR X (binaryOp .Mod) gMod ∧ Op2 K gMod aMod := ⟨g_mod, int2_tr (fun _ _ h => h) fun _ _ _ => .int _⟩
theorem o_pow : OpR X (binaryOp .Pow) gPow ∧ Op2 K gPow aPow := ⟨g_pow, int2_tr (fun _ _ h => h) fun _ _ _ => .int _⟩
theorem o_lt : OpR X (compareOp .Lt) (rI0 fun i j => .bl (decide (i < j))) ∧ Op2 K (rI0 fun i j => .bl (decide (i < j))) aLt := ⟨op_lt, int0_tr fun _ _ _ => .bl _⟩
theorem o_le : OpR X (compareOp .LtE) (rI0 fun i j => .bl (decide (i ≤ j))) ∧ Op2 K (rI0 fun i j => .bl (decide (i ≤ j))) aLe := ⟨op_le, int0_tr fun _ _ _ => .bl _⟩
theorem o_gt : OpR X (compareOp .Gt) gGt ∧ Op2 K gGt aGt := ⟨g_gt, int0_tr fun _ _ _ => .bl _⟩
theorem o_ge : OpR X (compareOp .GtE) gGe ∧ Op2 K gGe aGe := ⟨g_ge, int0_tr fun _ _ _ => .bl _⟩
def rAddA (K : PySem.W.Frag) : R2 := fun x y H Q => gAdd K x y H Q ∨ rCatS K x y H Q
theorem o_add (hK : X.K = K := by rfl) : OpR X (binaryOp .Add) (rAddA K) ∧ Op2 K (rAddA K) aAdd := by
  refine ⟨(g_add (K := K) hK).or (g_catS hK), fun x y v w M F H B Q h r1 r2 f l => ?_⟩
  cases h with
  | int h => cases r1; cases r2; exact .inl (v_addI (l.same h (.int _) f))
  | str hs h => cases r1; cases r2; exact .inl (v_addS hs (l.same h (.str _) f))
  | lst l1 l2 hs h =>
    obtain ⟨a, vs, rfl, s1, q1⟩ := l1.at_ r1 f
    obtain ⟨b, ws, rfl, s2, q2⟩ := l2.at_ r2 f
    exact .inr (v_catS s1 s2 (by rw [q1.1, q2.1]; exact hs) (NewL.run (.inl h) (q1.append q2) f l))
  | lstO l1 l2 hs h =>
    obtain ⟨a, vs, rfl, s1, q1⟩ := l1.at_ r1 f
    obtain ⟨b, ws, rfl, s2, q2⟩ := l2.at_ r2 f
    exact .inr (v_catS s1 s2 (by rw [q1.1, q2.1]; exact hs) (NewL.run (.inr h) (q1.append q2) f l))
  | tup hs h =>
    obtain ⟨a, vs, rfl, s1, q1⟩ := r1.tup_at f
    obtain ⟨b, ws, rfl, s2, q2⟩ := r2.tup_at f
    refine .inl (.inr (.inr (.inr ⟨a, b, vs, ws, rfl, rfl, s1, s2, by rw [q1.1, q2.1]; exact hs, fun e => ?_, fun _ e => ?_, fun _ _ => newT h (q1.append q2) f l⟩)))
    · subst e
      rw [List.eq_nil_of_length_eq_zero q1.1.symm, List.nil_append] at h
      exact l.same h r2 f
    · subst e
      rw [List.eq_nil_of_length_eq_zero q2.1.symm, List.append_nil] at h
      exact l.same h r1 f
theorem o_addO (hK : X.K = K := by rfl) : OpR X (binaryOp .Add) (rAddA K) ∧ Op2 K (rAddA K) aAddO := ⟨(o_add hK).1, fun x y v w M F H B Q h r1 r2 f l => by
  cases h with
  | mk l1 l2 hs h => exact (o_add hK).2 x y v w M F H B Q (.lstO l1 l2 hs h) r1 r2 f l⟩
/-- == -/
inductive aEq : A2
  | int {i j : Int} {M : Mem} {Q : AQ} : Q (.bl (decide (i = j))) M → aEq (.int i) (.int j) M Q
  | str {a b : Str} {M : Mem} {Q : AQ} : Q (.bl (decide (a = b))) M → aEq (.str a) (.str b) M Q
  | bl {a b : Bool} {M : Mem} {Q : AQ} : Q (.bl (decide (a = b))) M → aEq (.bl a) (.bl b) M Q
  | nn {M : Mem} {Q : AQ} : Q (.bl true) M → aEq .non .non M Q
  | ni {i : Int} {M : Mem} {Q : AQ} : Q (.bl false) M → aEq .non (.int i) M Q
  | in_ {i : Int} {M : Mem} {Q : AQ} : Q (.bl false) M → aEq (.int i) .non M Q
  | is_ {i : Int} {z : Str} {M : Mem} {Q : AQ} : Q (.bl false) M → aEq (.int i) (.str z) M Q
  | si {i : Int} {z : Str} {M : Mem} {Q : AQ} : Q (.bl false) M → aEq (.str z) (.int i) M Q
  | dat {x y d e : D} {M : Mem} {Q : AQ} (n : Nat) : Pd M n x d → Pd M n y e → n ≤ 64 → (∀ b : Bool, (b = true ↔ d = e) → Q (.bl b) M) → aEq x y M Q
inductive aNe : A2
  | int {i j : Int} {M : Mem} {Q : AQ} : Q (.bl (!decide (i = j))) M → aNe (.int i) (.int j) M Q
  | str {a b : Str} {M : Mem} {Q : AQ} : Q (.bl (!decide (a = b))) M → aNe (.str a) (.str b) M Q
  | bl {a b : Bool} {M : Mem} {Q : AQ} : Q (.bl (!decide (a = b))) M → aNe (.bl a) (.bl b) M Q
  | nn {M : Mem} {Q : AQ} : Q (.bl false) M → aNe .non .non M Q
  | ni {i : Int} {M : Mem} {Q : AQ} : Q (.bl true) M → aNe .non (.int i) M Q
  | in_ {i : Int} {M : Mem} {Q : AQ} : Q (.bl true) M → aNe (.int i) .non M Q
  | dat {x y d e : D} {M : Mem} {Q : AQ} (n : Nat) : Pd M n x d → Pd M n y e → n ≤ 64 → (∀ b : Bool, (b = true ↔ ¬ d = e) → Q (.bl b) M) → aNe x y M Q
def rEqA (K : PySem.W.Frag) : R2 := fun x y H Q => rEq x y H Q ∨ rEqD K x y H Q
def rNeA (K : PySem.W.Frag) : R2 := fun x y H Q => rNe x y H Q ∨ rNeD K x y H Q
theorem o_eq (hu : X.A.units + 64 < cLine) (hK : X.K = K := by rfl) : OpR X (compareOp .Eq) (rEqA K) ∧ Op2 K (rEqA K) aEq := by
  refine ⟨op_eq.or (op_eqDK hu hK), fun x y v w M F H B Q h r1 r2 f l => ?_⟩
  cases h with
  | int h => cases r1; cases r2; exact .inl (v_eqI (l.same h (.bl _) f))
  | str h => cases r1; cases r2; exact .inl (v_eqS (l.same h (.bl _) f))
  | bl h => cases r1; cases r2; exact .inl (v_eqB (l.same h (.bl _) f))
  | nn h => cases r1; cases r2; exact .inl (v_eqN (l.same h (.bl _) f))
  | ni h => cases r1; cases r2; exact .inl ⟨rfl, l.same h (.bl _) f⟩
  | in_ h => cases r1; cases r2; exact .inl ⟨rfl, l.same h (.bl _) f⟩
  | is_ h => cases r1; cases r2; exact .inl ⟨rfl, l.same h (.bl _) f⟩
  | si h => cases r1; cases r2; exact .inl ⟨rfl, l.same h (.bl _) f⟩
  | @dat x y d e _ _ n p1 p2 hn h =>
    refine .inr ⟨_, _, p1.dp r1 f, p2.dp r2 f, pl_sh hn p1.pl, pl_sh hn p2.pl, ?_⟩
    exact l.same (h _ (pl_eqv n d e p1.pl p2.pl)) (.bl _) f
theorem o_ne (hu : X.A.units + 64 < cLine) (hK : X.K = K := by rfl) : OpR X (compareOp .NotEq) (rNeA K) ∧ Op2 K (rNeA K) aNe := by
  refine ⟨op_ne.or (op_neDK hu hK), fun x y v w M F H B Q h r1 r2 f l => ?_⟩
  cases h with
  | int h => cases r1; cases r2; exact .inl (v_neI (l.same h (.bl _) f))
  | str h => cases r1; cases r2; exact .inl (v_neS (l.same h (.bl _) f))
  | bl h => cases r1; cases r2; exact .inl (v_neB (l.same h (.bl _) f))
  | nn h => cases r1; cases r2; exact .inl (v_neN (l.same h (.bl _) f))
  | ni h => cases r1; cases r2; exact .inl ⟨rfl, l.same h (.bl _) f⟩
  | in_ h => cases r1; cases r2; exact .inl ⟨rfl, l.same h (.bl _) f⟩
  | @dat x y d e _ _ n p1 p2 hn h =>
    refine .inr ⟨_, _, p1.dp r1 f, p2.dp r2 f, pl_sh hn p1.pl, pl_sh hn p2.pl, ?_⟩
    exact l.same (h _ (by have z := pl_eqv n d e p1.pl p2.pl; rw [← z]; cases PyData.eqv d.py e.py <;> simp)) (.bl _) f
/-- is None -/
inductive aIs : A2
  | nn {M : Mem} {Q : AQ} : Q (.bl true) M → aIs .non .non M Q
  | int {i : Int} {M : Mem} {Q : AQ} : Q (.bl false) M → aIs (.int i) .non M Q
  | str {z : Str} {M : Mem} {Q : AQ} : Q (.bl false) M → aIs (.str z) .non M Q
  | bl {b : Bool} {M : Mem} {Q : AQ} : Q (.bl false) M → aIs (.bl b) .non M Q
  | r {a : Addr} {M : Mem} {Q : AQ} : Q (.bl false) M → aIs (.r a) .non M Q
  | tup {ds : List D} {M : Mem} {Q : AQ} : Q (.bl false) M → aIs (.tup ds) .non M Q
  | lst {ds : List D} {M : Mem} {Q : AQ} : Q (.bl false) M → aIs (.lst ds) .non M Q
  | ins {C : Addr} {fs : List (Str × D)} {M : Mem} {Q : AQ} : Q (.bl false) M → aIs (.ins C fs) .non M Q
theorem o_is : OpR X (compareOp .Is) gIs ∧ Op2 K gIs aIs := ⟨g_is, fun x y v w M F H B Q h r1 r2 f l => by
  cases h with
  | nn h => cases r1; cases r2; exact v_isN (l.same h (.bl _) f)
  | int h => cases r1; cases r2; exact v_isI (l.same h (.bl _) f)
  | str h => cases r1; cases r2; exact v_isS (l.same h (.bl _) f)
  | bl h => cases r1; cases r2; exact v_isB (l.same h (.bl _) f)
  | r h => cases r1; cases r2; exact v_isR (l.same h (.bl _) f)
  | tup h => obtain ⟨a, vs, rfl, _⟩ := r1.tup_inv; cases r2; exact v_isR (l.same h (.bl _) f)
  | lst h => obtain ⟨a, vs, rfl, _⟩ := r1.lst_inv; cases r2; exact v_isR (l.same h (.bl _) f)
  | ins h => obtain ⟨a, dx, vs, rfl, _⟩ := r1.ins_inv; cases r2; exact v_isR (l.same h (.bl _) f)⟩
def aIsNot : A2 := fun x y M Q => aIs x y M fun d M' => ∃ b, d = .bl b ∧ Q (.bl (!b)) M'
theorem o_isnot : OpR X (compareOp .IsNot) gIsNot ∧ Op2 K gIsNot aIsNot := ⟨g_isnot, fun x y v w M F H B Q h r1 r2 f l => by
  have no : ∀ {a : Addr} {Q : VK}, Q (.bl true) H → gIsNot (.ref a) .non H Q := fun h => v_isnotR h
  cases h with
  | nn h => obtain ⟨b, e, h⟩ := h; cases e; cases r1; cases r2; exact v_isnotN (l.same h (.bl _) f)
  | int h => obtain ⟨b, e, h⟩ := h; cases e; cases r1; cases r2; exact v_isnotI (l.same h (.bl _) f)
  | str h => obtain ⟨b, e, h⟩ := h; cases e; cases r1; cases r2; exact v_isnotS (l.same h (.bl _) f)
  | bl h => obtain ⟨b, e, h⟩ := h; cases e; cases r1; cases r2; exact v_isnotB (l.same h (.bl _) f)
  | r h => obtain ⟨b, e, h⟩ := h; cases e; cases r1; cases r2; exact no (l.same h (.bl _) f)
  | tup h => obtain ⟨b, e, h⟩ := h; cases e; obtain ⟨a, vs, rfl, _⟩ := r1.tup_inv; cases r2; exact no (l.same h (.bl _) f)
  | lst h => obtain ⟨b, e, h⟩ := h; cases e; obtain ⟨a, vs, rfl, _⟩ := r1.lst_inv; cases r2; exact no (l.same h (.bl _) f)
  | ins h => obtain ⟨b, e, h⟩ := h; cases e; obtain ⟨a, dx, vs, rfl, _⟩ := r1.ins_inv; cases r2; exact no (l.same h (.bl _) f)⟩
/-- in: a text among texts, an int among ints, a sign in a text, data in a list -/
inductive aIn : A2
  | txts {y : D} {z : Str} {zs : List Str} {M : Mem} {Q : AQ} : Sq M y (zs.map D.str) → Q (.bl (decide (z ∈ zs))) M → aIn (.str z) y M Q
  | nums {y : D} {i : Int} {is : List Int} {M : Mem} {Q : AQ} : Sq M y (is.map D.int) → Q (.bl (decide (i ∈ is))) M → aIn (.int i) y M Q
  | sign {c : Nat} {z : Str} {M : Mem} {Q : AQ} : Q (.bl (decide (c ∈ z.cps.toList))) M → aIn (.str ⟨#[c]⟩) (.str z) M Q
  | dat {x y : D} {ds : List D} {M : Mem} {Q : AQ} (n : Nat) : x.pl n = true → Pd M (n + 1) y (.lst ds) → n < 64 → (∀ b : Bool, (b = true ↔ x ∈ ds) → Q (.bl b) M) → aIn x y M Q
  | tdat {x : D} {ds : List D} {M : Mem} {Q : AQ} (n : Nat) : x.pl n = true → (D.tup ds).pl (n + 1) = true → n < 64 → (∀ b : Bool, (b = true ↔ x ∈ ds) → Q (.bl b) M) → aIn x (.tup ds) M Q
theorem inV_str {z : Str} : ∀ {zs : List Str}, inV (.str z) (zs.map V.str) = decide (z ∈ zs)
  | [] => by simp [inV]
  | y :: zs => by
    have ih := inV_str (z := z) (zs := zs)
    unfold inV at ih ⊢
    rw [List.map_cons, List.any_cons, ih]
    have : eqV (.str y) (.str z) = decide (z = y) := by
      show (y == z) = _
      by_cases e : z = y
      · rw [e, decide_eq_true rfl]; exact beq_self_eq_true _
      · rw [decide_eq_false e]; exact beq_eq_false_iff_ne.mpr fun q => e q.symm
    rw [this, ← Bool.decide_or]
    exact dec_congr (by rw [List.mem_cons])
theorem inV_int {z : Int} : ∀ {zs : List Int}, inV (.int z) (zs.map V.int) = decide (z ∈ zs)
  | [] => by simp [inV]
  | y :: zs => by
    have ih := inV_int (z := z) (zs := zs)
    unfold inV at ih ⊢
    rw [List.map_cons, List.any_cons, ih]
    have : eqV (.int y) (.int z) = decide (z = y) := by
      show (y == z) = _
      by_cases e : z = y
      · rw [e, decide_eq_true rfl]; exact beq_self_eq_true _
      · rw [decide_eq_false e]; exact beq_eq_false_iff_ne.mpr fun q => e q.symm
    rw [this, ← Bool.decide_or]
    exact dec_congr (by rw [List.mem_cons])
theorem any_eqv {n : Nat} {x : D} {ds : List D} (hx : x.pl n = true) (h : plL ds n = true) : ((pyL ds).any fun z => PyData.eqv z x.py) = true ↔ x ∈ ds := by
  induction ds with
  | nil => simp [pyL]
  | cons d ds ih =>
    rw [plL, Bool.and_eq_true] at h
    rw [pyL, List.any_cons, Bool.or_eq_true, pl_eqv n d x h.1 hx, ih h.2, List.mem_cons]
    exact ⟨fun z => z.imp Eq.symm id, fun z => z.imp Eq.symm id⟩
def rInTD (K : PySem.W.Frag) : R2 := fun x y H Q => ∃ d ds, Dp K H x d ∧ Dp K H y (.tuple ds) ∧ SeqAt.shaped d = true ∧ SeqAt.shaped (.tuple ds) = true ∧ Q (.bl (ds.any fun z => PyData.eqv z d)) H
def rNotInTD (K : PySem.W.Frag) : R2 := fun x y H Q => ∃ d ds, Dp K H x d ∧ Dp K H y (.tuple ds) ∧ SeqAt.shaped d = true ∧ SeqAt.shaped (.tuple ds) = true ∧ Q (.bl (!ds.any fun z => PyData.eqv z d)) H
theorem op_inTD (hu : X.A.units + 65 < cLine) (hK : X.K = K := by rfl) : OpR X (compareOp .In) (rInTD K) := by
  subst hK
  intro pins s σ H x y v u Q I rx ry h
  obtain ⟨d, ds, hd, he, sd, se, q⟩ := h
  obtain ⟨as, r1⟩ := Dp.reads I d x v hd rx
  obtain ⟨bs, r2⟩ := Dp.reads I (.tuple ds) y u he ry
  exact SeqAt.in_tuple_reads r2 r1 (SeqAt.canLay_of_shaped se) (SeqAt.canLay_of_shaped sd) (room_in_shaped sd hu) ⟨.bl _, H, I, rfl, q⟩
theorem op_notInTD (hu : X.A.units + 65 < cLine) (hK : X.K = K := by rfl) : OpR X (compareOp .NotIn) (rNotInTD K) := by
  subst hK
  intro pins s σ H x y v u Q I rx ry h
  obtain ⟨d, ds, hd, he, sd, se, q⟩ := h
  obtain ⟨as, r1⟩ := Dp.reads I d x v hd rx
  obtain ⟨bs, r2⟩ := Dp.reads I (.tuple ds) y u he ry
  exact SeqAt.notIn_tuple_reads r2 r1 (SeqAt.canLay_of_shaped se) (SeqAt.canLay_of_shaped sd) (room_in_shaped sd hu) ⟨.bl _, H, I, rfl, q⟩
def rInA (K : PySem.W.Frag) : R2 := fun x y H Q => (gIn K x y H Q ∨ rInD K x y H Q) ∨ rInTD K x y H Q
def rNotInA (K : PySem.W.Frag) : R2 := fun x y H Q => (gNotIn K x y H Q ∨ rNotInD K x y H Q) ∨ rNotInTD K x y H Q
theorem o_in (hu : X.A.units + 65 < cLine) (hK : X.K = K := by rfl) : OpR X (compareOp .In) (rInA K) ∧ Op2 K (rInA K) aIn := by
  refine ⟨((g_in (K := K) hK).or (op_inDK hu hK)).or (op_inTD hu hK), fun x y v w M F H B Q h r1 r2 f l => ?_⟩
  cases h with
  | @txts y z zs _ _ hs h =>
    cases r1
    obtain ⟨a, vs, rfl, s, q⟩ := hs.at_ r2 f
    rw [q.strs] at s
    exact .inl (.inl (.inl ⟨a, _, rfl, s, rfl, by simp [flatV], by rw [if_neg Bool.false_ne_true, inV_str]; exact l.same h (.bl _) f⟩))
  | @nums y i is _ _ hs h =>
    cases r1
    obtain ⟨a, vs, rfl, s, q⟩ := hs.at_ r2 f
    rw [q.ints] at s
    exact .inl (.inl (.inl ⟨a, _, rfl, s, rfl, by simp [flatV], by rw [if_neg Bool.false_ne_true, inV_int]; exact l.same h (.bl _) f⟩))
  | sign h => cases r1; cases r2; exact .inl (.inl (v_inS (l.same h (.bl _) f)))
  | @dat x y ds _ _ n p1 p2 hn h =>
    have pp : plL ds n = true := by have := p2.pl; rwa [D.pl] at this
    have d2 := p2.dp r2 f
    rw [D.py] at d2
    exact .inl (.inr ⟨_, _, Dp.same f.sub _ _ (r1.dp n p1), d2, pl_sh (by omega) p1, by have := pl_sh (show n + 1 ≤ 64 by omega) p2.pl; rwa [D.py] at this, l.same (h _ (any_eqv p1 pp)) (.bl _) f⟩)
  | @tdat x ds _ _ n p1 p2 hn h =>
    have pp : plL ds n = true := by have := p2; rwa [D.pl] at this
    have d2 := (r2.dp (n + 1) p2)
    rw [D.py] at d2
    exact .inr ⟨_, _, Dp.same f.sub _ _ (r1.dp n p1), Dp.same f.sub _ _ d2, pl_sh (by omega) p1, by have := pl_sh (show n + 1 ≤ 64 by omega) p2; rwa [D.py] at this, l.same (h _ (any_eqv p1 pp)) (.bl _) f⟩
def aNotIn : A2 := fun x y M Q => aIn x y M fun d M' => ∃ b, d = .bl b ∧ Q (.bl (!b)) M'
theorem o_notin (hu : X.A.units + 65 < cLine) (hK : X.K = K := by rfl) : OpR X (compareOp .NotIn) (rNotInA K) ∧ Op2 K (rNotInA K) aNotIn := by
  refine ⟨((g_notin (K := K) hK).or (op_notInDK hu hK)).or (op_notInTD hu hK), fun x y v w M F H B Q h r1 r2 f l => ?_⟩
  cases h with
  | @txts y z zs _ _ hs h =>
    obtain ⟨b, e, h⟩ := h
    cases e
    cases r1
    obtain ⟨a, vs, rfl, s, q⟩ := hs.at_ r2 f
    rw [q.strs] at s
    exact .inl (.inl (.inl ⟨a, _, rfl, s, rfl, by simp [flatV], by rw [if_pos rfl, inV_str]; exact l.same h (.bl _) f⟩))
  | @nums y i is _ _ hs h =>
    obtain ⟨b, e, h⟩ := h
    cases e
    cases r1
    obtain ⟨a, vs, rfl, s, q⟩ := hs.at_ r2 f
    rw [q.ints] at s
    exact .inl (.inl (.inl ⟨a, _, rfl, s, rfl, by simp [flatV], by rw [if_pos rfl, inV_int]; exact l.same h (.bl _) f⟩))
  | sign h => obtain ⟨b, e, h⟩ := h; cases e; cases r1; cases r2; exact .inl (.inl (v_notinS (l.same h (.bl _) f)))
  | @dat x y ds _ _ n p1 p2 hn h =>
    have pp : plL ds n = true := by have := p2.pl; rwa [D.pl] at this
    have d2 := p2.dp r2 f
    rw [D.py] at d2
    obtain ⟨b, e, h⟩ := h _ (any_eqv p1 pp)
    cases e
    exact .inl (.inr ⟨_, _, Dp.same f.sub _ _ (r1.dp n p1), d2, pl_sh (by omega) p1, by have := pl_sh (show n + 1 ≤ 64 by omega) p2.pl; rwa [D.py] at this, l.same h (.bl _) f⟩)
  | @tdat x ds _ _ n p1 p2 hn h =>
    have pp : plL ds n = true := by have := p2; rwa [D.pl] at this
    have d2 := (r2.dp (n + 1) p2)
    rw [D.py] at d2
    obtain ⟨b, e, h⟩ := h _ (any_eqv p1 pp)
    cases e
    exact .inr ⟨_, _, Dp.same f.sub _ _ (r1.dp n p1), Dp.same f.sub _ _ d2, pl_sh (by omega) p1, by have := pl_sh (show n + 1 ≤ 64 by omega) p2; rwa [D.py] at this, l.same h (.bl _) f⟩
/-! ### subscripts -/
inductive aIx : A2
  | seq {x d : D} {xs : List D} {i : Int} {M : Mem} {Q : AQ} : Sq M x xs → atI xs i = some d → Q d M → aIx x (.int i) M Q
  | str {z : Str} {i : Int} {c : Nat} {M : Mem} {Q : AQ} : z.length ≤ sizeLine → atI z.cps.toList i = some c → Q (.str ⟨#[c]⟩) M → aIx (.str z) (.int i) M Q
theorem atI_rv {F : Hp} {vs : List V} {ds : List D} {i : Int} {d : D} (r : RvL K F vs ds) (e : atI ds i = some d) : ∃ v, atI vs i = some v ∧ Rv K F v d := by
  unfold atI at e ⊢
  rw [r.1]
  cases q : ixN ds.length i with
  | none => rw [q] at e; cases e
  | some j =>
    rw [q] at e
    obtain ⟨v, ev, rv⟩ := r.get (i := j) e
    exact ⟨v, ev, rv⟩
theorem o_ix (hK : X.K = K := by rfl) : IxR X (rIx K) ∧ Op2 K (rIx K) aIx := by
  refine ⟨g_ix hK, fun x y v w M F H B Q h r1 r2 f l => ?_⟩
  cases h with
  | seq hs e h =>
    cases r2
    obtain ⟨a, vs, rfl, s, q⟩ := hs.at_ r1 f
    obtain ⟨u, eu, ru⟩ := atI_rv q e
    rcases s with s | s
    · exact v_ixLs s eu (l.same h ru f)
    · exact v_ixTs s eu (l.same h ru f)
  | str hl e h => cases r1; cases r2; exact v_ixS hl e (l.same h (.str _) f)
/-! ### slices -/
abbrev cutD (xs : List D) (lo hi : Option Int) : List D := (xs.drop (HT.sIx xs.length 0 lo)).take (HT.sIx xs.length xs.length hi - HT.sIx xs.length 0 lo)
theorem RvL.cut {F : Hp} {vs : List V} {ds : List D} (r : RvL K F vs ds) (lo hi : Option Int) : RvL K F (cutV vs lo hi) (cutD ds lo hi) := by
  unfold cutV cutD
  rw [r.1]
  exact (r.drop _).take _
inductive aCutR : D → Option Int → Option Int → Mem → AQ → Prop
  | lst {x : D} {xs : List D} {lo hi : Option Int} {M : Mem} {Q : AQ} : Ls M x xs → Q (.lst (cutD xs lo hi)) M → aCutR x lo hi M Q
  | lstO {x : D} {xs : List D} {lo hi : Option Int} {M : Mem} {Q : AQ} : Ls M x xs → (∀ a, Q (.r a) ((a, .lst (cutD xs lo hi)) :: M)) → aCutR x lo hi M Q
  | tup {xs : List D} {lo hi : Option Int} {M : Mem} {Q : AQ} : Q (.tup (cutD xs lo hi)) M → aCutR (.tup xs) lo hi M Q
  | str {z : Str} {lo hi : Option Int} {M : Mem} {Q : AQ} : z.length ≤ sizeLine → Q (.str (cutS z lo hi)) M → aCutR (.str z) lo hi M Q
inductive aCutO : D → Option Int → Option Int → Mem → AQ → Prop
  | mk {x : D} {xs : List D} {lo hi : Option Int} {M : Mem} {Q : AQ} : Ls M x xs → (∀ a, Q (.r a) ((a, .lst (cutD xs lo hi)) :: M)) → aCutO x lo hi M Q
theorem o_sl (hK : X.K = K := by rfl) : SlR X (gSl K) ∧ OpS K (gSl K) aCutR := by
  refine ⟨g_sl hK, fun x lo hi v M F H B Q h r1 f l => ?_⟩
  cases h with
  | lst l1 h =>
    obtain ⟨a, vs, rfl, s1, q1⟩ := l1.at_ r1 f
    exact .inl ⟨a, vs, rfl, s1, NewL.run (.inl h) (q1.cut lo hi) f l⟩
  | lstO l1 h =>
    obtain ⟨a, vs, rfl, s1, q1⟩ := l1.at_ r1 f
    exact .inl ⟨a, vs, rfl, s1, NewL.run (.inr h) (q1.cut lo hi) f l⟩
  | @tup xs _ _ _ _ h =>
    obtain ⟨a, vs, rfl, s1, q1⟩ := r1.tup_at f
    refine .inr (.inl ⟨a, vs, rfl, s1, fun ⟨e1, e2⟩ => ?_, fun _ => newT h (q1.cut lo hi) f l⟩)
    rw [q1.1] at e1 e2
    have e : cutD xs lo hi = xs := by
      unfold cutD
      rw [e1, e2, List.drop_zero, Nat.sub_zero, List.take_length]
    rw [e] at h
    exact l.same h r1 f
  | str hl h => cases r1; exact .inr (.inr ⟨_, rfl, hl, l.same h (.str _) f⟩)
theorem o_slO (hK : X.K = K := by rfl) : SlR X (gSl K) ∧ OpS K (gSl K) aCutO := ⟨(o_sl hK).1, fun x lo hi v M F H B Q h r1 f l => by
  cases h with
  | mk l1 h => exact (o_sl hK).2 x lo hi v M F H B Q (.lstO l1 h) r1 f l⟩
end
end AV

set_option Elab.async false
set_option linter.all false
set_option maxRecDepth 100000
set_option maxHeartbeats 4000000
/-! A7: built-in calls, methods of lists and texts, f-strings, over abstract values (own work). -/
namespace AV
open PySem PySem.Spec PyProof.Rows L2 G TL RZ
abbrev AN := List D → Mem → AQ → Prop
abbrev AM := D → List D → Mem → AQ → Prop
section
variable {X : Cx} {K : PySem.W.Frag}
/-! ### len, isinstance, min, max, int, str, list, tuple, all, any -/
inductive aLen : AN
  | seq {x : D} {xs : List D} {M : Mem} {Q : AQ} : Sq M x xs → Q (.int (xs.length : Nat)) M → aLen [x] M Q
  | str {z : Str} {M : Mem} {Q : AQ} : z.length ≤ sizeLine → Q (.int (z.length : Nat)) M → aLen [.str z] M Q
theorem o_len (hK : X.K = K := by rfl) : CallR X (.builtin "len") (gLen K) ∧ OpN K (gLen K) aLen := ⟨g_len hK, fun xs vs M F H B Q h r f l => by
  cases h with
  | seq hs h =>
    obtain ⟨v, vr, rfl, r1, r2⟩ := r.inv
    obtain rfl := r2.inv_nil
    obtain ⟨a, us, rfl, s, q⟩ := hs.at_ r1 f
    rw [← q.1] at h
    rcases s with s | s
    · exact v_lenLs s (l.same h (.int _) f)
    · exact v_lenTs s (l.same h (.int _) f)
  | str hl h =>
    obtain ⟨v, vr, rfl, r1, r2⟩ := r.inv
    obtain rfl := r2.inv_nil
    cases r1
    exact v_lenS hl (l.same h (.int _) f)⟩
/-- the built-in kind of a value -/
inductive Kd (M : Mem) : D → String → Prop
  | non : Kd M .non "NoneType"
  | bl {b : Bool} : Kd M (.bl b) "bool"
  | int {i : Int} : Kd M (.int i) "int"
  | str {z : Str} : Kd M (.str z) "str"
  | tup {ds : List D} : Kd M (.tup ds) "tuple"
  | lst {ds : List D} : Kd M (.lst ds) "list"
  | o {a : Addr} {xs : List D} {u : Ob → Mem} : At M a (.lst xs) u → Kd M (.r a) "list"
theorem Kd.ty {M : Mem} {x : D} {n : String} {v : V} {F H : Hp} (h : Kd M x n) (r : Rv K F v x) (f : Fr K M F H) : TyX K H v (.type n) := by
  cases h with
  | non => cases r; exact .base .non
  | bl => cases r; exact .base (.bl _)
  | int => cases r; exact .base (.int _)
  | str => cases r; exact .base (.str _)
  | tup => obtain ⟨a, vs, rfl, s, _⟩ := r.tup_at f; exact tyx_t s
  | lst => obtain ⟨a, vs, rfl, s, _⟩ := (Ls.d (M := M)).at_ r f; exact tyx_l s
  | o ha =>
    obtain ⟨vs, e, _⟩ := f.at_ _ ha.mem
    cases r
    exact tyx_l (SqL.of e)
inductive aIsi (K : PySem.W.Frag) : AN
  | kd {x : D} {n T : String} {b : Bool} {M : Mem} {Q : AQ} : Kd M x n → kitB n T = some b → Q (.bl b) M → aIsi K [x, .ty T] M Q
  | own {x : D} {C : Addr} {fs : List (Str × D)} {M : Mem} {Q : AQ} : InsAt M x C fs → ClK K C → Q (.bl true) M → aIsi K [x, .r C] M Q
  | oth {x : D} {C C' : Addr} {fs : List (Str × D)} {M : Mem} {Q : AQ} {b : Bool} : InsAt M x C fs → ClK K C → PySem.W.kitOne K (.ref C) (.ref C') = some b → Q (.bl b) M → aIsi K [x, .r C'] M Q
theorem o_isi (hK : X.K = K := by rfl) : CallR X (.builtin "isinstance") (gIsi K) ∧ OpN K (gIsi K) (aIsi K) := ⟨g_isi hK, fun xs vs M F H B Q h r f l => by
  cases h with
  | kd hk e h =>
    obtain ⟨v, vr, rfl, r1, r2⟩ := r.inv
    obtain ⟨v2, vr2, rfl, r3, r4⟩ := r2.inv
    obtain rfl := r4.inv_nil
    cases r3
    exact v_isi (hk.ty r1 f) e (l.same h (.bl _) f)
  | own hi c h =>
    obtain ⟨v, vr, rfl, r1, r2⟩ := r.inv
    obtain ⟨v2, vr2, rfl, r3, r4⟩ := r2.inv
    obtain rfl := r4.inv_nil
    cases r3
    obtain ⟨a, dx, vfs, rfl, e, _⟩ := hi.at_ r1 f
    exact v_isiO e c (l.same h (.bl _) f)
  | @oth x C C' fs _ _ b hi c e h =>
    obtain ⟨v, vr, rfl, r1, r2⟩ := r.inv
    obtain ⟨v2, vr2, rfl, r3, r4⟩ := r2.inv
    obtain rfl := r4.inv_nil
    cases r3
    obtain ⟨a, dx, vfs, rfl, ea, _⟩ := hi.at_ r1 f
    exact .inl ⟨.ref a, .ref C', _, _, b, rfl, .own C', .base (.ins ea c.cl c.cc c.sp c.tk c.mo), e, l.same h (.bl _) f⟩⟩
inductive aMin : AN
  | mk {i j : Int} {M : Mem} {Q : AQ} : Q (.int (if j < i then j else i)) M → aMin [.int i, .int j] M Q
theorem two_ints {F : Hp} {vs : List V} {i j : Int} (r : RvL K F vs [.int i, .int j]) : vs = [.int i, .int j] := by
  obtain ⟨v, vr, rfl, r1, r2⟩ := r.inv
  obtain ⟨v2, vr2, rfl, r3, r4⟩ := r2.inv
  obtain rfl := r4.inv_nil
  cases r1
  cases r3
  rfl
theorem o_min (hc : X.calm = true) : CallR X (.builtin "min") gMin ∧ OpN K gMin aMin := ⟨g_min hc, fun xs vs M F H B Q h r f l => by
  cases h with
  | mk h => rw [two_ints r]; exact ⟨_, _, rfl, l.same h (.int _) f⟩⟩
def gMax : List V → Hp → VK → Prop := fun xs H Q => ∃ i j, xs = [.int i, .int j] ∧ Q (.int (if j > i then j else i)) H
inductive aMax : AN
  | mk {i j : Int} {M : Mem} {Q : AQ} : Q (.int (if j > i then j else i)) M → aMax [.int i, .int j] M Q
theorem o_max (hc : X.calm = true) : CallR X (.builtin "max") gMax ∧ OpN K gMax aMax := ⟨call_max2 hc, fun xs vs M F H B Q h r f l => by
  cases h with
  | mk h => rw [two_ints r]; exact ⟨_, _, rfl, l.same h (.int _) f⟩⟩
inductive aIntC : AN
  | int {i : Int} {M : Mem} {Q : AQ} : Q (.int i) M → aIntC [.int i] M Q
  | bl {b : Bool} {M : Mem} {Q : AQ} : Q (.int (if b then 1 else 0)) M → aIntC [.bl b] M Q
  | str {z : Str} {i : Int} {M : Mem} {Q : AQ} : PySem.intText? z = some i → z.length ≤ 640 → Q (.int i) M → aIntC [.str z] M Q
theorem o_int : CallR X (.type "int") gInt ∧ OpN K gInt aIntC := ⟨g_int, fun xs vs M F H B Q h r f l => by
  obtain ⟨v, vr, rfl, r1, r2⟩ := (by cases h <;> exact r.inv : ∃ v vs', vs = v :: vs' ∧ Rv K F v (xs.headD .non) ∧ RvL K F vs' xs.tail)
  cases h with
  | int h => obtain rfl := RvL.inv_nil r2; cases r1; exact v_intI (l.same h (.int _) f)
  | bl h => obtain rfl := RvL.inv_nil r2; cases r1; exact v_intB (l.same h (.int _) f)
  | str e hl h => obtain rfl := RvL.inv_nil r2; cases r1; exact v_intS e hl (l.same h (.int _) f)⟩
inductive aStrC : AN
  | int {i : Int} {M : Mem} {Q : AQ} : i.natAbs.log2 < 1920 → Q (.str (toString i)) M → aStrC [.int i] M Q
theorem o_str : CallR X (.type "str") gStr ∧ OpN K gStr aStrC := ⟨g_str, fun xs vs M F H B Q h r f l => by
  cases h with
  | int hi h =>
    obtain ⟨v, vr, rfl, r1, r2⟩ := r.inv
    obtain rfl := r2.inv_nil
    cases r1
    exact v_str hi (l.same h (.str _) f)⟩
inductive aListC : AN
  | d {x : D} {xs : List D} {M : Mem} {Q : AQ} : Sq M x xs → Q (.lst xs) M → aListC [x] M Q
  | o {x : D} {xs : List D} {M : Mem} {Q : AQ} : Sq M x xs → (∀ a, Q (.r a) ((a, .lst xs) :: M)) → aListC [x] M Q
theorem o_list (hK : X.K = K := by rfl) : CallR X (.type "list") (gList K) ∧ OpN K (gList K) aListC := ⟨g_list hK, fun xs vs M F H B Q h r f l => by
  cases h with
  | d hs h =>
    obtain ⟨v, vr, rfl, r1, r2⟩ := r.inv
    obtain rfl := r2.inv_nil
    obtain ⟨a, us, rfl, s, q⟩ := hs.at_ r1 f
    exact ⟨a, us, rfl, s, NewL.run (.inl h) q f l⟩
  | o hs h =>
    obtain ⟨v, vr, rfl, r1, r2⟩ := r.inv
    obtain rfl := r2.inv_nil
    obtain ⟨a, us, rfl, s, q⟩ := hs.at_ r1 f
    exact ⟨a, us, rfl, s, NewL.run (.inr h) q f l⟩⟩
inductive aListO : AN
  | mk {x : D} {xs : List D} {M : Mem} {Q : AQ} : Sq M x xs → (∀ a, Q (.r a) ((a, .lst xs) :: M)) → aListO [x] M Q
theorem o_listO (hK : X.K = K := by rfl) : CallR X (.type "list") (gList K) ∧ OpN K (gList K) aListO := ⟨g_list hK, fun xs vs M F H B Q h r f l => by
  cases h with
  | mk hs h => exact (o_list hK).2 _ vs M F H B Q (.o hs h) r f l⟩
inductive aTupC : AN
  | mk {x : D} {xs : List D} {M : Mem} {Q : AQ} : Sq M x xs → Q (.tup xs) M → aTupC [x] M Q
theorem o_tup (hK : X.K = K := by rfl) : CallR X (.type "tuple") (gTupl K) ∧ OpN K (gTupl K) aTupC := ⟨g_tup hK, fun xs vs M F H B Q h r f l => by
  cases h with
  | mk hs h =>
    obtain ⟨v, vr, rfl, r1, r2⟩ := r.inv
    obtain rfl := r2.inv_nil
    cases hs with
    | t =>
      obtain ⟨a, us, rfl, s, q⟩ := r1.tup_at f
      exact ⟨a, us, rfl, .inr ⟨s, l.same h r1 f⟩⟩
    | s =>
      obtain ⟨a, us, rfl, s, q⟩ := (Ls.s (M := M)).at_ r1 f
      exact ⟨a, us, rfl, .inl ⟨s, newT h q f l⟩⟩
    | d =>
      obtain ⟨a, us, rfl, s, q⟩ := (Ls.d (M := M)).at_ r1 f
      exact ⟨a, us, rfl, .inl ⟨s, newT h q f l⟩⟩
    | o ha =>
      obtain ⟨a, us, rfl, s, q⟩ := (Ls.o ha).at_ r1 f
      exact ⟨a, us, rfl, .inl ⟨s, newT h q f l⟩⟩⟩
inductive aAll : AN
  | mk {x : D} {bs : List Bool} {M : Mem} {Q : AQ} : Ls M x (bs.map D.bl) → Q (.bl (bs.all id)) M → aAll [x] M Q
inductive aAny : AN
  | mk {x : D} {bs : List Bool} {M : Mem} {Q : AQ} : Ls M x (bs.map D.bl) → Q (.bl (bs.any id)) M → aAny [x] M Q
theorem o_all (hc : X.calm = true) (hK : X.K = K := by rfl) : CallR X (.builtin "all") (rAll K) ∧ OpN K (rAll K) aAll := ⟨g_all hc hK, fun xs vs M F H B Q h r f l => by
  cases h with
  | mk hs h =>
    obtain ⟨v, vr, rfl, r1, r2⟩ := r.inv
    obtain rfl := r2.inv_nil
    obtain ⟨a, us, rfl, s, q⟩ := hs.at_ r1 f
    rw [q.bls] at s
    exact ⟨a, _, rfl, s, l.same h (.bl _) f⟩⟩
theorem o_any (hc : X.calm = true) (hK : X.K = K := by rfl) : CallR X (.builtin "any") (rAny K) ∧ OpN K (rAny K) aAny := ⟨g_any hc hK, fun xs vs M F H B Q h r f l => by
  cases h with
  | mk hs h =>
    obtain ⟨v, vr, rfl, r1, r2⟩ := r.inv
    obtain rfl := r2.inv_nil
    obtain ⟨a, us, rfl, s, q⟩ := hs.at_ r1 f
    rw [q.bls] at s
    exact ⟨a, _, rfl, s, l.same h (.bl _) f⟩⟩
/-- len(set(t)), t a tuple of tuples of ints -/
@[reducible] def aLenSet (te : ATE) : ATE := fun xs M Q => te xs M fun x M1 => ∃ ks : List (List Int), x = .tup (ks.map fun k => .tup (k.map D.int)) ∧ ks.length < 64 ∧ ∀ n : Nat, (∃ L : List (List Int), L.Nodup ∧ L.length = n ∧ ∀ k, k ∈ L ↔ k ∈ ks) → Q (.int n) M1
theorem a_lenset {W : WX} {A : AX} {e : Expr} {te : ATE} (h : PE X e (tLenSetT K (conE K W A te))) : PE X e (conE K W A (aLenSet te)) := h.to fun σ H Q ⟨xs, M, F, B, rs, fr, lx, h, l⟩ =>
  con_step rs fr lx h fun x M1 v H1 F1 ⟨ks, e, hk, h1⟩ s1 r1 f1 _ _ => by
    subst e
    obtain ⟨a, vs, rfl, s, q⟩ := r1.tup_at f1
    have each : ∀ (ks : List (List Int)) (vs : List V), RvL K F1 vs (ks.map fun k => .tup (k.map D.int)) → ∃ ps : List (Addr × List Int), vs = ps.map (fun p => V.ref p.1) ∧ ps.map (·.2) = ks ∧ ∀ p ∈ ps, SqT K H1 p.1 (p.2.map V.int) := by
      intro ks
      induction ks with
      | nil => intro vs q; exact ⟨[], q.inv_nil, rfl, by simp⟩
      | cons k ks ih =>
        intro vs q
        obtain ⟨v, vr, rfl, r1, r2⟩ := RvL.inv q
        obtain ⟨ps, e1, e2, e3⟩ := ih vr r2
        obtain ⟨b, us, rfl, s2, q2⟩ := r1.tup_at f1
        rw [q2.ints] at s2
        refine ⟨(b, k) :: ps, by rw [List.map_cons, ← e1], by rw [List.map_cons, e2], fun p hp => ?_⟩
        rcases List.mem_cons.mp hp with rfl | hp
        · exact s2
        · exact e3 p hp
    obtain ⟨ps, e1, e2, e3⟩ := each ks vs q
    rw [e1] at s
    refine ⟨a, ps, rfl, s, e3, by rw [← e2, List.length_map] at hk; exact hk, fun n ⟨L, h1', h2', h3'⟩ => l _ _ _ _ _ (h1 n ⟨L, h1', h2', by rw [← e2]; exact h3'⟩) s1 (.int _) f1⟩
/-! ### methods -/
inductive aApp : AM
  | mk {a : Addr} {xs : List D} {d : D} {u : Ob → Mem} {M : Mem} {Q : AQ} : At M a (.lst xs) u → xs.length < sizeLine → Q .non (u (.lst (xs ++ [d]))) → aApp (.r a) [d] M Q
theorem o_app : OpM K rAppend aApp := fun x xs v vs M F H B Q h r1 r f l => by
  cases h with
  | mk ha hl h =>
    cases r1
    obtain ⟨w, vr, rfl, r2, r3⟩ := r.inv
    obtain rfl := r3.inv_nil
    obtain ⟨us, e, q⟩ := f.at_ _ ha.mem
    exact ⟨_, us, w, rfl, rfl, e, by rw [q.1]; exact hl, l.same h .non (f.put ha ⟨_, upd_same, q.append (.cons r2 .nil)⟩)⟩
inductive aExt : AM
  | mk {a : Addr} {xs ys : List D} {d : D} {u : Ob → Mem} {M : Mem} {Q : AQ} : At M a (.lst xs) u → (d = .lst ys ∨ ∃ b u', d = .r b ∧ At M b (.lst ys) u') → xs.length + ys.length ≤ sizeLine → Q .non (u (.lst (xs ++ ys))) → aExt (.r a) [d] M Q
theorem o_ext : OpM K rExtend aExt := fun x xs v vs M F H B Q h r1 r f l => by
  cases h with
  | mk ha hy hl h =>
    cases r1
    obtain ⟨w, vr, rfl, r2, r3⟩ := r.inv
    obtain rfl := r3.inv_nil
    obtain ⟨us, e, q⟩ := f.at_ _ ha.mem
    rcases hy with rfl | ⟨b, u', rfl, hb⟩
    · obtain ⟨b, ws, rfl, e2, q2⟩ := r2.lst_inv0
      exact ⟨_, b, us, ws, rfl, rfl, e, f.sub _ _ e2, by rw [q.1, q2.1]; exact hl, l.same h .non (f.put ha ⟨_, upd_same, q.append q2⟩)⟩
    · cases r2
      obtain ⟨ws, e2, q2⟩ := f.at_ _ hb.mem
      exact ⟨_, b, us, ws, rfl, rfl, e, e2, by rw [q.1, q2.1]; exact hl, l.same h .non (f.put ha ⟨_, upd_same, q.append q2⟩)⟩
inductive aPop : AM
  | mk {a : Addr} {xs : List D} {d : D} {u : Ob → Mem} {M : Mem} {Q : AQ} : At M a (.lst xs) u → xs[xs.length - 1]? = some d → Q d (u (.lst xs.dropLast)) → aPop (.r a) [] M Q
theorem RvL.dropLast {F : Hp} {vs : List V} {ds : List D} (r : RvL K F vs ds) : RvL K F vs.dropLast ds.dropLast := by
  rw [List.dropLast_eq_take, List.dropLast_eq_take, r.1]
  exact r.take _
theorem o_pop : OpM K rPop aPop := fun x xs v vs M F H B Q h r1 r f l => by
  cases h with
  | mk ha hl h =>
    cases r1
    obtain rfl := r.inv_nil
    obtain ⟨us, e, q⟩ := f.at_ _ ha.mem
    obtain ⟨w, ew, rw'⟩ := q.get hl
    exact ⟨_, us, w, rfl, rfl, e, by rw [q.1]; exact ew, l _ _ _ _ _ h (Same.refl F) rw' (f.put ha ⟨_, upd_same, q.dropLast⟩)⟩
inductive aJoin : AM
  | mk {a : Str} {x : D} {ys : List Str} {M : Mem} {Q : AQ} : Sq M x (ys.map D.str) → (ys.map (·.length)).sum + ys.length * a.length ≤ 16777216 → Q (.str (Txt.join a ys)) M → aJoin (.str a) [x] M Q
theorem o_join : OpM K (gJoin K) aJoin := fun x xs v vs M F H B Q h r1 r f l => by
  cases h with
  | mk hs hl h =>
    cases r1
    obtain ⟨w, vr, rfl, r2, r3⟩ := r.inv
    obtain rfl := r3.inv_nil
    obtain ⟨a, us, rfl, s, q⟩ := hs.at_ r2 f
    rw [q.strs] at s
    exact ⟨_, a, _, rfl, rfl, s, hl, l.same h (.str _) f⟩
inductive aSplit : AM
  | d {a b : Str} {M : Mem} {Q : AQ} : (b.length == 0) = false → a.length + 2 ≤ sizeLine → Q (.lst ((Txt.split a b).map D.str)) M → aSplit (.str a) [.str b] M Q
theorem rvl_strs {F : Hp} (zs : List Str) : RvL K F (zs.map V.str) (zs.map D.str) := ⟨by simp, fun i v d e1 e2 => by
  rw [List.getElem?_map] at e1 e2
  cases q : zs[i]? with
  | none => rw [q] at e1; cases e1
  | some z => rw [q] at e1 e2; cases e1; cases e2; exact .str z⟩
theorem o_split : OpM K gSplit aSplit := fun x xs v vs M F H B Q h r1 r f l => by
  cases h with
  | d hb hl h =>
    cases r1
    obtain ⟨w, vr, rfl, r2, r3⟩ := r.inv
    obtain rfl := r3.inv_nil
    cases r2
    exact ⟨_, _, rfl, rfl, hb, hl, NewL.run (.inl h) (rvl_strs _) f l⟩
def gStarts : V → List V → Hp → VK → Prop := fun x xs H Q => ∃ a b, x = .str a ∧ xs = [.str b] ∧ Q (.bl (Txt.startswith a b)) H
inductive aStarts : AM
  | mk {a b : Str} {M : Mem} {Q : AQ} : Q (.bl (Txt.startswith a b)) M → aStarts (.str a) [.str b] M Q
theorem g_starts : MtR X "str.startswith" gStarts := mt_startswith
theorem o_starts : OpM K gStarts aStarts := fun x xs v vs M F H B Q h r1 r f l => by
  cases h with
  | mk h =>
    cases r1
    obtain ⟨w, vr, rfl, r2, r3⟩ := r.inv
    obtain rfl := r3.inv_nil
    cases r2
    exact ⟨_, _, rfl, rfl, l.same h (.bl _) f⟩
/-! ### f-strings -/
@[reducible] def aFmt (te : ATE) : ATE := fun xs M Q => te xs M fun x M1 => (∃ y : Str, x = .str y ∧ y.length ≤ sizeLine ∧ Q (.str y) M1) ∨ ∃ i : Int, x = .int i ∧ i.natAbs.log2 < 1920 ∧ Q (.str (toString i)) M1
theorem a_fmt {W : WX} {A : AX} {e : Expr} {te : ATE} {pos : Pos} (h : PE X e (conE K W A te)) : PE X (.FormattedValue e (-1) none pos) (conE K W A (aFmt te)) := (pe_fmt h).to fun σ H Q ⟨xs, M, F, B, rs, fr, lx, h, l⟩ =>
  con_step rs fr lx h fun x M1 v H1 F1 h1 s1 r1 f1 _ _ => by
    rcases h1 with ⟨y, e, hl, h1⟩ | ⟨i, e, hl, h1⟩
    · subst e; cases r1; exact .inl ⟨y, rfl, hl, l _ _ _ _ _ h1 s1 (.str _) f1⟩
    · subst e; cases r1; exact .inr ⟨i, rfl, hl, l _ _ _ _ _ h1 s1 (.str _) f1⟩
def aJs : List ATE → Str → AS → Mem → (Str → Mem → Prop) → Prop
  | [], acc, _, M, Q => Q acc M
  | t :: ts, acc, xs, M, Q => t xs M fun x M1 => ∃ y : Str, x = .str y ∧ (acc ++ y).length ≤ sizeLine ∧ aJs ts (acc ++ y) xs M1 Q
theorem js_con {W : WX} {A : AX} : ∀ (ts : List ATE) (acc : Str) (σ : L2.St) (xs : AS) (M : Mem) (F H : Hp) (B : Str → Mem → Prop) (Q : Str → Hp → Prop), Rs K F xs σ → Fr K M F H → LnX K F A W → aJs ts acc xs M B → (∀ z M' H' F', B z M' → Same F F' → Fr K M' F' H' → Q z H') → tJs (ts.map (conE K W A)) acc σ H Q
  | [], acc, σ, xs, M, F, H, B, Q, rs, fr, lx, h, l => l _ _ _ _ h (Same.refl F) fr
  | t :: ts, acc, σ, xs, M, F, H, B, Q, rs, fr, lx, h, l => con_step rs fr lx h fun x M1 v H1 F1 ⟨y, e, hy, h1⟩ s1 r1 f1 rs1 lx1 => by
    subst e
    cases r1
    exact ⟨y, rfl, hy, js_con ts _ σ xs M1 F1 H1 B Q rs1 f1 lx1 h1 fun z M' H' F' b s f => l z M' H' F' b (s1.trans s) f⟩
@[reducible] def aJoined (ts : List ATE) : ATE := fun xs M Q => aJs ts Str.empty xs M fun z M1 => Q (.str z) M1
inductive AJ (X : Cx) (K : PySem.W.Frag) (W : WX) (A : AX) : List Expr → List ATE → Prop where
  | nil : AJ X K W A [] []
  | cons {e : Expr} {t : ATE} {es : List Expr} {ts : List ATE} (h : PE X e (conE K W A t)) (r : AJ X K W A es ts) : AJ X K W A (e :: es) (t :: ts)
theorem AJ.pj {W : WX} {A : AX} {es : List Expr} {ts : List ATE} (h : AJ X K W A es ts) : PJ X es (ts.map (conE K W A)) := by
  induction h with
  | nil => exact .nil
  | cons h _ ih => exact .cons h ih
theorem a_joined {W : WX} {A : AX} {v1 v2 : Expr} {rest : List Expr} {ts : List ATE} {pos : Pos} (h : AJ X K W A (v1 :: v2 :: rest) ts) : PE X (.JoinedStr (v1 :: v2 :: rest) pos) (conE K W A (aJoined ts)) :=
  (pe_joined h.pj).to fun σ H Q ⟨xs, M, F, B, rs, fr, lx, h, l⟩ => js_con ts _ σ xs M F H _ _ rs fr lx h fun z M' H' F' b s f => l _ _ _ _ _ b s (.str z) f
/-- -x -/
def aNeg : D → Mem → AQ → Prop := fun x M Q => ∃ i, x = .int i ∧ Q (.int (-i)) M
theorem o_neg : UnR X (unaryOp .USub) (rU fun i => .int (-i)) ∧ Op1 K (rU fun i => .int (-i)) aNeg := ⟨un_neg, fun x v M F H B Q ⟨i, e, h⟩ r f l => by
  subst e
  cases r
  exact ⟨i, rfl, l.same h (.int _) f⟩⟩
end
/-! ### zip -/
section
variable {K : PySem.W.Frag} {W : WX} {A : AX} {X : Cx} {F : Hp}
def zipD (xs ys : List D) : List D := (xs.zip ys).map fun p => .tup [p.1, p.2]
inductive ItsZ : List D → List D → Prop
  | l {as bs : List D} : ItsZ [.lst as, .lst bs] (zipD as bs)
  | t {as bs : List D} : ItsZ [.tup as, .tup bs] (zipD as bs)
@[reducible] def aiZip (t : ATA) : ATI := fun xs M R => t xs M fun ds M1 => ∃ its, ItsZ ds its ∧ R its M1
theorem zipD_len {xs ys : List D} : (zipD xs ys).length = min xs.length ys.length := by unfold zipD; rw [List.length_map, List.length_zip]
theorem zipD_get {xs ys : List D} {i : Nat} {d : D} (h : (zipD xs ys)[i]? = some d) : ∃ x y, xs[i]? = some x ∧ ys[i]? = some y ∧ d = .tup [x, y] := by
  unfold zipD at h
  rw [List.getElem?_map] at h
  obtain ⟨p, e, rfl⟩ := Option.map_eq_some_iff.mp h
  rw [List.getElem?_zip_eq_some] at e
  exact ⟨_, _, e.1, e.2, rfl⟩
theorem walk_zipT {a b : Addr} {xs ys : List V} {n : Nat} (hn : n = min xs.length ys.length) : Walk (ItzT K a b) n (fun H => SqT K H a xs ∧ SqT K H b ys) (YPair (fun i => xs[i]?) (fun i => ys[i]?)) := by
  subst hn
  refine ⟨fun i _ hi q => ?_, fun _ q => ⟨xs, ys, q.1, q.2, by omega⟩, fun i H v H' _ q y => ?_⟩
  · have h1 : i < xs.length := by omega
    have h2 : i < ys.length := by omega
    exact ⟨xs, ys, xs[i], ys[i], q.1, q.2, by simp [h1], by simp [h2]⟩
  · obtain ⟨T, x, z, h1, h2, h3, h4, h5⟩ := y
    exact ⟨T, x, z, h1, h2, h3, h4 xs q.1, h5 ys q.2⟩
theorem wk_pair {J : It} {G : Hp → Prop} {vs ws : List V} {as bs : List D} (rv : RvL K F vs as) (rw' : RvL K F ws bs) (w : Walk J (zipD as bs).length G (YPair (fun i => vs[i]?) (fun i => ws[i]?))) (hG : ∀ M' F' H', Same F F' → Fr K M' F' H' → G H') : Wk K F (zipD as bs) J :=
  ⟨G, _, w, hG, fun i H1 v H2 F1 M1 d ⟨T, x, y, e1, hn, e2, ex, ey⟩ ed s f => by
    subst e1 e2
    obtain ⟨x', y', e3, e4, rfl⟩ := zipD_get ed
    obtain ⟨s2, f2⟩ := f.data (ho := .tup [x, y]) hn
    exact ⟨_, s2, f2, .of_tup (SqT.of upd_same) (.cons ((rv.2 i x x' ex e3).same (s.trans s2)) (.cons ((rw'.2 i y y' ey e4).same (s.trans s2)) .nil))⟩⟩
theorem ai_zip {tg e : Expr} {t : ATA} (h : PI X tg e (iZipA X.K (conA K W A t))) (hK : X.K = K := by rfl) : PI X tg e (conI K W A (aiZip t)) := by
  subst hK
  exact h.to fun σ H R ⟨xs, M, F, B, rs, fr, lx, h, l⟩ => conA_step rs fr lx h fun ds M1 vs H1 F1 ⟨its, hk, h1⟩ s1 r1 f1 _ _ => by
    cases hk with
    | l =>
      obtain ⟨v, vr, rfl, r2, r3⟩ := r1.inv
      obtain ⟨v2, vr2, rfl, r4, r5⟩ := r3.inv
      obtain rfl := r5.inv_nil
      obtain ⟨a, us, rfl, sa, qa⟩ := r2.lst_inv
      obtain ⟨b, ws, rfl, sb, qb⟩ := r4.lst_inv
      exact ⟨a, b, us, ws, rfl, .inl ⟨sa.ext f1.sub, sb.ext f1.sub, l _ _ _ _ _ h1 s1 f1 (wk_pair qa qb (walk_zip (by rw [zipD_len, qa.1, qb.1])) fun M' F' H' s f => ⟨(sa.ext s).ext f.sub, (sb.ext s).ext f.sub⟩)⟩⟩
    | t =>
      obtain ⟨v, vr, rfl, r2, r3⟩ := r1.inv
      obtain ⟨v2, vr2, rfl, r4, r5⟩ := r3.inv
      obtain rfl := r5.inv_nil
      obtain ⟨a, us, rfl, sa, qa⟩ := r2.tup_inv
      obtain ⟨b, ws, rfl, sb, qb⟩ := r4.tup_inv
      exact ⟨a, b, us, ws, rfl, .inr ⟨sa.ext f1.sub, sb.ext f1.sub, l _ _ _ _ _ h1 s1 f1 (wk_pair qa qb (walk_zipT (by rw [zipD_len, qa.1, qb.1])) fun M' F' H' s f => ⟨(sa.ext s).ext f.sub, (sb.ext s).ext f.sub⟩)⟩⟩
end
end AV

set_option Elab.async false
set_option linter.all false
set_option maxRecDepth 100000
set_option maxHeartbeats 4000000
/-! A8: the steps of a reading over abstract values (own work). -/
namespace AV
open PySem PySem.Spec PyProof.Rows L2 G TL
section
variable {K : PySem.W.Frag} {xs : AS} {M : Mem} {Q : AQ} {B : AEnds} {ta tb tc te : ATE} {t u : ATT} {tu tw : ATS} {tr : ATA} {g : ATG} {gs : ATGs} {d x y z : D} {i j : Int} {n : Nat} {ar ar' : A2} {a C dd : Addr} {o : Ob} {fs : List (Str × D)} {f : Str} {asp : ASp} {A : AX} {b : Bool}
theorem s_seq (h : tu { B with nx := Nx K fun xs' M' => tw B xs' M' } xs M) : aSeq K tu tw B xs M := h
theorem s_cut (I : AS → Mem → Prop) (h : tu { B with nx := Nx K I } xs M) (k : ∀ xs' M', I xs' M' → tw B xs' M') : aCut K tu tw B xs M := ⟨I, h, k⟩
theorem s_cut0 (h : tu { B with nx := Nx K (tw B) } xs M) : aCut K tu tw B xs M := ⟨tw B, h, fun _ _ q => q⟩
theorem s_next (h : B.nx xs M) : aNext B xs M := h
theorem s_asg (h : te xs M fun d M1 => g d xs M1 B.nx) : aAsg te g B xs M := h
theorem s_drop (h : te xs M fun _ M1 => B.nx xs M1) : aDrop te B xs M := h
theorem s_ret (h : te xs M (NxV K B.rt)) : aRet K te B xs M := h
theorem s_retN (h : B.rt .non M) : aRetN B xs M := h
theorem s_brk (h : B.bk xs M) : aBrk B xs M := h
theorem s_cnt (h : B.ct xs M) : aCnt B xs M := h
theorem s_ifS (h : t xs M fun b M1 => if b = true then tu B xs M1 else tw B xs M1) : aIfS t tu tw B xs M := h
theorem s_var {i : Nat} (h : xs[i]? = some (some d)) (k : Q d M) : aVar i xs M Q := ⟨d, h, k⟩
theorem x_var {i : Nat} {R : D → Prop} (h : xs[i]? = some (some d)) (k : R d) : ∃ d, xs[i]? = some (some d) ∧ R d := ⟨d, h, k⟩
theorem x_aug {i : Nat} {m : Int} {R : Int → Prop} (h : xs[i]? = some (some (.int m))) (q : R m) : ∃ n, xs[i]? = some (some (.int n)) ∧ R n := ⟨m, h, q⟩
theorem x_int {R : Int → Prop} (h : R i) : ∃ j, D.int i = .int j ∧ R j := ⟨i, rfl, h⟩
theorem x_gtup {ds : List D} {R : List D → Prop} (hl : ds.length = n) (h : R ds) : ∃ es, D.tup ds = .tup es ∧ es.length = n ∧ R es := ⟨ds, rfl, hl, h⟩
theorem x_gcons {ds : List D} {R : D → List D → Prop} (h : R d ds) : ∃ e r, d :: ds = e :: r ∧ R e r := ⟨d, ds, rfl, h⟩
theorem x_gnil {R : Prop} (h : R) : ([] : List D) = [] ∧ R := ⟨rfl, h⟩
theorem s_c (k : Q d M) : aC d xs M Q := k
theorem s_op (h : ta xs M fun x M1 => tb xs M1 fun y M2 => ar x y M2 Q) : aOp ar ta tb xs M Q := h
theorem s_test {R : Bool → Mem → Prop} (h : te xs M fun x M' => ∃ k, x = .bl k ∧ R k M') : aTest te xs M R := h
theorem s_exbl {R : Bool → Prop} (h : R b) : ∃ k, D.bl b = .bl k ∧ R k := ⟨b, rfl, h⟩
theorem s_exint {R : Int → Prop} (h : R i) : ∃ k, D.int i = .int k ∧ R k := ⟨i, rfl, h⟩
theorem s_un {r : D → Mem → AQ → Prop} (h : ta xs M fun x M1 => r x M1 Q) : aUn r ta xs M Q := h
theorem s_chain (h : ta xs M fun x M1 => tb xs M1 fun y M2 => ar x y M2 fun z M3 => ∃ k, z = .bl k ∧ if k = true then tc xs M3 fun w M4 => ar' y w M4 Q else Q (.bl false) M3) : aChain ar ar' ta tb tc xs M Q := h
theorem s_cons {R : List D → Mem → Prop} (h : te xs M fun x M1 => tr xs M1 fun ys M2 => R (x :: ys) M2) : aCons te tr xs M R := h
theorem s_nil {R : List D → Mem → Prop} (h : R [] M) : aNil xs M R := h
theorem s_cb {r : AN} (h : tr xs M fun ds M1 => r ds M1 Q) : aCB r tr xs M Q := h
theorem s_call (h : tr xs M fun ds M1 => asp ds M1 Q noX) : aCall asp tr xs M Q := h
theorem s_callX (h : tr xs M fun ds M1 => asp ds M1 Q fun C fs M' => A C fs xs M') : aCallX A asp tr xs M Q := h
theorem s_meth {m : Str} (h : te xs M fun x M1 => ∃ fs, InsAt M1 x C fs ∧ fs.lookup m = none ∧ tr xs M1 fun ds M2 => asp (x :: ds) M2 Q noX) : aMeth C m asp te tr xs M Q := h
theorem s_insex {R : List (Str × D) → Prop} {m : Str} (h : InsAt M x C fs) (l : fs.lookup m = none) (k : R fs) : ∃ fs, InsAt M x C fs ∧ fs.lookup m = none ∧ R fs := ⟨fs, h, l, k⟩
theorem s_tup (h : tr xs M fun ys M1 => ys.length ≤ sizeLine ∧ Q (.tup ys) M1) : aTup tr xs M Q := h
theorem s_lst (h : tr xs M fun ys M1 => ys.length ≤ sizeLine ∧ Q (.lst ys) M1) : aLst tr xs M Q := h
theorem s_lstO (h : tr xs M fun ys M1 => ys.length ≤ sizeLine ∧ ∀ a, Q (.r a) ((a, .lst ys) :: M1)) : aLstO tr xs M Q := h
theorem s_bm {T : String} {r : AM} (h : te xs M fun x M1 => x.isK M1 T ∧ tr xs M1 fun ys M2 => r x ys M2 Q) : aBM T r te tr xs M Q := h
theorem s_bm0 {T : String} {r : AM} (h : te xs M fun x M1 => x.isK M1 T ∧ r x [] M1 Q) : aBM0 T r te xs M Q := h
theorem s_isKL {ys : List D} {v : Ob → Mem} {R : Prop} (h : At M a (.lst ys) v) (k : R) : (D.r a).isK M "list" ∧ R := ⟨⟨ys, v, h⟩, k⟩
theorem s_isKD {ys : List D} {R : Prop} (k : R) : (D.lst ys).isK M "list" ∧ R := ⟨trivial, k⟩
theorem s_isKS {z : Str} {R : Prop} (k : R) : (D.str z).isK M "str" ∧ R := ⟨trivial, k⟩
theorem s_fld (h : te xs M fun x M1 => ∃ C fs d, InsAt M1 x C fs ∧ Cls K C ∧ NoAttr K C f ∧ fs.lookup f = some d ∧ Q d M1) : aFld K te f xs M Q := h
theorem s_fldex {R : D → Prop} (h : InsAt M x C fs) (c : Cls K C) (n : PySem.W.findIn K (.ref C) f = some none) (l : fs.lookup f = some d) (k : R d) : ∃ C fs d, InsAt M x C fs ∧ Cls K C ∧ NoAttr K C f ∧ fs.lookup f = some d ∧ R d := ⟨C, fs, d, h, c, n, l, k⟩
theorem s_fldS (h : tb xs M fun y M1 => ta xs M1 fun x M2 => ∃ a C fs fs' u, x = .r a ∧ At M2 a (.ins C fs) u ∧ Cls K C ∧ NoAttr K C f ∧ fs.length < 1000 ∧ PutR f y fs fs' ∧ B.nx xs (u (.ins C fs'))) : aFldS K ta tb f B xs M := h
theorem s_fldSex {fs' : List (Str × D)} {v : Ob → Mem} {R : Mem → Prop} (h : At M a (.ins C fs) v) (c : Cls K C) (n : PySem.W.findIn K (.ref C) f = some none) (l : fs.length < 1000) (p : PutR f y fs fs') (k : R (v (.ins C fs'))) :
    ∃ a' C fs fs' u, D.r a = .r a' ∧ At M a' (.ins C fs) u ∧ Cls K C ∧ NoAttr K C f ∧ fs.length < 1000 ∧ PutR f y fs fs' ∧ R (u (.ins C fs')) := ⟨a, C, fs, fs', v, rfl, h, c, n, l, p, k⟩
theorem s_fldA {k : Int → Int → Int} (h : ta xs M fun x M1 => ∃ a C fs i, x = .r a ∧ InsAt M1 (.r a) C fs ∧ Cls K C ∧ NoAttr K C f ∧ fs.lookup f = some (.int i) ∧
    tb xs M1 fun y M2 => ∃ j fs' fs2 u, y = .int j ∧ At M2 a (.ins C fs') u ∧ fs'.length < 1000 ∧ PutR f (.int (k i j)) fs' fs2 ∧ B.nx xs (u (.ins C fs2))) : aFldA K ta tb k f B xs M := h
theorem s_fldAex1 {R : Addr → Addr → Int → Prop} (h : InsAt M (.r a) C fs) (c : Cls K C) (n : PySem.W.findIn K (.ref C) f = some none) (l : fs.lookup f = some (.int i)) (k : R a C i) : ∃ a' C fs i, D.r a = .r a' ∧ InsAt M (.r a') C fs ∧ Cls K C ∧ NoAttr K C f ∧ fs.lookup f = some (.int i) ∧ R a' C i := ⟨a, C, fs, i, rfl, h, c, n, l, k⟩
theorem s_fldAex2 {k : Int → Int → Int} {fs2 : List (Str × D)} {v : Ob → Mem} {R : Mem → Prop} (h : At M a (.ins C fs) v) (l : fs.length < 1000) (p : PutR f (.int (k i j)) fs fs2) (q : R (v (.ins C fs2))) :
    ∃ j' fs' fs2 u, D.int j = .int j' ∧ At M a (.ins C fs') u ∧ fs'.length < 1000 ∧ PutR f (.int (k i j')) fs' fs2 ∧ R (u (.ins C fs2)) := ⟨j, fs, fs2, v, rfl, h, l, p, q⟩
theorem s_aug {i : Nat} {m : Int} {k : Int → Int → Int} (h : xs[i]? = some (some (.int m))) (q : te xs M fun y M1 => ∃ j, y = .int j ∧ B.nx (xs.set i (some (.int (k m j)))) M1) : aAug i te k B xs M := ⟨m, h, q⟩
theorem s_sl {r : D → Option Int → Option Int → Mem → AQ → Prop} {tl th : ATO} (h : te xs M fun x M1 => tl xs M1 fun l M2 => th xs M2 fun u M3 => r x l u M3 Q) : aSl r te tl th xs M Q := h
theorem s_nopart {R : Option Int → Mem → Prop} (h : R none M) : aNoPart xs M R := h
theorem s_part {R : Option Int → Mem → Prop} (h : te xs M fun x M1 => ∃ i, x = .int i ∧ R (some i) M1) : aPart te xs M R := h
theorem s_and {R : Bool → Mem → Prop} (h : t xs M fun c M1 => if c = true then u xs M1 R else R false M1) : aAnd t u xs M R := h
theorem s_or {R : Bool → Mem → Prop} (h : t xs M fun c M1 => if c = true then R true M1 else u xs M1 R) : aOr t u xs M R := h
theorem s_not {R : Bool → Mem → Prop} (h : t xs M fun c M1 => R (!c) M1) : aNot t xs M R := h
theorem s_if (h : t xs M fun c M1 => if c = true then ta xs M1 Q else tb xs M1 Q) : aIf t ta tb xs M Q := h
theorem s_orT (h : ta xs M fun x M1 => ∃ k, x.tru M1 k ∧ if k = true then Q x M1 else tb xs M1 Q) : aOrT ta tb xs M Q := h
theorem s_andT (h : ta xs M fun x M1 => ∃ k, x.tru M1 k ∧ if k = true then tb xs M1 Q else Q x M1) : aAndT ta tb xs M Q := h
theorem s_notT (h : ta xs M fun x M1 => ∃ k, x.tru M1 k ∧ Q (.bl (!k)) M1) : aNotT ta xs M Q := h
theorem s_tr {R : Bool → Mem → Prop} (h : te xs M fun x M' => ∃ k, x.tru M' k ∧ R k M') : aTr te xs M R := h
theorem s_tbl {R : Bool → Prop} (h : R b) : ∃ k, (D.bl b).tru M k ∧ R k := ⟨b, rfl, h⟩
theorem s_tnon {R : Bool → Prop} (h : R false) : ∃ k, D.non.tru M k ∧ R k := ⟨_, rfl, h⟩
theorem s_tint {R : Bool → Prop} (h : R (i != 0)) : ∃ k, (D.int i).tru M k ∧ R k := ⟨_, rfl, h⟩
theorem s_tstr {R : Bool → Prop} {z : Str} (l : z.length ≤ sizeLine) (h : R ((z.length : Int) != 0)) : ∃ k, (D.str z).tru M k ∧ R k := ⟨_, ⟨l, rfl⟩, h⟩
theorem s_tlst {R : Bool → Prop} {ys : List D} (h : R (!ys.isEmpty)) : ∃ k, (D.lst ys).tru M k ∧ R k := ⟨_, rfl, h⟩
theorem s_ttup {R : Bool → Prop} {ys : List D} (h : R (!ys.isEmpty)) : ∃ k, (D.tup ys).tru M k ∧ R k := ⟨_, rfl, h⟩
theorem s_to {R : Bool → Prop} {ys : List D} {v : Ob → Mem} (l : At M a (.lst ys) v) (h : R (!ys.isEmpty)) : ∃ k, (D.r a).tru M k ∧ R k := ⟨_, ⟨ys, v, l, rfl⟩, h⟩
theorem s_for {wi : ATI} (h : wi xs M fun its M1 => forIs K g tu B its xs M1) : aFor K wi g tu B xs M := h
theorem s_iof {R : List D → Mem → Prop} (h : te xs M fun x M1 => ∃ its, Its x its ∧ R its M1) : aiOf te xs M R := h
theorem s_itl {R : List D → Prop} {ys : List D} (h : R ys) : ∃ its, Its (.lst ys) its ∧ R its := ⟨ys, .lst, h⟩
theorem s_itt {R : List D → Prop} {ys : List D} (h : R ys) : ∃ its, Its (.tup ys) its ∧ R its := ⟨ys, .tup, h⟩
theorem s_its {R : List D → Prop} {z : Str} (h : R (chars z)) : ∃ its, Its (.str z) its ∧ R its := ⟨_, .str, h⟩
theorem s_itc {R : List D → Prop} {ys : List D} (h : R ys) : ∃ its, Its (.scr ys) its ∧ R its := ⟨ys, .scr, h⟩
theorem s_r1 {R : List D → Mem → Prop} (h : tr xs M fun ds M1 => ∃ j : Int, ds = [.int j] ∧ (-(2 ^ 62) ≤ j ∧ j < 2 ^ 62) ∧ R ((List.range j.toNat).map fun (i : Nat) => D.int i) M1) : aiR1 tr xs M R := h
theorem s_r1x {R : Int → Prop} (b : -(2 ^ 62) ≤ j ∧ j < 2 ^ 62) (h : R j) : ∃ k : Int, [D.int j] = [.int k] ∧ (-(2 ^ 62) ≤ k ∧ k < 2 ^ 62) ∧ R k := ⟨j, rfl, b, h⟩
theorem s_r2 {R : List D → Mem → Prop} (h : tr xs M fun ds M1 => ∃ i j : Int, ds = [.int i, .int j] ∧ (-(2 ^ 62) ≤ i ∧ i < 2 ^ 62 ∧ -(2 ^ 62) ≤ j ∧ j < 2 ^ 62) ∧ R ((List.range (j - i).toNat).map fun (k : Nat) => D.int (i + k)) M1) : aiR2 tr xs M R := h
theorem s_r2x {R : Int → Int → Prop} (b : -(2 ^ 62) ≤ i ∧ i < 2 ^ 62 ∧ -(2 ^ 62) ≤ j ∧ j < 2 ^ 62) (h : R i j) : ∃ k l : Int, [D.int i, D.int j] = [.int k, .int l] ∧ (-(2 ^ 62) ≤ k ∧ k < 2 ^ 62 ∧ -(2 ^ 62) ≤ l ∧ l < 2 ^ 62) ∧ R k l := ⟨i, j, rfl, b, h⟩
theorem s_zipL {as bs : List D} {R : List D → Prop} (h : R (zipD as bs)) : ∃ its, ItsZ [.lst as, .lst bs] its ∧ R its := ⟨_, .l, h⟩
theorem s_zipT {as bs : List D} {R : List D → Prop} (h : R (zipD as bs)) : ∃ its, ItsZ [.tup as, .tup bs] its ∧ R its := ⟨_, .t, h⟩
theorem s_lc {fin : Fin} {wi : ATI} {tt : ATT} {vs : List Nat} (h : wi xs M fun its M1 => ∀ a, lcIs a g tt te (awipe xs vs) its ((a, .lst []) :: M1) fun acc M2 => fin a acc M2 Q) : aLc fin wi g tt te vs xs M Q := h
theorem s_ayes {R : Bool → Mem → Prop} (h : R true M) : aYes xs M R := h
theorem s_mk {fin : FinI} (h : tr xs M fun ds M1 => ∀ x, asp (.r x :: ds) ((x, .ins C []) :: M1) (fun d M2 => d = .non ∧ fin x C M2 Q) fun C fs M' => A C fs xs M') : aMk A fin C asp tr xs M Q := h
theorem s_raise (h : tr xs M fun ds M1 => ∃ d, ds = [d] ∧ d.fmt ∧ A C [(f, d)] xs M1) : aRaise A C f tr B xs M := h
theorem s_raiseX {R : D → Prop} (h : d.fmt) (k : R d) : ∃ e, [d] = [e] ∧ e.fmt ∧ R e := ⟨d, rfl, h, k⟩
theorem s_xf (h : te xs M fun x M1 => ∃ fs u d, x = .r a ∧ ExK K C ∧ PySem.W.findIn K (.ref C) f = some none ∧ At M1 dd (.xd fs) u ∧ fs.lookup f = some d ∧ Q d M1) : aXf K a C dd f te xs M Q := h
theorem s_xfex {v : Ob → Mem} {R : D → Prop} (e : ExK K C) (n : PySem.W.findIn K (.ref C) f = some none) (h : At M dd (.xd fs) v) (l : fs.lookup f = some d) (k : R d) : ∃ fs u d, D.r a = .r a ∧ ExK K C ∧ PySem.W.findIn K (.ref C) f = some none ∧ At M dd (.xd fs) u ∧ fs.lookup f = some d ∧ R d := ⟨fs, v, d, rfl, e, n, h, l, k⟩
theorem s_joined {ts : List ATE} (h : aJs ts Str.empty xs M fun z M1 => Q (.str z) M1) : aJoined ts xs M Q := h
theorem s_jnil {acc : Str} {R : Str → Mem → Prop} (h : R acc M) : aJs [] acc xs M R := h
theorem s_jcons {t : ATE} {ts : List ATE} {acc : Str} {R : Str → Mem → Prop} (h : t xs M fun x M1 => ∃ y : Str, x = .str y ∧ (acc ++ y).length ≤ sizeLine ∧ aJs ts (acc ++ y) xs M1 R) : aJs (t :: ts) acc xs M R := h
theorem s_jx {y acc : Str} {R : Str → Prop} (l : (acc ++ y).length ≤ sizeLine) (h : R y) : ∃ y' : Str, D.str y = .str y' ∧ (acc ++ y').length ≤ sizeLine ∧ R y' := ⟨y, rfl, l, h⟩
theorem s_fmt (h : te xs M fun x M1 => (∃ y : Str, x = .str y ∧ y.length ≤ sizeLine ∧ Q (.str y) M1) ∨ ∃ i : Int, x = .int i ∧ i.natAbs.log2 < 1920 ∧ Q (.str (toString i)) M1) : aFmt te xs M Q := h
theorem s_fmtI {R R' : Str → Prop} (h : i.natAbs.log2 < 1920) (k : R' (toString i)) : (∃ y : Str, D.int i = .str y ∧ y.length ≤ sizeLine ∧ R y) ∨ ∃ i' : Int, D.int i = .int i' ∧ i'.natAbs.log2 < 1920 ∧ R' (toString i') := .inr ⟨i, rfl, h, k⟩
theorem s_fmtS {z : Str} {R : Str → Prop} {R' : Int → Prop} (h : z.length ≤ sizeLine) (k : R z) : (∃ y : Str, D.str z = .str y ∧ y.length ≤ sizeLine ∧ R y) ∨ ∃ i' : Int, D.str z = .int i' ∧ i'.natAbs.log2 < 1920 ∧ R' i' := .inl ⟨z, rfl, h, k⟩
theorem s_lenset (h : te xs M fun x M1 => ∃ ks : List (List Int), x = .tup (ks.map fun k => .tup (k.map D.int)) ∧ ks.length < 64 ∧ ∀ n : Nat, (∃ L : List (List Int), L.Nodup ∧ L.length = n ∧ ∀ k, k ∈ L ↔ k ∈ ks) → Q (.int n) M1) : aLenSet te xs M Q := h
theorem s_size {n : Nat} {R : Prop} (h : n ≤ sizeLine) (k : R) : n ≤ sizeLine ∧ R := ⟨h, k⟩
/-! targets -/
theorem s_gname {i : Nat} {R : AS → Mem → Prop} (h : R (xs.set i (some d)) M) : agName i d xs M R := h
theorem s_gtup {ds : List D} {R : AS → Mem → Prop} (hl : ds.length = n) (h : gs ds xs M R) : agTup n gs (.tup ds) xs M R := ⟨ds, rfl, hl, h⟩
theorem s_gcons {ds : List D} {R : AS → Mem → Prop} (h : g d xs M fun xs' M' => gs ds xs' M' R) : agCons g gs (d :: ds) xs M R := ⟨d, ds, rfl, h⟩
theorem s_gnil {R : AS → Mem → Prop} (h : R xs M) : agNil [] xs M R := ⟨rfl, h⟩
theorem s_gsub {R : AS → Mem → Prop} (h : ta xs M fun o M1 => tb xs M1 fun i M2 => aSet o i d M2 fun M3 => R xs M3) : agSub ta tb d xs M R := h
theorem s_set {ys : List D} {m : Nat} {v : Ob → Mem} {R : Mem → Prop} (h : At M a (.lst ys) v) (e : ixN ys.length i = some m) (k : R (v (.lst (ys.set m d)))) : aSet (.r a) (.int i) d M R := ⟨a, ys, i, m, v, rfl, rfl, h, e, k⟩
/-! values -/
theorem v_i2 {Cn : Int → Int → Prop} {gn : Int → Int → D} (c : Cn i j) (k : Q (gn i j) M) : aInt2 Cn gn (.int i) (.int j) M Q := ⟨i, j, rfl, rfl, c, k⟩
theorem v_isnot (h : aIs x y M fun d M' => ∃ b, d = .bl b ∧ Q (.bl (!b)) M') : aIsNot x y M Q := h
theorem v_notin (h : aIn x y M fun d M' => ∃ b, d = .bl b ∧ Q (.bl (!b)) M') : aNotIn x y M Q := h
theorem v_neg (k : Q (.int (-i)) M) : aNeg (.int i) M Q := ⟨i, rfl, k⟩
theorem v_rev {ds : List D} (h : Ls M x ds) (k : Q (.lst ds.reverse) M) : ∃ ds, Ls M x ds ∧ NewL ds.reverse M Q := ⟨ds, h, .inl k⟩
theorem s_rev (h : te xs M fun x M1 => ∃ ds, Ls M1 x ds ∧ NewL ds.reverse M1 Q) : aRev K te xs M Q := h
theorem s_isE {aa : Addr} (h : aIsE K aa C dd [x, y] M Q) : aIsE K aa C dd [x, y] M Q := h
theorem v_isEown {cv : Addr} {v : Ob → Mem} (hk : PySem.W.kitOne K (.ref C) (.ref cv) = some b) (e : ExK K C) (h : At M dd (.xd fs) v) (k : Q (.bl b) M) : aIsE K a C dd [.r a, .r cv] M Q := ⟨.r cv, cv, fs, v, b, rfl, .inl ⟨rfl, hk⟩, e, h, k⟩
/-! fields -/
theorem lk_hd {r : List (Str × D)} : List.lookup f ((f, d) :: r) = some d := by simp only [List.lookup, beq_self_eq_true]
theorem lk_tl {gn : Str} {r : List (Str × D)} {od : Option D} (ne : (f == gn) = false) (h : List.lookup f r = od) : List.lookup f ((gn, x) :: r) = od := by
  simp only [List.lookup, ne]; exact h
theorem lk_nil : List.lookup f ([] : List (Str × D)) = none := rfl
theorem At.put {u : Ob → Mem} {o' : Ob} (h : At M a o u) : At (u o') a o' u := by
  induction h with
  | hd => exact .hd
  | tl _ ih => exact .tl ih
theorem At.self {u : Ob → Mem} (h : At M a o u) : u o = M := by
  induction h with
  | hd => rfl
  | tl _ ih => exact congrArg _ ih
/-! loops -/
theorem map_get {α : Type} {l : List α} {fn : α → D} {i : Nat} {d : D} (h : (l.map fn)[i]? = some d) : ∃ x, l[i]? = some x ∧ d = fn x := by
  rw [List.getElem?_map] at h
  obtain ⟨x, e, rfl⟩ := Option.map_eq_some_iff.mp h
  exact ⟨x, e, rfl⟩
theorem rng_get {m i : Nat} {fn : Nat → D} {d : D} (h : ((List.range m).map fn)[i]? = some d) : i < m ∧ d = fn i := by
  obtain ⟨k, e, rfl⟩ := map_get h
  obtain ⟨hl, e2⟩ := List.getElem?_eq_some_iff.mp e
  rw [List.length_range] at hl
  rw [List.getElem_range] at e2
  exact ⟨hl, by rw [e2]⟩
/-- for over a mapped list -/
theorem f_map {α : Type} (l : List α) {fn : α → D} (I : Nat → AS → Mem → Prop) (h0 : I 0 xs M)
    (hs : ∀ i x xs M, l[i]? = some x → I i xs M → g (fn x) xs M fun xs1 M1 => tu { B with nx := Nx K (I (i + 1)), ct := Nx K (I (i + 1)), bk := B.nx } xs1 M1)
    (hd : ∀ xs M, I l.length xs M → B.nx xs M) : forIs K g tu B (l.map fn) xs M :=
  ⟨I, h0, fun i d xs M e h => by
    obtain ⟨x, e1, rfl⟩ := map_get e
    exact hs i x xs M e1 h, fun xs M h => hd xs M (by rwa [List.length_map] at h)⟩
/-- for i in range(m) -/
theorem f_rng {m : Nat} {fn : Nat → D} (I : Nat → AS → Mem → Prop) (h0 : I 0 xs M)
    (hs : ∀ i xs M, i < m → I i xs M → g (fn i) xs M fun xs1 M1 => tu { B with nx := Nx K (I (i + 1)), ct := Nx K (I (i + 1)), bk := B.nx } xs1 M1)
    (hd : ∀ xs M, I m xs M → B.nx xs M) : forIs K g tu B ((List.range m).map fn) xs M :=
  ⟨I, h0, fun i d xs M e h => by
    obtain ⟨e1, rfl⟩ := rng_get e
    exact hs i xs M e1 h, fun xs M h => hd xs M (by rwa [List.length_map, List.length_range] at h)⟩
/-- for over any list of items -/
theorem f_all {its : List D} (I : Nat → AS → Mem → Prop) (h0 : I 0 xs M)
    (hs : ∀ i d xs M, its[i]? = some d → I i xs M → g d xs M fun xs1 M1 => tu { B with nx := Nx K (I (i + 1)), ct := Nx K (I (i + 1)), bk := B.nx } xs1 M1)
    (hd : ∀ xs M, I its.length xs M → B.nx xs M) : forIs K g tu B its xs M := ⟨I, h0, hs, hd⟩
/-! comprehensions; I a word of the turn, of what is made, of the memory beside the list -/
def LcW (a : Addr) (I : Nat → List D → Mem → Prop) (i : Nat) (acc : List D) (M : Mem) : Prop := ∃ M', M = (a, .lst acc) :: M' ∧ acc.length ≤ i ∧ I i acc M'
/-- an item e is made; none is made -/
def LcN (a : Addr) (I : Nat → List D → Mem → Prop) (i : Nat) (acc : List D) (e : D) (M : Mem) : Prop := ∃ u, At M a (.lst acc) u ∧ acc.length < sizeLine ∧ LcW a I (i + 1) (acc ++ [e]) (u (.lst (acc ++ [e])))
def LcK (a : Addr) (I : Nat → List D → Mem → Prop) (i : Nat) (acc : List D) (M : Mem) : Prop := ∃ u, At M a (.lst acc) u ∧ LcW a I (i + 1) acc M
variable {acc : List D} {I : Nat → List D → Mem → Prop} {i0 : Nat}
theorem LcN.mk (h1 : acc.length ≤ i0) (h2 : i0 < sizeLine) (h : I (i0 + 1) (acc ++ [d]) M) : LcN a I i0 acc d ((a, .lst acc) :: M) := ⟨_, .hd, by omega, M, rfl, by rw [List.length_append, List.length_singleton]; omega, h⟩
theorem LcK.mk (h1 : acc.length ≤ i0) (h : I (i0 + 1) acc M) : LcK a I i0 acc ((a, .lst acc) :: M) := ⟨_, .hd, M, rfl, by omega, h⟩
theorem c_inv {fin : Fin} {its : List D} {tt : ATT} {ws : AS} (I : Nat → List D → Mem → Prop) (h0 : I 0 [] M)
    (hs : ∀ i d acc M, its[i]? = some d → acc.length ≤ i → I i acc M → g d ws ((a, .lst acc) :: M) fun xs1 M1 => tt xs1 M1 fun b M2 => if b = true then te xs1 M2 fun e M3 => LcN a I i acc e M3 else LcK a I i acc M2)
    (hd : ∀ acc M, acc.length ≤ its.length → I its.length acc M → fin a acc ((a, .lst acc) :: M) Q) : lcIs a g tt te ws its ((a, .lst []) :: M) fun acc M2 => fin a acc M2 Q :=
  ⟨LcW a I, ⟨M, rfl, Nat.le_refl _, h0⟩, fun i d acc M e ⟨M', em, hl, h⟩ => by subst em; exact hs i d acc M' e hl h, fun acc M ⟨M', em, hl, h⟩ => by subst em; exact hd acc M' hl h⟩
theorem fin_d {ys : List D} (h : Q (.lst ys) M) : finD a ys ((a, .lst ys) :: M) Q := ⟨M, .hd, h⟩
theorem fin_o {ys : List D} (h : Q (.r a) ((a, .lst ys) :: M)) : finO a ys ((a, .lst ys) :: M) Q := h
/-- each item x gives fn' x, the memory stays -/
def IMap (l : List D) (M0 : Mem) : Nat → List D → Mem → Prop := fun i acc M => acc = l.take i ∧ M = M0
theorem LcN.map {l : List D} (h1 : i0 < l.length) (h2 : l.length < sizeLine) (ha : acc = l.take i0) (h : l[i0]? = some d) : LcN a (IMap l M) i0 acc d ((a, .lst acc) :: M) :=
  .mk (by rw [ha, List.length_take]; omega) (by omega) ⟨by rw [ha, List.take_add_one, h]; rfl, rfl⟩
theorem c_map {α : Type} (l : List α) {fn : α → D} (fn' : α → D) {fin : Fin} {tt : ATT} {ws : AS} (hl : l.length < sizeLine)
    (hs : ∀ i x acc, l[i]? = some x → acc = (l.map fn').take i → g (fn x) ws ((a, .lst acc) :: M) fun xs1 M1 => tt xs1 M1 fun b M2 => if b = true then te xs1 M2 fun e M3 => LcN a (IMap (l.map fn') M) i acc e M3 else LcK a (IMap (l.map fn') M) i acc M2)
    (hd : fin a (l.map fn') ((a, .lst (l.map fn')) :: M) Q) : lcIs a g tt te ws (l.map fn) ((a, .lst []) :: M) fun acc M2 => fin a acc M2 Q :=
  c_inv (IMap (l.map fn') M) ⟨by simp, rfl⟩ (fun i d acc M' e _ ⟨h1, h2⟩ => by
    subst h2
    obtain ⟨x, e1, rfl⟩ := map_get e
    exact hs i x acc e1 h1) fun acc M' _ ⟨h1, h2⟩ => by
    subst h2
    rw [List.length_map, ← List.length_map (f := fn'), List.take_length] at h1
    subst h1
    exact hd
theorem LcN.put {α : Type} {l : List α} {fn' : α → D} {x : α} (hl : l.length < sizeLine) (ha : acc = (l.map fn').take i0) (h : l[i0]? = some x) (e : d = fn' x) : LcN a (IMap (l.map fn') M) i0 acc d ((a, .lst acc) :: M) := by
  have hi := (List.getElem?_eq_some_iff.mp h).1
  exact .map (by rw [List.length_map]; exact hi) (by rw [List.length_map]; exact hl) ha (by rw [List.getElem?_map, h, e]; rfl)
/-! errors -/
/-- a try: the body by what its errors lead to -/
theorem s_try {c : Value} {i : Nat} {tb : AX → ATS} {ts : Addr → Addr → Addr → ATS} (h : tb (fun C fs xs' M' => ∃ b, PySem.W.exmOne K (.ref C) c = some b ∧ (b = true → ∀ a dd, ts a C dd { nx := fun xs M => B.nx (xs.set i none) M, rt := B.rt, bk := fun xs M => B.bk (xs.set i none) M, ct := fun xs M => B.ct (xs.set i none) M } (xs'.set i (some (.r a))) ((dd, .xd fs) :: M')) ∧
    (b = false → A C fs xs' M')) B xs M) : aTry K A c i tb ts B xs M := h
theorem s_caught {c : Value} {R : Prop} {P : Addr → Addr → Prop} (e : PySem.W.exmOne K (.ref C) c = some true) (h : ∀ a dd, P a dd) : ∃ b, PySem.W.exmOne K (.ref C) c = some b ∧ (b = true → ∀ a dd, P a dd) ∧ (b = false → R) := ⟨true, e, fun _ => h, fun z => Bool.noConfusion z⟩
end
end AV

set_option Elab.async false
set_option linter.all false
set_option maxRecDepth 100000
set_option maxHeartbeats 4000000
/-! A9: isinstance of a caught error over a tuple of classes (own work). -/
namespace AV
open PySem PySem.Spec PyProof.Rows L2 G TL
def gIsET (K : PySem.W.Frag) (a : Addr) (cls : Value) (d : Option Addr) : List V → Hp → VK → Prop := fun xs H Q => ∃ (tp : Addr) (cs : List V) (us : List Value) (D dd : Addr) (fs : List (Str × V)) (b : Bool), xs = [.ref a, .ref tp] ∧ SqT K H tp cs ∧ Paired ClsV cs us ∧ cls = .ref D ∧ ExK K D ∧ d = some dd ∧ H dd = some (.xd fs) ∧ PySem.W.kitAny K (.ref D) us = some b ∧ Q (.bl b) H
theorem call_isET {X : Cx} {K : PySem.W.Frag} {a : Addr} {oe : Obj} {cls : Value} {d : Option Addr} {pn : List (Addr × Obj)} (hz : Zc cls d oe) (hf : ∃ vs, oe.data = .fields vs) (hK : X.K = K) : CallR (X.suite a ((a, oe) :: pn)) (.builtin "isinstance") (gIsET K a cls d) := by
  subst hK
  intro pins s σ H xs us Q I r h
  obtain ⟨tp, cs, ws, D, dd, fs, b, rfl, hT, hcv, rfl, T, rfl, ed, e, q⟩ := h
  cases r with
  | cons rx rr =>
    cases rr with
    | cons rt rr =>
      cases rr
      cases rx
      cases rt
      obtain ⟨its, rv, ⟨o, h1, h2, n, h3⟩, _⟩ := I.tuple hT
      have e3 := ClsV.all hcv rv
      subst e3
      obtain ⟨oc, od', dt, sl⟩ := o
      simp only at h2 h3
      subst h2 h3
      obtain ⟨od, J⟩ := inst_of I hz hf ed
      exact PySem.W.kia_tup (PySem.W.exkit T.ga T.gg T.ox.exC T.hd T.cl T.sp T.tk T.mo) I.kIn J h1 e (fun z => nomatch z) fun tk => ⟨.bl b, H, I.kept (t' := tk) fun _ _ z => z, rfl, q⟩
def aIsET (K : PySem.W.Frag) (a C dd : Addr) : List D → Mem → AQ → Prop := fun ds M Q => ∃ (cs : List Addr) (fs : List (Str × D)) (u : Ob → Mem) (b : Bool), ds = [.r a, .tup (cs.map D.r)] ∧ PySem.W.kitAny K (.ref C) (cs.map Value.ref) = some b ∧ ExK K C ∧ At M dd (.xd fs) u ∧ Q (.bl b) M
theorem isET_op {K : PySem.W.Frag} {a C dd : Addr} : OpN K (gIsET K a (.ref C) (some dd)) (aIsET K a C dd) := fun ds vs M F H B Q ⟨cs, fs, u, b, e, hk, ek, ha, h⟩ r f l => by
  subst e
  obtain ⟨v1, vr, rfl, r1, r2⟩ := r.inv
  cases r1
  obtain ⟨v2, vr2, rfl, r3, r4⟩ := r2.inv
  obtain rfl := r4.inv_nil
  obtain ⟨vfs, e1, rf⟩ := f.at_ _ ha.mem
  obtain ⟨tp, ws, rfl, s, q⟩ := r3.tup_at f
  have pr : ∀ (cs : List Addr) (ws : List V), RvL K F ws (cs.map D.r) → Paired ClsV ws (cs.map Value.ref) := by
    intro cs
    induction cs with
    | nil => intro ws q; rw [q.inv_nil]; exact .nil
    | cons c cs ih =>
      intro ws q
      obtain ⟨v, vr, rfl, r1, r2⟩ := RvL.inv q
      cases r1
      exact .cons (.own c) (ih vr r2)
  exact ⟨tp, ws, _, C, dd, vfs, b, rfl, s, pr cs ws q, rfl, ek, rfl, e1, hk, l.same h (.bl b) f⟩
theorem v_isEty {K : PySem.W.Frag} {a C dd : Addr} {n : String} {fs : List (Str × D)} {u : Ob → Mem} {b : Bool} {M : Mem} {Q : AQ} (hk : PySem.W.kitOne K (.ref C) (.type n) = some b) (e : ExK K C) (h : At M dd (.xd fs) u) (k : Q (.bl b) M) : aIsE K a C dd [.r a, .ty n] M Q := ⟨.ty n, 0, fs, u, b, rfl, .inr ⟨n, rfl, hk⟩, e, h, k⟩
theorem kitv_mk {K : PySem.W.Frag} {R : Addr} (h : PySem.W.subIn K (.ref R) (.type "ValueError") = some true) : PySem.W.kitOne K (.ref R) (.type "ValueError") = some true := by
  unfold PySem.W.kitOne
  rw [if_neg (by intro z; exact Bool.noConfusion (show false = true from z))]
  have e : PySem.W.kitMeta "ValueError" = true := by decide +kernel
  show (if PySem.W.kitMeta "ValueError" = true then PySem.W.subIn K (.ref R) (.type "ValueError") else none) = some true
  rw [if_pos e]
  exact h
end AV

set_option Elab.async false
set_option linter.all false
set_option maxRecDepth 100000
set_option maxHeartbeats 4000000
/-! A10: methods that may raise, tuples among the module's names (own work). -/
namespace AV
open PySem PySem.Spec PyProof.Rows L2 G TL
section
variable {X : Cx} {K : PySem.W.Frag} {W : WX} {A : AX} {k : Nat} {C : Addr} {m : Str} {ps : List Str} {sp : Sp} {asp : ASp} {o e : Expr} {es : List Expr} {to : TE} {t : TA} {ta : ATE} {ar : ATA} {pos apos : Pos} {pl : Sem Bool}
/-- o.m(..): what the method lets out is told by the letters as they stand -/
def tMethX (C : Addr) (m : Str) (sp : Sp) (E : L2.St → XK) (to : TE) (t : TA) : TE := fun σ H Q =>
  to σ H fun x H1 => ∃ a dx fs, x = .ref a ∧ H1 a = some (.ins C dx fs) ∧ fs.lookup m = none ∧ t σ H1 fun vs H2 => sp (x :: vs) H2 Q (E σ)
theorem g_methX (c : MCal X.prog X.w X.K X.mg X.base (HX X.prog X.w) k C m ps sp) (cl : Cls X.K C) (hr : Room k X.A) (tk : L2N.Takes X W) (he : PE X o to) (ha : PA X (e :: es) t)
    (h1 : starEach (e :: es) X.env = (false, eval e X.env) :: starEach es X.env := by rfl) (h2 : (backTo pos (starEach es X.env)).any (·.1) = false := by rfl)
    (h3 : eval (.Call (.Attribute o m apos) (e :: es) [] pos) X.env = (eval o X.env >>= fun ov => standAt apos.atName >>= fun _ => holding [ov] (getMethod ov m pl) >>= fun r =>
      callWith pos r.1 r.2 (backTo pos (starEach (e :: es) X.env)) (backToKw pos (keywordEach [] X.env))) := by rfl) : PE X (.Call (.Attribute o m apos) (e :: es) [] pos) (tMethX C m sp (WE W) to t) := by
  obtain ⟨f, fd, hm, b, F⟩ := c.ex
  constructor
  intro pins s σ H Q I h
  refine PySem.W.methodCall_KW (pl := pl) (thn (he.run pins s σ H _ I h) ?_) h3
  rintro u s1 ⟨x, H1, I1, rx, a, dx, fs, rfl, ea, l, q⟩
  cases rx
  refine getmeth_ok I1 ea cl hm l (PySem.W.callWith_K (first := [.ref a]) (h₀ := X.base) I.ok.mod.kin hm.kp (thn (ha.run pos pins s1 σ H1 _ I1 q) ?_) h1 h2)
  rintro us s2 ⟨vs, H2, I2, r, q2⟩
  exact ⟨I2.kIn, run_fnS (us := .ref a :: us) (vs := .ref a :: vs) F hr b (L2N.passAt tk σ) I2 (.cons rfl r) q2⟩
theorem g_methX0 (c : MCal X.prog X.w X.K X.mg X.base (HX X.prog X.w) k C m ps sp) (cl : Cls X.K C) (hr : Room k X.A) (tk : L2N.Takes X W) (he : PE X o to)
    (h3 : eval (.Call (.Attribute o m apos) [] [] pos) X.env = (eval o X.env >>= fun ov => standAt apos.atName >>= fun _ => holding [ov] (getMethod ov m pl) >>= fun r =>
      callWith pos r.1 r.2 (backTo pos (starEach [] X.env)) (backToKw pos (keywordEach [] X.env))) := by rfl) : PE X (.Call (.Attribute o m apos) [] [] pos) (tMethX C m sp (WE W) to tNil) := by
  obtain ⟨f, fd, hm, b, F⟩ := c.ex
  constructor
  intro pins s σ H Q I h
  refine PySem.W.methodCall_KW (pl := pl) (thn (he.run pins s σ H _ I h) ?_) h3
  rintro u s1 ⟨x, H1, I1, rx, a, dx, fs, rfl, ea, l, q⟩
  cases rx
  exact getmeth_ok I1 ea cl hm l (PySem.W.callWith_K0 (first := [.ref a]) I1.kIn hm.kp (run_fnS (us := [.ref a]) (vs := [.ref a]) F hr b (L2N.passAt tk σ) I1 (.cons rfl .nil) q))
@[reducible] def aMethX (A : AX) (C : Addr) (m : Str) (asp : ASp) (tob : ATE) (t : ATA) : ATE := fun xs M Q => tob xs M fun x M1 => ∃ fs, InsAt M1 x C fs ∧ fs.lookup m = none ∧ t xs M1 fun ds M2 => asp (x :: ds) M2 Q fun C' fs' M' => A C' fs' xs M'
theorem a_methX (h : PE X e (tMethX C m (conSp K asp) (WE W) (conE K W A ta) (conA K W A ar))) : PE X e (conE K W A (aMethX A C m asp ta ar)) := h.to fun σ H Q ⟨xs, M, F, B, rs, fr, lx, h, l⟩ =>
  con_step rs fr lx h fun x M1 v H1 F1 ⟨fs, hi, hm, h1⟩ s1 r1 f1 rs1 lx1 => by
    obtain ⟨a, dx, vfs, rfl, e1, rf⟩ := hi.at_ r1 f1
    exact ⟨a, dx, vfs, rfl, e1, rf.lookup_none hm, conA_step rs1 f1 lx1 h1 fun ds M2 vs H2 F2 h2 s2 r2 f2 rs2 lx2 =>
      ⟨x :: ds, M2, F2, B, _, .cons (r1.same s2) r2, f2, h2, l.mono (s1.trans s2), fun C' fs' M3 H3 F3 dd a' s f3 => lx2 C' fs' xs M3 σ H3 F3 dd a' s (rs2.same s) f3⟩⟩
theorem a_methX0 (h : PE X e (tMethX C m (conSp K asp) (WE W) (conE K W A ta) tNil)) : PE X e (conE K W A (aMethX A C m asp ta aNil)) := h.to fun σ H Q ⟨xs, M, F, B, rs, fr, lx, h, l⟩ =>
  con_step rs fr lx h fun x M1 v H1 F1 ⟨fs, hi, hm, h1⟩ s1 r1 f1 rs1 lx1 => by
    obtain ⟨a, dx, vfs, rfl, e1, rf⟩ := hi.at_ r1 f1
    exact ⟨a, dx, vfs, rfl, e1, rf.lookup_none hm,
      [x], M1, F1, B, _, .cons r1 .nil, f1, h1, l.mono s1, fun C' fs' M3 H3 F3 dd a' s f3 => lx1 C' fs' xs M3 σ H3 F3 dd a' s (rs1.same s) f3⟩
/-! ### an object behind others -/
theorem At.app {T M0 : Mem} {r : Addr} {o : Ob} : At (T ++ (r, o) :: M0) r o (fun o' => T ++ (r, o') :: M0) := by
  induction T with
  | nil => exact .hd
  | cons p T ih => exact .tl ih
/-- what is gone may be dropped: M' is M and more -/
def Gone (K : PySem.W.Frag) (M' M : Mem) : Prop := ∀ d, FzV K d M' d M
theorem Gone.refl {M : Mem} : Gone K M M := fun d => .refl
theorem Gone.hd {p : Addr × Ob} {M' M : Mem} (h : Gone K M' M) : Gone K (p :: M') M := fun d => FzV.trans (FzV.drop .hd) (h d)
theorem Gone.app {T M' M : Mem} (h : Gone K M' M) : Gone K (T ++ M') M := by
  induction T with
  | nil => exact h
  | cons p T ih => exact ih.hd
/-! ### isinstance over a tuple of built-in types -/
def gIsT (K : PySem.W.Frag) : List V → Hp → VK → Prop := fun xs H Q => ∃ (x : V) (tp : Addr) (cs : List V) (t : Value) (us : List Value) (b : Bool), xs = [x, .ref tp] ∧ SqT K H tp cs ∧ Paired ClsV cs us ∧ TyX K H x t ∧ PySem.W.kitAny K t us = some b ∧ Q (.bl b) H
theorem call_isT (hK : X.K = K := by rfl) : CallR X (.builtin "isinstance") (gIsT K) := by
  subst hK
  intro pins s σ H xs us Q I r h
  obtain ⟨x, tp, cs, t, ws, b, rfl, hT, hcv, ty, e, q⟩ := h
  cases r with
  | cons rx rr =>
    cases rr with
    | cons rt rr =>
      cases rr
      cases rt
      obtain ⟨its, rv, ⟨o, h1, h2, n, h3⟩, _⟩ := I.tuple hT
      have e3 := ClsV.all hcv rv
      subst e3
      obtain ⟨oc, od', dt, sl⟩ := o
      simp only at h2 h3
      subst h2 h3
      obtain ⟨P, Z, p, hx⟩ := kit_of I rx ty
      exact PySem.W.kia_tup Z I.kIn p h1 e hx fun tk => ⟨.bl b, H, I.tok tk, rfl, q⟩
def aIsT (K : PySem.W.Frag) : List D → Mem → AQ → Prop := fun ds M Q => ∃ (x : D) (n : String) (ts : List String) (b : Bool), ds = [x, .tup (ts.map D.ty)] ∧ Kd M x n ∧ PySem.W.kitAny K (.type n) (ts.map Value.type) = some b ∧ Q (.bl b) M
theorem isT_op : OpN K (gIsT K) (aIsT K) := fun ds vs M F H B Q ⟨x, n, ts, b, e, hk, ek, h⟩ r f l => by
  subst e
  obtain ⟨v1, vr, rfl, r1, r2⟩ := r.inv
  obtain ⟨v2, vr2, rfl, r3, r4⟩ := r2.inv
  obtain rfl := r4.inv_nil
  obtain ⟨tp, cs, rfl, hs, rl⟩ := r3.tup_at f
  have pr : ∀ (ts : List String) (cs : List V), RvL K F cs (ts.map D.ty) → Paired ClsV cs (ts.map Value.type) := fun ts => by
    induction ts with
    | nil => intro cs rl; rw [rl.inv_nil]; exact .nil
    | cons t ts ih =>
      intro cs rl
      obtain ⟨c, cr, rfl, q1, q2⟩ := RvL.inv rl
      cases q1
      exact .cons (.ty _) (ih cr q2)
  exact ⟨v1, tp, cs, .type n, ts.map Value.type, b, rfl, hs, pr ts cs rl, hk.ty r1 f, ek, l.same h (.bl _) f⟩
theorem o_isT (hK : X.K = K := by rfl) : CallR X (.builtin "isinstance") (gIsT K) ∧ OpN K (gIsT K) (aIsT K) := ⟨call_isT hK, isT_op⟩
/-! ### a tuple of texts or ints among the module's names -/
/-- the module's name n is a tuple of these -/
def ModTup (K : PySem.W.Frag) (mg : Str → Option Value) (n : Str) (ds : List D) : Prop := ∃ a vs, mg n = some (.ref a) ∧ (∀ F, SqT K F a vs) ∧ ∀ F, RvL K F vs ds
theorem a_ctup {x : Str} {p : Pos} {ds : List D} (h : ModTup X.K X.mg x ds) (hg : Gl X x) (hK : X.K = K := by rfl) (hdb : (x == ("__debug__" : Str)) = false := by decide) : PE X (.Name x p) (conE K W A (aC (.tup ds))) := by
  obtain ⟨a, vs, hm, hs, hr⟩ := h
  subst hK
  exact a_c (pe_glob (v := .ref a) hg hm rfl hdb) fun F => Rv.of_tup (hs F) (hr F)
/-- texts as the table's values -/
theorem modTup_str {K : PySem.W.Frag} {mg : Str → Option Value} {n : Str} {a : Addr} {o : Obj} {its : Array Value} {m : Nat} {zs : List Str} (h1 : mg n = some (.ref a)) (h2 : K.lookup a = some o) (h3 : o.cls = .type "tuple") (h4 : o.data = .seq its m) (h5 : its.size ≤ sizeLine) (h6 : Vals (zs.map V.str) its.toList) : ModTup K mg n (zs.map D.str) :=
  ⟨a, zs.map V.str, h1, fun F => .inr ⟨o, its, m, h2, h3, h4, h5, h6⟩, fun F => ⟨by simp, fun i v d e1 e2 => by
    rw [List.getElem?_map] at e1 e2
    cases e : zs[i]? with
    | none => rw [e] at e1; cases e1
    | some z => rw [e] at e1 e2; cases e1; cases e2; exact .str z⟩⟩
end
end AV

set_option Elab.async false
set_option linter.all false
set_option maxRecDepth 100000
set_option maxHeartbeats 4000000
/-! A11: enumerate of data, the last of a list, steps beside (own work). -/
namespace AV
open PySem PySem.Spec PyProof.Rows L2 G TL RZ
section
variable {X : Cx} {K : PySem.W.Frag} {W : WX} {A : AX} {F : Hp}
/-! ### enumerate -/
def enD (ds : List D) : List D := zipD ((List.range ds.length).map fun i => D.int (i : Nat)) ds
theorem enD_len {ds : List D} : (enD ds).length = ds.length := by unfold enD; rw [zipD_len, List.length_map, List.length_range, Nat.min_self]
theorem enD_get {ds : List D} {i : Nat} {d : D} (h : (enD ds)[i]? = some d) : ∃ y, ds[i]? = some y ∧ d = .tup [.int (i : Nat), y] := by
  obtain ⟨x, y, e1, e2, rfl⟩ := zipD_get h
  refine ⟨y, e2, ?_⟩
  rw [List.getElem?_map] at e1
  obtain ⟨j, e3, rfl⟩ := Option.map_eq_some_iff.mp e1
  have := (List.getElem?_eq_some_iff.mp e3).2
  rw [List.getElem_range] at this
  rw [this]
@[reducible] def aiEnum (t : ATA) : ATI := fun xs M R => t xs M fun ds M1 => ∃ its, ds = [.lst its] ∧ R (enD its) M1
theorem wk_enum {a : Addr} {vs : List V} {its : List D} (hs : SqL K F a vs) (r : RvL K F vs its) : Wk K F (enD its) (Ite K a) :=
  ⟨fun H => SqL K H a vs, YPair (fun i => some (.int (i : Nat))) (fun i => vs[i]?), by rw [enD_len, ← r.1]; exact walk_enum, fun M' F' H' s f => (hs.ext s).ext f.sub, fun i H1 v H2 F1 M1 d ⟨T, x, y, e1, hn, e2, ex, ey⟩ ed s f => by
    subst e1 e2
    obtain ⟨y', e3, rfl⟩ := enD_get ed
    obtain ⟨s2, f2⟩ := f.data (ho := .tup [x, y]) hn
    cases ex
    exact ⟨_, s2, f2, .of_tup (SqT.of upd_same) (.cons (.int _) (.cons ((r.2 i y y' ey e3).same (s.trans s2)) .nil))⟩⟩
theorem ai_enum {tg e : Expr} {t : ATA} (h : PI X tg e (iEnum X.K (conA K W A t))) (hK : X.K = K := by rfl) : PI X tg e (conI K W A (aiEnum t)) := by
  subst hK
  exact h.to fun σ H R ⟨xs, M, F, B, rs, fr, lx, h, l⟩ => conA_step rs fr lx h fun ds M1 vs H1 F1 ⟨its, hk, h1⟩ s1 r1 f1 _ _ => by
    subst hk
    obtain ⟨v, vr, rfl, r2, r3⟩ := r1.inv
    obtain rfl := r3.inv_nil
    obtain ⟨a, us, rfl, sa, qa⟩ := r2.lst_inv
    exact ⟨a, us, rfl, sa.ext f1.sub, l _ _ _ _ _ h1 s1 f1 (wk_enum sa qa)⟩
theorem s_enl {R : List D → Prop} {ys : List D} (h : R ys) : ∃ its, [D.lst ys] = [.lst its] ∧ R its := ⟨ys, rfl, h⟩
variable {xs : AS} {M : Mem} {B : AEnds} {tu : ATS} {g : ATG}
/-- for i, x in enumerate(..) over a mapped list -/
theorem f_enum {α : Type} (l : List α) {fn : α → D} (I : Nat → AS → Mem → Prop) (h0 : I 0 xs M)
    (hs : ∀ i x xs M, l[i]? = some x → I i xs M → g (.tup [.int (i : Nat), fn x]) xs M fun xs1 M1 => tu { B with nx := Nx K (I (i + 1)), ct := Nx K (I (i + 1)), bk := B.nx } xs1 M1)
    (hd : ∀ xs M, I l.length xs M → B.nx xs M) : forIs K g tu B (enD (l.map fn)) xs M :=
  f_all I h0 (fun i d xs M e h => by
    obtain ⟨y, e1, rfl⟩ := enD_get e
    obtain ⟨x, e2, rfl⟩ := map_get e1
    exact hs i x xs M e2 h) fun xs M h => hd xs M (by rwa [enD_len, List.length_map] at h)
end
/-! ### places of a list -/
theorem atI_last {α : Type} {l : List α} {x : α} : atI (l ++ [x]) (-1) = some x := by
  have e : atI (l ++ [x]) (-1) = (l ++ [x])[l.length]? := by
    unfold atI
    have : ixN (l ++ [x]).length (-1) = some l.length := by
      rw [List.length_append, List.length_singleton]
      unfold ixN
      simp
      omega
    rw [this]
    rfl
  rw [e]
  simp
theorem atI_hd {α : Type} {l : List α} {x : α} : atI (x :: l) 0 = some x := atI_nat (j := 0) rfl
/-- the place i of a mapped list -/
theorem at_mem {α : Type} {l : List α} {fn : α → D} {i : Int} (h0 : 0 ≤ i) (h : i < (l.length : Int)) : ∃ x, x ∈ l ∧ l[i.toNat]? = some x ∧ atI (l.map fn) i = some (fn x) := by
  have hl : i.toNat < l.length := by omega
  refine ⟨l[i.toNat], List.getElem_mem hl, List.getElem?_eq_getElem hl, ?_⟩
  have q : atI (l.map fn) ((i.toNat : Nat) : Int) = some (fn l[i.toNat]) := atI_nat (by rw [List.getElem?_map, List.getElem?_eq_getElem hl]; rfl)
  rwa [Int.toNat_of_nonneg h0] at q
/-- what find? says of the rest behind the first i -/
theorem find_go {α : Type} {p : α → Bool} {l : List α} {i : Nat} {r : α} (h : l[i]? = some r) : (l.drop i).find? p = if p r then some r else (l.drop (i + 1)).find? p := by
  obtain ⟨hi, e⟩ := List.getElem?_eq_some_iff.mp h
  rw [List.drop_eq_getElem_cons hi, e, List.find?_cons]
  cases p r <;> rfl
/-- an object below others -/
theorem At.under {T M : Mem} {a : Addr} {o : Ob} {u : Ob → Mem} (h : At M a o u) : At (T ++ M) a o (fun o' => T ++ u o') := by
  induction T with
  | nil => exact h
  | cons p T ih => exact .tl ih
theorem Rem.under {T M M' : Mem} {a : Addr} {o : Ob} (h : Rem M a o M') : Rem (T ++ M) a o (T ++ M') := by
  induction T with
  | nil => exact h
  | cons p T ih => exact .tl ih
/-! ### == of an own class; in an except suite -/
theorem un64H {k : Nat} {A : Around} (hr : L2H.RoomH k A) : A.units + 64 < cLine := by have := hr.un; omega
@[reducible] def aNever : ATS := fun _ _ _ => False
theorem as_never {K : PySem.W.Frag} {X : Cx} {st : Stmt} {W : WX} {A : AX} : PS X st (conS K W A aNever) := ps_never.to fun D σ H ⟨xs, M, F, B, _, _, _, h, _⟩ => h.elim
@[reducible] def aEqO (C : Addr) (asp : ASp) : D → D → Mem → AQ → Prop := fun x y M Q => (∃ fs, InsAt M x C fs) ∧ (∃ gs, InsAt M y C gs) ∧ asp [x, y] M (fun d M' => ∃ z, d = .bl z ∧ Q (.bl z) M') noX
theorem o_eqO {K : PySem.W.Frag} {X : Cx} {k : Nat} {C : Addr} {ps : List Str} {asp : ASp} (c : MCal X.prog X.w X.K X.mg X.base CX0 k C "__eq__" ps (conSp K asp)) (hr : Room k X.A) : OpR X (compareOp .Eq) (rEqO C (conSp K asp)) ∧ Op2 K (rEqO C (conSp K asp)) (aEqO C asp) :=
  ⟨op_eqO c hr, fun x y v w M F H B Q ⟨⟨fs, h1⟩, ⟨gs, h2⟩, h⟩ r1 r2 f l => by
    obtain ⟨a, dx, vf, rfl, e1, _⟩ := h1.at_ r1 f
    obtain ⟨b, dy, vg, rfl, e2, _⟩ := h2.at_ r2 f
    refine ⟨a, b, dx, dy, vf, vg, rfl, rfl, e1, e2, [x, y], M, F, _, noX, .cons r1 (.cons r2 .nil), f, h, ?_, .none⟩
    intro d M' v' H' F' hb s r fr
    obtain ⟨z, e, hq⟩ := hb
    subst e
    cases r
    exact ⟨z, rfl, l _ _ _ _ _ hq s (.bl z) fr⟩⟩
end AV

set_option Elab.async false
set_option linter.all false
set_option maxRecDepth 100000
set_option maxHeartbeats 4000000
/-! A12: lists times ints, xs[i] op= e, unpacked lists, dicts, places by numbers (own work). -/
namespace AV
open PySem PySem.Spec PyProof.Rows L2 G TL
section
variable {X : Cx} {K : PySem.W.Frag} {W : WX} {A : AX} {F : Hp}
/-! ### list * int -/
inductive aRep : A2
  | mk {x : D} {xs : List D} {k : Int} {M : Mem} {Q : AQ} : (x = .lst xs ∨ ∃ a u, x = .r a ∧ At M a (.lst xs) u) → (-(2 ^ 63) ≤ k ∧ k < 2 ^ 63) → xs.length * k.toNat ≤ sizeLine → Q (.lst (List.replicate k.toNat xs).flatten) M → aRep x (.int k) M Q
inductive aRepO : A2
  | mk {x : D} {xs : List D} {k : Int} {M : Mem} {Q : AQ} : (x = .lst xs ∨ ∃ a u, x = .r a ∧ At M a (.lst xs) u) → (-(2 ^ 63) ≤ k ∧ k < 2 ^ 63) → xs.length * k.toNat ≤ sizeLine → (∀ a, Q (.r a) ((a, .lst (List.replicate k.toNat xs).flatten) :: M)) → aRepO x (.int k) M Q
theorem RvL.rep {vs : List V} {ds : List D} (h : RvL K F vs ds) : ∀ n : Nat, RvL K F (List.replicate n vs).flatten (List.replicate n ds).flatten
  | 0 => .nil
  | n + 1 => by
    rw [List.replicate_succ, List.replicate_succ, List.flatten_cons, List.flatten_cons]
    exact h.append (RvL.rep h n)
theorem lst_at {M : Mem} {x : D} {xs : List D} {v : V} {H : Hp} (h : x = .lst xs ∨ ∃ a u, x = .r a ∧ At M a (.lst xs) u) (r : Rv K F v x) (f : Fr K M F H) : ∃ a vs, v = .ref a ∧ H a = some (.lst vs) ∧ RvL K F vs xs := by
  rcases h with rfl | ⟨a, u, rfl, ha⟩
  · obtain ⟨a, vs, rfl, e, l⟩ := r.lst_inv0
    exact ⟨a, vs, rfl, f.sub _ _ e, l⟩
  · cases r
    obtain ⟨vs, e, l⟩ := f.at_ _ ha.mem
    exact ⟨_, vs, rfl, e, l⟩
theorem o_rep : OpR X (binaryOp .Mult) rRep ∧ Op2 K rRep aRep := ⟨op_rep, fun x y v w M F H B Q h r1 r2 f l => by
  cases h with
  | mk hx hk hs h =>
    cases r2
    obtain ⟨a, vs, rfl, e, q⟩ := lst_at hx r1 f
    exact ⟨a, _, vs, rfl, rfl, e, hk.1, hk.2, by rw [q.1]; exact hs, NewL.run (.inl h) (q.rep _) f l⟩⟩
theorem o_repO : OpR X (binaryOp .Mult) rRep ∧ Op2 K rRep aRepO := ⟨op_rep, fun x y v w M F H B Q h r1 r2 f l => by
  cases h with
  | mk hx hk hs h =>
    cases r2
    obtain ⟨a, vs, rfl, e, q⟩ := lst_at hx r1 f
    exact ⟨a, _, vs, rfl, rfl, e, hk.1, hk.2, by rw [q.1]; exact hs, NewL.run (.inr h) (q.rep _) f l⟩⟩
theorem rep_one {α : Type} {x : α} : ∀ {n : Nat}, (List.replicate n [x]).flatten = List.replicate n x
  | 0 => rfl
  | n + 1 => by rw [List.replicate_succ, List.flatten_cons, rep_one]; rfl
theorem v_rep1 {d : D} {k : Int} {M : Mem} {Q : AQ} (hk : -(2 ^ 63) ≤ k ∧ k < 1000000) (h : Q (.lst (List.replicate k.toNat d)) M) : aRep (.lst [d]) (.int k) M Q :=
  .mk (.inl rfl) ⟨hk.1, by omega⟩ (by rw [List.length_singleton, line_val]; omega) (by rw [rep_one]; exact h)
theorem v_repO1 {d : D} {k : Int} {M : Mem} {Q : AQ} (hk : -(2 ^ 63) ≤ k ∧ k < 1000000) (h : ∀ a, Q (.r a) ((a, .lst (List.replicate k.toNat d)) :: M)) : aRepO (.lst [d]) (.int k) M Q :=
  .mk (.inl rfl) ⟨hk.1, by omega⟩ (by rw [List.length_singleton, line_val]; omega) (fun a => by rw [rep_one]; exact h a)
/-! ### xs[i] op= e, ints -/
theorem get_list : PGet X (rIxL X.K) := by
  intro pins s σ H x y v u Q I rx ry h
  obtain ⟨p, xs, i, z, rfl, rfl, hq, he, q⟩ := h
  cases rx
  obtain ⟨t, rfl⟩ := ry
  obtain ⟨its, r, pl, hz⟩ := I.list hq
  obtain ⟨j, h1, h2, h3, h4, h5⟩ := atI_get he
  obtain ⟨w, ew, rw'⟩ := r.get h2
  have hl := r.length
  have hn := line63
  have fin : EP X pins σ Q w s := ⟨z, H, I, rw', q⟩
  by_cases h0 : 0 ≤ i
  · have hj : i.toNat = j := by
      rw [seqIndex_of h0 h5] at h1
      exact Option.some.inj h1
    exact wpAny_getItem_list pl.isList h0 (by omega) (by rw [hj]; simpa using ew) fin
  · have hj : (i + (its.toArray.size : Int)).toNat = j := by
      rw [seqIndex_neg (by omega) h4] at h1
      rw [List.size_toArray, ← hl]
      exact Option.some.inj h1
    exact wpAny_getItem_list_neg pl.isList (by omega) (by rw [List.size_toArray] <;> omega) (by omega) (by rw [hj]; simpa using ew) fin
@[reducible] def aAugS (to ti te : ATE) (k : Int → Int → Int) : ATS := fun Q xs M => to xs M fun o M1 => ti xs M1 fun i M2 => ∃ a ys m n u, o = .r a ∧ i = .int m ∧ At M2 a (.lst ys) u ∧ atI ys m = some (.int n) ∧ te xs M2 fun y M3 => ∃ j, y = .int j ∧ aSet (.r a) (.int m) (.int (k n j)) M3 fun M4 => Q.nx xs M4
theorem as_augS {st : Stmt} {tob ti te : ATE} {k : Int → Int → Int} (h : PS X st (tAugS (conE K W A tob) (conE K W A ti) (conE K W A te) (rIxL X.K) (ipI k) rSetL)) (hK : X.K = K := by rfl) : PS X st (conS K W A (aAugS tob ti te k)) := by
  subst hK
  exact h.to fun Q σ H ⟨xs, M, F, B, rs, fr, lx, h, l⟩ => con_step rs fr lx h fun o M1 v1 H1 F1 h1 s1 r1 f1 rs1 lx1 => con_step rs1 f1 lx1 h1 fun i M2 v2 H2 F2 ⟨a, ys, m, n, u, e1, e2, ha, hn, h2⟩ s2 r2 f2 rs2 lx2 => by
    subst e1 e2
    cases r1
    cases r2
    obtain ⟨vs, e, rl⟩ := f2.at_ _ ha.mem
    obtain ⟨w, ew, rw'⟩ := atI_rv rl hn
    cases rw'
    refine ⟨a, vs, m, _, rfl, rfl, SqL.of e, ew, con_step rs2 f2 lx2 h2 fun y M3 v3 H3 F3 ⟨j, e3, h3⟩ s3 r3 f3 rs3 lx3 => ?_⟩
    subst e3
    cases r3
    exact ⟨n, j, rfl, rfl, set_con h3 (.r a) (.int m) (.int _) f3 fun M4 H4 b f4 => l.nx _ _ _ _ _ b ((s1.trans s2).trans s3) rs3 f4⟩
/-! ### a, b = a list -/
@[reducible] def agUnl (n : Nat) (t : ATGs) : ATG := fun d xs M Q => ∃ ds, Ls M d ds ∧ ds.length = n ∧ t ds xs M Q
theorem ag_unl {t : ATGs} {vs : List Nat} {k n : Nat} {pos : Pos} {es : List Expr} (hc : X.calm = true) (h : PGs X es (conGs K W A vs t)) (hn : (assignEach es X.env).length = n := by rfl) (hst : (assignEach es X.env).findIdx? (·.1) = none := by rfl) (hK : X.K = K := by rfl) :
    PG X (.Tuple es k pos) (conG K W A vs (agUnl n t)) := by
  subst hK
  exact (pg_unl hc h hn hst).to fun v σ H Q ⟨x, xs, M, F, B, rv, rs, fr, lx, ⟨ds, hd, hl, h⟩, l⟩ => by
    obtain ⟨a, vs', rfl, hq, r⟩ := hd.at_ rv fr
    exact ⟨a, vs', rfl, hq, r.1.trans hl, ds, xs, M, F, B, r, rs, fr, lx, h, l⟩
/-! ### (a, *b) -/
@[reducible] def aStar (te : ATE) (tr : ATA) : ATA := fun xs M Q => te xs M fun x M1 => ∃ ys, Sq M1 x ys ∧ tr xs M1 fun zs M2 => Q (ys ++ zs) M2
theorem aa_star {e : Expr} {es : List Expr} {p : Pos} {te : ATE} {tr : ATA} (ha : PE X e (conE K W A te)) (hr : PA X es (conA K W A tr)) (hs : starEach (.Starred e p :: es) X.env = (true, eval e X.env) :: starEach es X.env := by rfl) (hK : X.K = K := by rfl) : PA X (.Starred e p :: es) (conA K W A (aStar te tr)) := by
  subst hK
  exact (StX.pa_star ha hr hs).to fun σ H Q ⟨xs, M, F, B, rs, fr, lx, h, l⟩ => con_step rs fr lx h fun x M1 v H1 F1 ⟨ys, hq, h1⟩ s1 r1 f1 rs1 lx1 => by
    obtain ⟨a, vs, rfl, s, rl⟩ := hq.at_ r1 f1
    exact ⟨a, vs, rfl, s.symm, conA_step rs1 f1 lx1 h1 fun ds M2 vs' H2 F2 h2 s2 r2 f2 _ _ => l _ _ _ _ _ h2 (s1.trans s2) ((rl.same s2).append r2) f2⟩
/-! ### steps -/
section
variable {M : Mem} {a : Addr} {v : Ob → Mem} {d : D} {ys : List D}
theorem x_augS {m n : Int} {R : Addr → Int → Int → Prop} (h : At M a (.lst ys) v) (e : atI ys m = some (.int n)) (k : R a m n) : ∃ a' ys m' n u, D.r a = .r a' ∧ D.int m = .int m' ∧ At M a' (.lst ys) u ∧ atI ys m' = some (.int n) ∧ R a' m' n := ⟨a, ys, m, n, v, rfl, rfl, h, e, k⟩
theorem x_unl {n : Nat} {R : List D → Prop} (h : Ls M d ys) (hl : ys.length = n) (k : R ys) : ∃ ds, Ls M d ds ∧ ds.length = n ∧ R ds := ⟨ys, h, hl, k⟩
theorem x_star {R : List D → Prop} (h : Sq M d ys) (k : R ys) : ∃ ds, Sq M d ds ∧ R ds := ⟨ys, h, k⟩
end
/-! ### str(text) -/
/-! ### places by numbers -/
theorem At.nth {L M : Mem} {i : Nat} {a : Addr} {o : Ob} (h : L[i]? = some (a, o)) : At (L ++ M) a o (fun o' => L.set i (a, o') ++ M) := by
  induction L generalizing i with
  | nil => simp at h
  | cons p L ih =>
    cases i with
    | zero => cases h; exact .hd
    | succ i => exact .tl (ih (by simpa using h))
theorem At.mid {T L M : Mem} {i : Nat} {a : Addr} {o : Ob} (h : L[i]? = some (a, o)) : At (T ++ (L ++ M)) a o (fun o' => T ++ (L.set i (a, o') ++ M)) := (At.nth h).under
end
end AV

set_option Elab.async false
set_option linter.all false
set_option maxRecDepth 100000
set_option maxHeartbeats 4000000
/-! A13: dicts of the module, dicts that are written (own work). -/
namespace AV
open PySem PySem.Spec PyProof.Rows L2 G TL
section
variable {X : Cx} {K : PySem.W.Frag} {W : WX} {A : AX} {F H : Hp}
/-! ### dicts of the module: texts to ints, texts, tuples of ints -/
mutual
def KvP (K : PySem.W.Frag) : D → Value → Prop
  | .int i, u => ∃ t, u = .int i t
  | .str z, u => ∃ t, u = .str z t
  | .tup ds, u => ∃ a od its m sl, u = .ref a ∧ K.lookup a = some ⟨.type "tuple", od, .seq its m, sl⟩ ∧ its.size ≤ sizeLine ∧ KvPL K ds its.toList
  | _, _ => False
def KvPL (K : PySem.W.Frag) : List D → List Value → Prop
  | [], us => us = []
  | d :: ds, us => ∃ u r, us = u :: r ∧ KvP K d u ∧ KvPL K ds r
end
abbrev KvD (K : PySem.W.Frag) (u : Value) (d : D) : Prop := KvP K d u
mutual
theorem kvp_rv {K : PySem.W.Frag} : ∀ (d : D) (u : Value), KvP K d u → ∃ v, RelV v u ∧ ∀ F, Rv K F v d
  | .int i, u, h => by
    rw [KvP] at h
    obtain ⟨t, rfl⟩ := h
    exact ⟨.int i, ⟨t, rfl⟩, fun F => .int i⟩
  | .str z, u, h => by
    rw [KvP] at h
    obtain ⟨t, rfl⟩ := h
    exact ⟨.str z, ⟨t, rfl⟩, fun F => .str z⟩
  | .tup ds, u, h => by
    rw [KvP] at h
    obtain ⟨a, od, its, m, sl, rfl, h1, h2, h3⟩ := h
    obtain ⟨vs, hv, hr⟩ := kvpL_rv ds its.toList h3
    exact ⟨.ref a, rfl, fun F => .of_tup (.inr ⟨_, its, m, h1, rfl, rfl, h2, hv⟩) (hr F)⟩
  | .non, u, h => by simp [KvP] at h
  | .bl _, u, h => by simp [KvP] at h
  | .ty _, u, h => by simp [KvP] at h
  | .r _, u, h => by simp [KvP] at h
  | .lst _, u, h => by simp [KvP] at h
  | .ins _ _, u, h => by simp [KvP] at h
  | .scr _, u, h => by simp [KvP] at h
theorem kvpL_rv {K : PySem.W.Frag} : ∀ (ds : List D) (us : List Value), KvPL K ds us → ∃ vs, Vals vs us ∧ ∀ F, RvL K F vs ds
  | [], us, h => by
    rw [KvPL] at h
    subst h
    exact ⟨[], .nil, fun F => .nil⟩
  | d :: ds, us, h => by
    rw [KvPL] at h
    obtain ⟨u, r, rfl, h1, h2⟩ := h
    obtain ⟨v, hv, rv⟩ := kvp_rv d u h1
    obtain ⟨vs, hvs, rvs⟩ := kvpL_rv ds r h2
    exact ⟨v :: vs, .cons hv hvs, fun F => .cons (rv F) (rvs F)⟩
end
theorem KvD.rv {K : PySem.W.Frag} {u : Value} {d : D} (h : KvD K u d) : ∃ v, RelV v u ∧ ∀ F, Rv K F v d := kvp_rv d u h
/-- the module's name n is this data -/
def ModVal (K : PySem.W.Frag) (mg : Str → Option Value) (n : Str) (d : D) : Prop := ∃ u, mg n = some u ∧ KvP K d u
inductive EsV (K : PySem.W.Frag) : List DictEntry → List (Str × D) → Prop
  | nil : EsV K [] []
  | cons {e : DictEntry} {r : List DictEntry} {x : Str} {t : Tok} {d : D} {kvs : List (Str × D)} : e.key = .str x t → KvD K e.val d → EsV K r kvs → EsV K (e :: r) ((x, d) :: kvs)
def ModDict (pp : Params) (K : PySem.W.Frag) (mg : Str → Option Value) (n : Str) (kvs : List (Str × D)) : Prop :=
  ∃ a es m, mg n = some (.ref a) ∧ K.lookup a = some ⟨.type "dict", none, .dict es m, #[]⟩ ∧ (a == sysModules) = false ∧ PySem.W.KeysLit pp es.toList ∧ EsV K es.toList kvs
theorem esv_find {z : Str} : ∀ {l : List DictEntry} {kvs : List (Str × D)}, EsV K l kvs → (match l.find? (·.key.isStr z) with
    | some e => ∃ d, kvs.lookup z = some d ∧ KvD K e.val d
    | none => kvs.lookup z = none) ∧ l.any (·.refKey) = false
  | _, _, .nil => ⟨rfl, rfl⟩
  | _, _, @EsV.cons _ e r x t d kvs hk hv hr => by
    obtain ⟨h1, h2⟩ := esv_find (z := z) hr
    have hs : e.key.isStr z = (x == z) := by rw [hk]; rfl
    have hrk : e.refKey = false := by unfold DictEntry.refKey; rw [hk]
    refine ⟨?_, by rw [List.any_cons, h2, hrk]; rfl⟩
    rw [List.find?_cons, hs, List.lookup_cons]
    by_cases q : x = z
    · subst q
      rw [show (x == x) = true from beq_self_eq_true x]
      exact ⟨d, rfl, hv⟩
    · rw [show (x == z) = false from beq_eq_false_iff_ne.mpr q, show (z == x) = false from beq_eq_false_iff_ne.mpr fun e => q e.symm]
      exact h1
theorem mod_find {a : Addr} {es : Array DictEntry} {m : Nat} {kvs : List (Str × D)} {z : Str} (hl : K.lookup a = some ⟨.type "dict", none, .dict es m, #[]⟩) (hv : EsV K es.toList kvs) :
    (∃ u d, PySem.W.nsIn K a z = some (some u) ∧ kvs.lookup z = some d ∧ KvD K u d) ∨ (PySem.W.nsIn K a z = some none ∧ kvs.lookup z = none) := by
  obtain ⟨h1, h2⟩ := esv_find (z := z) hv
  unfold PySem.W.nsIn
  rw [hl]
  dsimp only
  cases e : es.toList.find? (·.key.isStr z) with
  | some en =>
    rw [e] at h1
    obtain ⟨d, h3, h4⟩ := h1
    exact .inl ⟨_, d, rfl, h3, h4⟩
  | none =>
    rw [e] at h1
    exact .inr ⟨by rw [h2]; rfl, h1⟩
variable {x : Str} {p pos : Pos} {b : Expr} {tb : ATE} {kvs : List (Str × D)}
theorem a_cval {d : D} (h : ModVal X.K X.mg x d) (hg : Gl X x) (hK : X.K = K := by rfl) (hdb : (x == ("__debug__" : Str)) = false := by decide) : PE X (.Name x p) (conE K W A (aC d)) := by
  obtain ⟨u, hm, hk⟩ := h
  obtain ⟨v, rv, rr⟩ := kvp_rv d u hk
  subst hK
  exact a_c (pe_glob (v := v) hg hm rv hdb) rr
@[reducible] def aKd (kvs : List (Str × D)) (tb : ATE) : ATE := fun xs M Q => tb xs M fun y M1 => ∃ z d, y = .str z ∧ kvs.lookup z = some d ∧ Q d M1
theorem a_kd (h : ModDict X.w.params X.K X.mg x kvs) (hg : Gl X x) (hb : PE X b (conE K W A tb)) (hs : PlainIx b) (hK : X.K = K := by rfl) (hdb : (x == ("__debug__" : Str)) = false := by decide) : PE X (.Subscript (.Name x p) b pos) (conE K W A (aKd kvs tb)) := by
  obtain ⟨a, es, m, hm, hl, hd, hk, hv⟩ := h
  subst hK
  exact (pe_ix ix_kdict (pe_glob (v := .ref a) hg hm rfl hdb) hb hs).to fun σ H Q ⟨xs, M, F, B, rs, fr, lx, h, l⟩ =>
    con_step rs fr lx h fun y M1 v1 H1 F1 ⟨z, d, e1, e2, h1⟩ s1 r1 f1 _ _ => by
      subst e1
      cases r1
      rcases mod_find (z := z) hl hv with ⟨u, d', h2, h3, h4⟩ | ⟨h2, h3⟩
      · rw [e2] at h3
        cases h3
        obtain ⟨v, rv, rr⟩ := h4.rv
        exact ⟨a, z, v, rfl, rfl, ⟨es, m, u, hl, hk, h2, rv⟩, l _ _ _ _ _ h1 s1 (rr _) f1⟩
      · rw [e2] at h3; cases h3
/-- x in d, x not in d -/
@[reducible] def aKin (kvs : List (Str × D)) (n : Bool) (tb : ATE) : ATE := fun xs M Q => tb xs M fun y M1 => ∃ z, y = .str z ∧ Q (.bl (n ^^ (kvs.lookup z).isSome)) M1
theorem kin_con {a : Addr} {es : Array DictEntry} {m : Nat} {n : Bool} {σ : L2.St} {H : Hp} {Q : VK} (hl : K.lookup a = some ⟨.type "dict", none, .dict es m, #[]⟩) (hv : EsV K es.toList kvs) (h : conE K W A (aKin kvs n tb) σ H Q) :
    conE K W A tb σ H fun y H1 => ∃ (z : Str) (r : Option Value), y = .str z ∧ V.ref a = .ref a ∧ PySem.W.nsIn K a z = some r ∧ Q (.bl (n ^^ r.isSome)) H1 := by
  obtain ⟨xs, M, F, B, rs, fr, lx, h, l⟩ := h
  exact con_step rs fr lx h fun y M1 v1 H1 F1 ⟨z, e1, h1⟩ s1 r1 f1 _ _ => by
    subst e1
    cases r1
    rcases mod_find (z := z) hl hv with ⟨u, d', h2, h3, h4⟩ | ⟨h2, h3⟩
    · rw [h3] at h1
      exact ⟨z, _, rfl, rfl, h2, l _ _ _ _ _ h1 s1 (.bl _) f1⟩
    · rw [h3] at h1
      exact ⟨z, _, rfl, rfl, h2, l _ _ _ _ _ h1 s1 (.bl _) f1⟩
theorem a_kin (h : ModDict X.w.params X.K X.mg x kvs) (hg : Gl X x) (hb : PE X b (conE K W A tb)) (hK : X.K = K := by rfl) (hdb : (x == ("__debug__" : Str)) = false := by decide) (hmk : behindInMarks .In (.Name x p) = false := by rfl) : PE X (.Compare b [.In] [.Name x p] pos) (conE K W A (aKin kvs false tb)) := by
  obtain ⟨a, es, m, hm, hl, hd, hk, hv⟩ := h
  subst hK
  refine (pe_cmpR (op_in_kd (d := a) (es := es) (n := m) ⟨hl, hk, hd⟩) hb (pe_glob (v := .ref a) hg hm rfl hdb) hmk).to fun σ H Q q => ?_
  obtain ⟨xs, M, F, B, rs, fr, lx, h, l⟩ := kin_con hl hv q
  refine ⟨xs, M, F, B, rs, fr, lx, h, fun d M' v H' F' b s r f => ?_⟩
  obtain ⟨z, r', e1, _, e2, q⟩ := l d M' v H' F' b s r f
  exact ⟨z, r', e1, rfl, e2, by rwa [Bool.false_xor] at q⟩
theorem a_knotin (h : ModDict X.w.params X.K X.mg x kvs) (hg : Gl X x) (hb : PE X b (conE K W A tb)) (hK : X.K = K := by rfl) (hdb : (x == ("__debug__" : Str)) = false := by decide) (hmk : behindInMarks .NotIn (.Name x p) = false := by rfl) : PE X (.Compare b [.NotIn] [.Name x p] pos) (conE K W A (aKin kvs true tb)) := by
  obtain ⟨a, es, m, hm, hl, hd, hk, hv⟩ := h
  subst hK
  refine (pe_cmpR (op_notIn_kd (d := a) (es := es) (n := m) ⟨hl, hk, hd⟩) hb (pe_glob (v := .ref a) hg hm rfl hdb) hmk).to fun σ H Q q => ?_
  obtain ⟨xs, M, F, B, rs, fr, lx, h, l⟩ := kin_con hl hv q
  refine ⟨xs, M, F, B, rs, fr, lx, h, fun d M' v H' F' b s r f => ?_⟩
  obtain ⟨z, r', e1, _, e2, q⟩ := l d M' v H' F' b s r f
  exact ⟨z, r', e1, rfl, e2, by rwa [Bool.true_xor] at q⟩
theorem a_tkin (h : ModDict X.w.params X.K X.mg x kvs) (hg : Gl X x) (hb : PE X b (conE K W A tb)) (hK : X.K = K := by rfl) (hdb : (x == ("__debug__" : Str)) = false := by decide) (hmk : behindInMarks .In (.Name x p) = false := by rfl) : PT X (.Compare b [.In] [.Name x p] pos) (conT K W A (aTest (aKin kvs false tb))) := by
  obtain ⟨a, es, m, hm, hl, hd, hk, hv⟩ := h
  subst hK
  refine (pt_cmpR (op_in_kd (d := a) (es := es) (n := m) ⟨hl, hk, hd⟩) hb (pe_glob (v := .ref a) hg hm rfl hdb) hmk).to fun σ H Q q => ?_
  obtain ⟨xs, M, F, B, rs, fr, lx, h, l⟩ := q
  obtain ⟨xs, M, F, B, rs, fr, lx, h, l⟩ := kin_con (Q := fun d H' => ∃ k, d = .bl k ∧ Q k H') hl hv ⟨xs, M, F, _, rs, fr, lx, h, fun d M' v H' F' ⟨k, e, b⟩ s r f => by
    subst e
    cases r
    exact ⟨k, rfl, l _ _ _ _ b s f⟩⟩
  refine ⟨xs, M, F, B, rs, fr, lx, h, fun d M' v H' F' b s r f => ?_⟩
  obtain ⟨z, r', e1, _, e2, q⟩ := l d M' v H' F' b s r f
  exact ⟨z, r', e1, rfl, e2, by rwa [Bool.false_xor] at q⟩
theorem a_tknotin (h : ModDict X.w.params X.K X.mg x kvs) (hg : Gl X x) (hb : PE X b (conE K W A tb)) (hK : X.K = K := by rfl) (hdb : (x == ("__debug__" : Str)) = false := by decide) (hmk : behindInMarks .NotIn (.Name x p) = false := by rfl) : PT X (.Compare b [.NotIn] [.Name x p] pos) (conT K W A (aTest (aKin kvs true tb))) := by
  obtain ⟨a, es, m, hm, hl, hd, hk, hv⟩ := h
  subst hK
  refine (pt_cmpR (op_notIn_kd (d := a) (es := es) (n := m) ⟨hl, hk, hd⟩) hb (pe_glob (v := .ref a) hg hm rfl hdb) hmk).to fun σ H Q q => ?_
  obtain ⟨xs, M, F, B, rs, fr, lx, h, l⟩ := q
  obtain ⟨xs, M, F, B, rs, fr, lx, h, l⟩ := kin_con (Q := fun d H' => ∃ k, d = .bl k ∧ Q k H') hl hv ⟨xs, M, F, _, rs, fr, lx, h, fun d M' v H' F' ⟨k, e, b⟩ s r f => by
    subst e
    cases r
    exact ⟨k, rfl, l _ _ _ _ b s f⟩⟩
  refine ⟨xs, M, F, B, rs, fr, lx, h, fun d M' v H' F' b s r f => ?_⟩
  obtain ⟨z, r', e1, _, e2, q⟩ := l d M' v H' F' b s r f
  exact ⟨z, r', e1, rfl, e2, by rwa [Bool.true_xor] at q⟩
/-- d.get(k, dflt) -/
@[reducible] def aKget (kvs : List (Str × D)) (tb tc : ATE) : ATE := fun xs M Q => tb xs M fun y M1 => ∃ z, y = .str z ∧ tc xs M1 fun e M2 => Q ((kvs.lookup z).getD e) M2
theorem a_kget {c : Expr} {tc : ATE} {apos cpos : Pos} (h : ModDict X.w.params X.K X.mg x kvs) (hg : Gl X x) (hb : PE X b (conE K W A tb)) (hc : PE X c (conE K W A tc)) (m : M2 X (.Name x p) "get" apos b c cpos) (hK : X.K = K := by rfl) (hdb : (x == ("__debug__" : Str)) = false := by decide) :
    PE X (.Call (.Attribute (.Name x p) "get" apos) [b, c] [] cpos) (conE K W A (aKget kvs tb tc)) := by
  obtain ⟨a, es, mm, hm, hl, hd, hk, hv⟩ := h
  subst hK
  have ho : PE X (.Name x p) (tC (.ref a)) := pe_glob (v := .ref a) hg hm rfl hdb
  refine ⟨fun pins s σ H Q I h => ?_⟩
  obtain ⟨xs, M, F, B, rs, fr, lx, h, l⟩ := h
  refine wpAny_Call_method m.base m.few m.line PySem.F.plainAttrs_dict PySem.F.slot_dict_get PySem.F.type_dict_get (thn (ho.run pins s σ H (fun v H' => v = .ref a ∧ H' = H) I ⟨rfl, rfl⟩) fun u s1 ⟨x1, H1, I1, rx, q1, q2⟩ => ?_)
  subst q1 q2
  obtain rfl : u = Value.ref a := rx
  have hmap := PySem.W.mapOf_K (prog := X.prog) (w := X.w) I1.kIn hl hk
  refine ⟨hmap.typeIs, fun bb q => ?_, ?_⟩
  · cases q
    exact ⟨_, I1.kIn _ _ hl, rfl⟩
  rw [m.trees]
  refine Calls.callWith_builtin rfl (Calls.evalArgs_plain (Calls.spliced_cons (thn (hb.run pins s1 σ _ (fun v H' => ∃ (z : Str), v = .str z ∧ conE X.K W A tc σ H' fun w H3 => ∀ u', (∃ d0, (kvs.lookup z) = some d0 ∧ ∀ F, Rv X.K F u' d0) ∨ (kvs.lookup z = none ∧ u' = w) → Q u' H3) I1 (con_step rs fr lx h fun y M1 v1 H1 F1 ⟨z, e1, h1⟩ s1 r1 f1 rs1 lx1 => ?_)) fun iv s2 ⟨y, H2, I2, ry, z, ey, q2⟩ =>
    Calls.spliced_cons (thn (hc.run pins s2 σ H2 _ I2 q2) fun fv s3 ⟨zv, H3, I3, rz, q3⟩ => Calls.spliced_nil ?_))))
  · subst e1
    cases r1
    refine ⟨z, rfl, con_step rs1 f1 lx1 h1 fun e M2 v2 H2 F2 h2 s2 r2 f2 _ _ => fun u' hu' => ?_⟩
    rcases hu' with ⟨d0, hz, hr⟩ | ⟨hz, rfl⟩
    · rw [hz] at h2
      exact l _ _ _ _ _ h2 (s1.trans s2) (hr _) f2
    · rw [hz] at h2
      exact l _ _ _ _ _ h2 (s1.trans s2) r2 f2
  · subst ey
    obtain ⟨tz, rfl⟩ := ry
    have hm3 := PySem.W.mapOf_K (prog := X.prog) (w := X.w) I3.kIn hl hk
    refine call_meetsIn PySem.F.slot_dict_get hm3.typeIs PySem.F.entry_dict_get (PySem.F.args_dict_get_3 _ _ _) (meets_dict_get_default (strKind X.prog X.w) a (strKind_is X.prog X.w z tz) hd fv) ⟨_, hm3, ?_⟩
    rcases mod_find (z := z) hl hv with ⟨u, d', h2, h3, h4⟩ | ⟨h2, h3⟩
    · rw [PySem.W.find_K hl h2]
      obtain ⟨v, rv, rr⟩ := h4.rv
      exact ⟨v, H3, I3.tok _, rv, q3 v (.inl ⟨d', h3, rr⟩)⟩
    · rw [PySem.W.find_K hl h2]
      exact ⟨zv, H3, I3.tok _, rz, q3 zv (.inr ⟨h3, rfl⟩)⟩
/-! ### dicts that are written: by texts -/
theorem inr_val {f : Str} : ∀ {vfs : List (Str × V)}, valV (inrK vfs) (Sum.inr f) = vfs.lookup f
  | [] => rfl
  | (g, v) :: r => by
    rw [List.lookup_cons]
    by_cases q : g = f
    · subst q
      rw [show (g == g) = true from beq_self_eq_true g]
      exact valV_pos rfl
    · rw [show (f == g) = false from beq_eq_false_iff_ne.mpr fun e => q e.symm]
      exact (valV_neg (p := ((Sum.inr g : Key), v)) (r := inrK r) (fun e => q (Sum.inr.inj e))).trans (inr_val (vfs := r))
theorem inr_any {f : Str} {vfs : List (Str × V)} : ((inrK vfs).any fun kv => decide (kv.1 = (Sum.inr f : Key))) = decide (f ∈ vfs.map (·.1)) := by
  induction vfs with
  | nil => rfl
  | cons p r ih =>
    show (decide ((Sum.inr p.1 : Key) = Sum.inr f) || (inrK r).any _) = _
    rw [ih, ← Bool.decide_or]
    exact dec_congr (by rw [List.map_cons, List.mem_cons]; exact ⟨fun h => h.imp (fun e => (Sum.inr.inj e).symm) id, fun h => h.imp (fun e => by rw [e]) id⟩)
theorem inr_put {f : Str} {v : V} : ∀ {vfs : List (Str × V)}, (vfs.map (·.1)).Nodup → putK (inrK vfs) (Sum.inr f) v = inrK (putF f v vfs)
  | [], _ => rfl
  | (g, u) :: r, nd => by
    rw [List.map_cons, List.nodup_cons] at nd
    have ih := inr_put (f := f) (v := v) (vfs := r) nd.2
    unfold putF
    by_cases q : g = f
    · subst q
      rw [if_pos rfl]
      unfold putK
      rw [inr_any, if_pos (by simp)]
      show (if (Sum.inr g : Key) = Sum.inr g then ((Sum.inr g : Key), v) else (Sum.inr g, u)) :: (inrK r).map _ = ((Sum.inr g : Key), v) :: inrK r
      rw [if_pos rfl]
      congr 1
      have : ∀ (l : List (Str × V)), g ∉ l.map (·.1) → (inrK l).map (fun kv => if kv.1 = (Sum.inr g : Key) then (kv.1, v) else kv) = inrK l := by
        intro l
        induction l with
        | nil => intro _; rfl
        | cons p l ih =>
          intro h
          rw [List.map_cons, List.mem_cons, not_or] at h
          show (if (Sum.inr p.1 : Key) = Sum.inr g then ((Sum.inr p.1 : Key), v) else (Sum.inr p.1, p.2)) :: (inrK l).map _ = ((Sum.inr p.1 : Key), p.2) :: inrK l
          rw [if_neg fun e => h.1 (Sum.inr.inj e).symm, ih h.2]
      exact this r nd.1
    · rw [if_neg q]
      unfold putK at ih ⊢
      rw [inr_any] at ih ⊢
      by_cases m : f ∈ r.map (·.1)
      · rw [if_pos (by simpa using m)] at ih
        rw [if_pos (by simpa using .inr (by simpa using m))]
        show (if (Sum.inr g : Key) = Sum.inr f then ((Sum.inr g : Key), v) else (Sum.inr g, u)) :: (inrK r).map _ = ((Sum.inr g : Key), u) :: inrK (putF f v r)
        rw [if_neg fun e => q (Sum.inr.inj e), ih]
      · rw [if_neg (by simpa using m)] at ih
        rw [if_neg (by simp only [decide_eq_true_eq]; exact fun h => (List.mem_cons.mp h).elim (fun e => q e.symm) m)]
        show ((Sum.inr g : Key), u) :: (inrK r ++ [(Sum.inr f, v)]) = ((Sum.inr g : Key), u) :: inrK (putF f v r)
        rw [ih]
theorem rvf_keys {vfs : List (Str × V)} {fs : List (Str × D)} (h : RvF K F vfs fs) : vfs.map (·.1) = fs.map (·.1) := by
  refine List.ext_getElem? fun i => ?_
  rw [List.getElem?_map, List.getElem?_map]
  cases e1 : vfs[i]? with
  | none =>
    rw [List.getElem?_eq_none (by rw [← h.1]; exact List.getElem?_eq_none_iff.mp e1)]
    rfl
  | some p =>
    have hi := (List.getElem?_eq_some_iff.mp e1).1
    have e2 : fs[i]? = some (fs[i]'(by rw [← h.1]; exact hi)) := List.getElem?_eq_getElem _
    rw [e2]
    show some p.1 = some _
    rw [(h.2 i p _ e1 e2).1]
theorem PutR.keys {f : Str} {d : D} {fs fs' : List (Str × D)} (h : PutR f d fs fs') (nd : (fs.map (·.1)).Nodup) : (fs'.map (·.1)).Nodup ∧ ∀ g, g ∈ fs'.map (·.1) → g = f ∨ g ∈ fs.map (·.1) := by
  induction h with
  | nil => exact ⟨by simp, fun g hg => by simpa using hg⟩
  | hd => exact ⟨nd, fun g hg => .inr hg⟩
  | @tl g e r r' ne _ ih =>
    rw [List.map_cons, List.nodup_cons] at nd
    obtain ⟨i1, i2⟩ := ih nd.2
    refine ⟨?_, fun g' hg => ?_⟩
    · rw [List.map_cons, List.nodup_cons]
      refine ⟨fun z => ?_, i1⟩
      rcases i2 _ z with q | q
      · exact absurd q (by simpa using ne)
      · exact nd.1 q
    · rw [List.map_cons, List.mem_cons] at hg ⊢
      rcases hg with q | q
      · exact .inr (.inl q)
      · rcases i2 _ q with z | z
        · exact .inl z
        · exact .inr (.inr z)
/-- d["f"] -/
@[reducible] def aDix (f : Str) (ta : ATE) : ATE := fun xs M Q => ta xs M fun x M1 => ∃ a kvs u d, x = .r a ∧ At M1 a (.dct kvs) u ∧ kvs.lookup f = some d ∧ Q d M1
theorem a_dix {o : Expr} {f : Str} {j : Nat} {p2 : Pos} {ta : ATE} (hu : X.A.units + 1 < cLine) (ho : PE X o (conE K W A ta)) (hs : NoSl (.Constant (.str f) j p2) := by first | exact fun _ _ => rfl | trivial | simp [NoSl]) : PE X (.Subscript o (.Constant (.str f) j p2) pos) (conE K W A (aDix f ta)) :=
  (pe_dget hu ho pe_str hs).to fun σ H Q ⟨xs, M, F, B, rs, fr, lx, h, l⟩ => con_step rs fr lx h fun x M1 v1 H1 F1 ⟨a, kvs, u, d, e1, ha, e2, h1⟩ s1 r1 f1 _ _ => by
    subst e1
    cases r1
    obtain ⟨vfs, eh, rf, _⟩ := f1.at_ _ ha.mem
    obtain ⟨v, ev, rv⟩ := rf.lookup e2
    exact ⟨a, v, rfl, by rw [show (some v) = valV (inrK vfs) (Sum.inr f) from (ev.symm.trans inr_val.symm)]; exact DGet.k (k := Sum.inr f) eh, l _ _ _ _ _ h1 s1 rv f1⟩
/-- d["f"] = v -/
def aDput (o : D) (f : Str) (d : D) (M : Mem) (Q : Mem → Prop) : Prop := ∃ a kvs kvs' u, o = .r a ∧ At M a (.dct kvs) u ∧ kvs.length < 1000 ∧ PutR f d kvs kvs' ∧ Q (u (.dct kvs'))
@[reducible] def agDsub (f : Str) (to : ATE) : ATG := fun d xs M Q => to xs M fun o M1 => aDput o f d M1 fun M2 => Q xs M2
theorem ag_dsub {e : Expr} {f : Str} {tob : ATE} (h : PG X e (gSub (conE K W A tob) (tC (.str f)) rSetD)) : PG X e (conG K W A [] (agDsub f tob)) := h.to fun v σ H Q ⟨x, xs, M, F, B, rv, rs, fr, lx, h, l⟩ =>
  con_step rs fr lx h fun o M1 v1 H1 F1 ⟨a, kvs, kvs', u, e1, ha, hl, hp, h1⟩ s1 r1 f1 rs1 lx1 => by
    subst e1
    cases r1
    obtain ⟨vfs, eh, rf, nd⟩ := f1.at_ _ ha.mem
    have hn : (vfs.map (·.1)).Nodup := by rw [rvf_keys rf]; exact nd
    have rp := rf.put (f := f) (rv.same s1)
    refine ⟨a, upd H1 a (.dK (inrK (putF f v vfs))), rfl, ?_, ?_⟩
    · rw [← inr_put hn]
      exact DPut.k (k := Sum.inr f) eh (by rw [List.length_map, rf.1, line_val]; omega)
    · rw [hp.eq] at rp
      exact l _ _ _ _ _ h1 s1 rs1 (f1.put (o' := .dct kvs') ha ⟨_, upd_same, rp, (hp.keys nd).1⟩) Off.refl
/-- {"f": e, ..} -/
def aPs : List (Str × ATE) → AS → Mem → (List (Str × D) → Mem → Prop) → Prop
  | [], _, M, Q => Q [] M
  | (f, t) :: r, xs, M, Q => t xs M fun d M1 => aPs r xs M1 fun kvs M2 => Q ((f, d) :: kvs) M2
theorem ps_con : ∀ (ps : List (Str × ATE)) (σ : L2.St) (xs : AS) (M : Mem) (F H : Hp) (B : List (Str × D) → Mem → Prop) (Q : List (V × V) → Hp → Prop), Rs K F xs σ → Fr K M F H → LnX K F A W → aPs ps xs M B →
    (∀ kvs M' vkvs H' F', B kvs M' → Same F F' → RvF K F' vkvs kvs → Fr K M' F' H' → Q (vkvs.map fun p => (V.str p.1, p.2)) H') → tPairs (ps.map fun p => (tC (.str p.1), conE K W A p.2)) σ H Q
  | [], σ, xs, M, F, H, B, Q, rs, fr, lx, h, l => l [] M [] H F h (Same.refl F) ⟨rfl, fun i p q e => by simp at e⟩ fr
  | (f, t) :: r, σ, xs, M, F, H, B, Q, rs, fr, lx, h, l => con_step rs fr lx h fun d M1 v H1 F1 h1 s1 r1 f1 rs1 lx1 =>
    ps_con r σ xs M1 F1 H1 _ _ rs1 f1 lx1 h1 fun kvs M' vkvs H' F' b s rf f' => l ((f, d) :: kvs) M' ((f, v) :: vkvs) H' F' b (s1.trans s) ⟨by simp [rf.1], fun i p q e1 e2 => by
      cases i with
      | zero => cases e1; cases e2; exact ⟨rfl, r1.same s⟩
      | succ i => exact rf.2 i p q (by simpa using e1) (by simpa using e2)⟩ f'
@[reducible] def aDisp (ps : List (Str × ATE)) : ATE := fun xs M Q => ∀ p, aPs ps xs ((p, .dct []) :: M) fun kvs M2 => ∃ u, At M2 p (.dct []) u ∧ kvs.length ≤ 15 ∧ (kvs.map (·.1)).Nodup ∧ Q (.r p) (u (.dct kvs))
inductive APs (X : Cx) (K : PySem.W.Frag) (W : WX) (A : AX) (pos : Pos) : List (Option Expr) → List Expr → List (Str × ATE) → Prop
  | nil : APs X K W A pos [] [] []
  | cons {f : Str} {j : Nat} {p2 : Pos} {v : Expr} {t : ATE} {ks : List (Option Expr)} {vs : List Expr} {r : List (Str × ATE)} : PE X v (conE K W A t) → APs X K W A pos ks vs r → APs X K W A pos (some (.Constant (.str f) j p2) :: ks) (v :: vs) ((f, t) :: r)
theorem APs.pps {ks : List (Option Expr)} {vs : List Expr} {r : List (Str × ATE)} (h : APs X K W A pos ks vs r) : PPs X pos ks vs (r.map fun p => (tC (.str p.1), conE K W A p.2)) := by
  induction h with
  | nil => exact pps_nil
  | cons hv _ ih => exact pps_cons pe_str hv ih
theorem mergeK_nodup : ∀ {vfs acc : List (Str × V)}, ((acc ++ vfs).map (·.1)).Nodup → mergeK (inrK acc) (inrK vfs) = inrK (acc ++ vfs)
  | [], acc, _ => by rw [List.append_nil]; rfl
  | (f, v) :: r, acc, nd => by
    have e1 : ((acc ++ [(f, v)]) ++ r) = acc ++ (f, v) :: r := by simp
    have hna : f ∉ acc.map (·.1) := fun h => by
      rw [List.map_append, List.nodup_append] at nd
      exact nd.2.2 f h f (by simp) rfl
    have step : putK (inrK acc) (Sum.inr f) v = inrK (acc ++ [(f, v)]) := by
      unfold putK
      rw [inr_any, if_neg (by simpa using hna)]
      simp [inrK]
    show mergeK (putK (inrK acc) (Sum.inr f) v) (inrK r) = _
    rw [step, mergeK_nodup (by rw [e1]; exact nd), e1]
theorem a_disp {ks : List (Option Expr)} {vs : List Expr} {r : List (Str × ATE)} (h : APs X K W A pos ks vs r) (hall : ks.all (·.isSome) = true := by rfl) (hl : ks.length = vs.length := by rfl) (h0 : ks ≠ [] := by nofun) (h15 : ks.length ≤ 15 := by decide) : PE X (.Dict ks vs pos) (conE K W A (aDisp r)) :=
  (pe_disp h.pps hall hl h0 h15).to fun σ H Q ⟨xs, M, F, B, rs, fr, lx, h, l⟩ => fun p hp => by
    have f1 := fr.own (o := .dct []) (ho := .dK []) hp ⟨[], upd_same, ⟨rfl, fun i p q e => by simp at e⟩, List.nodup_nil⟩
    refine ps_con r σ xs _ F _ _ _ rs f1 lx (h p) fun kvs M' vkvs H' F' ⟨u, ha, hl, hnd, b⟩ s rf f' => ?_
    obtain ⟨v0, e0, r0, _⟩ := f'.at_ _ ha.mem
    rw [List.eq_nil_of_length_eq_zero r0.1] at e0
    refine ⟨e0, inrK vkvs, by rw [List.map_map]; rfl, by rw [List.length_map, rf.1]; exact hl, ?_⟩
    have e2 : mergeK [] (inrK vkvs) = inrK vkvs := by
      have := mergeK_nodup (vfs := vkvs) (acc := []) (by rw [List.nil_append, rvf_keys rf]; exact hnd)
      rwa [List.nil_append] at this
    rw [e2]
    exact l _ _ _ _ _ b s (.r p) (f'.put (o' := .dct kvs) ha ⟨vkvs, upd_same, rf, hnd⟩)
theorem x_kd {z : Str} {d : D} {R : D → Prop} (h : kvs.lookup z = some d) (k : R d) : ∃ z' d', D.str z = .str z' ∧ kvs.lookup z' = some d' ∧ R d' := ⟨z, d, rfl, h, k⟩
theorem x_kin {z : Str} {R : Str → Prop} (k : R z) : ∃ z', D.str z = .str z' ∧ R z' := ⟨z, rfl, k⟩
theorem x_dix {M : Mem} {a : Addr} {u : Ob → Mem} {f : Str} {d : D} {R : D → Prop} (h : At M a (.dct kvs) u) (e : kvs.lookup f = some d) (k : R d) : ∃ a' kvs u d, D.r a = .r a' ∧ At M a' (.dct kvs) u ∧ kvs.lookup f = some d ∧ R d := ⟨a, kvs, u, d, rfl, h, e, k⟩
theorem x_dput {M : Mem} {a : Addr} {u : Ob → Mem} {f : Str} {d : D} {kvs' : List (Str × D)} {Q : Mem → Prop} (h : At M a (.dct kvs) u) (hl : kvs.length < 1000) (hp : PutR f d kvs kvs') (k : Q (u (.dct kvs'))) : aDput (.r a) f d M Q := ⟨a, kvs, kvs', u, rfl, h, hl, hp, k⟩
/-! ### memory told in another order, less of it -/
theorem Fz.perm {xs : AS} {M M' : Mem} (h : M.Perm M') : Fz K xs M xs M' := fun F σ H rs fr =>
  ⟨F, Same.refl F, rs, fr.sub, fun p hp => fr.out p (h.mem_iff.mpr hp), (h.map (·.1)).nodup_iff.mp fr.nod, fun p hp => fr.at_ p (h.mem_iff.mpr hp)⟩
theorem FzV.perm {d : D} {M M' : Mem} (h : M.Perm M') : FzV K d M d M' := fun F v H rv fr =>
  ⟨F, Same.refl F, rv, fr.sub, fun p hp => fr.out p (h.mem_iff.mpr hp), (h.map (·.1)).nodup_iff.mp fr.nod, fun p hp => fr.at_ p (h.mem_iff.mpr hp)⟩
/-- M' may be told as M, whatever else is known -/
def RelM (K : PySem.W.Frag) (M' M : Mem) : Prop := (∀ xs, Fz K xs M' xs M) ∧ ∀ d, FzV K d M' d M
theorem RelM.refl {M : Mem} : RelM K M M := ⟨fun _ => .refl, fun _ => .refl⟩
theorem RelM.trans {M1 M2 M3 : Mem} (a : RelM K M1 M2) (b : RelM K M2 M3) : RelM K M1 M3 := ⟨fun xs => (a.1 xs).trans (b.1 xs), fun d => (a.2 d).trans (b.2 d)⟩
theorem RelM.perm {M M' : Mem} (h : M.Perm M') : RelM K M M' := ⟨fun _ => .perm h, fun _ => .perm h⟩
theorem RelM.drop {M M' : Mem} {a : Addr} {o : Ob} (h : Rem M a o M') : RelM K M M' := ⟨fun _ => .drop h, fun _ => .drop h⟩
theorem RelM.hd {p : Addr × Ob} {M : Mem} : RelM K (p :: M) M := .drop (a := p.1) (o := p.2) .hd
theorem RelM.app {L M : Mem} : RelM K (L ++ M) M := by
  induction L with
  | nil => exact .refl
  | cons p L ih => exact RelM.hd.trans ih
theorem RelM.mid {T L M : Mem} : RelM K (T ++ (L ++ M)) (T ++ M) :=
  (RelM.perm (M' := L ++ (T ++ M)) (by rw [← List.append_assoc, ← List.append_assoc]; exact (List.perm_append_comm).append_right M)).trans .app
theorem At.left {L M : Mem} {a : Addr} {o : Ob} {u : Ob → Mem} (h : At L a o u) : At (L ++ M) a o (fun o' => u o' ++ M) := by
  induction h with
  | hd => exact .hd
  | tl _ ih => exact .tl ih
theorem At.rev {L : Mem} {a : Addr} {o : Ob} {u : Ob → Mem} (h : At L a o u) : At L.reverse a o (fun o' => (u o').reverse) := by
  induction h with
  | @hd M a o => simp only [List.reverse_cons]; exact At.under .hd
  | @tl M a o p u _ ih => simp only [List.reverse_cons]; exact At.left ih
end
end AV

set_option Elab.async false
set_option linter.all false
set_option maxRecDepth 100000
set_option maxHeartbeats 4000000
/-! A14: sums, more operators (own work). -/
namespace AV
open PySem PySem.Spec PyProof.Rows L2 G TL
section
variable {X : Cx} {K : PySem.W.Frag} {W : WX} {A : AX} {F H : Hp}
theorem g_sum (hc : X.calm = true) {K : PySem.W.Frag} (hK : X.K = K := by rfl) : CallR X (.builtin "sum") (rSum K) := by subst hK; exact cr_sum hc
inductive aSum : AN
  | mk {x : D} {ns : List Int} {M : Mem} {Q : AQ} : Ls M x (ns.map D.int) → Q (.int ns.sum) M → aSum [x] M Q
theorem o_sum (hc : X.calm = true) (hK : X.K = K := by rfl) : CallR X (.builtin "sum") (rSum K) ∧ OpN K (rSum K) aSum := ⟨g_sum hc hK, fun xs vs M F H B Q h r f l => by
  cases h with
  | mk hs h =>
    obtain ⟨v, vr, rfl, r1, r2⟩ := r.inv
    obtain rfl := r2.inv_nil
    obtain ⟨a, us, rfl, s, q⟩ := hs.at_ r1 f
    rw [q.ints] at s
    exact ⟨a, _, rfl, s, l.same h (.int _) f⟩⟩
theorem un1 {k : Nat} {A : Around} (hr : Room k A) : A.units + 1 < cLine := by have := hr.un; omega
end
end AV

set_option Elab.async false
set_option linter.all false
set_option maxRecDepth 100000
set_option maxHeartbeats 4000000
/-! A15: walks over a list that is still written (own work). -/
namespace AV
open PySem PySem.Spec PyProof.Rows L2 G TL
section
variable {X : Cx} {K : PySem.W.Frag} {W : WX} {A : AX} {F : Hp}
/-- J walks the items its, as long as N is so of the memory -/
structure WkN (K : PySem.W.Frag) (N : Mem → Prop) (F : Hp) (its : List D) (J : It) : Prop where
  ex : ∃ (G : Hp → Prop) (Y : Nat → Hp → V → Hp → Prop), Walk J its.length G Y ∧ (∀ M' F' H', Same F F' → N M' → Fr K M' F' H' → G H') ∧
    ∀ i H1 x H2 F1 M1 d, Y i H1 x H2 → its[i]? = some d → Same F F1 → N M1 → Fr K M1 F1 H1 → ∃ F2, Same F1 F2 ∧ Fr K M1 F2 H2 ∧ Rv K F2 x d
def HasL (o : Addr) (its : List D) (M : Mem) : Prop := ∃ u, At M o (.lst its) u
theorem wkN_list {a : Addr} {its : List D} : WkN K (HasL a its) F its (Itl K a) :=
  ⟨fun H => ∃ vs, SqL K H a vs ∧ vs.length = its.length, fun i H x H' => H' = H ∧ ∀ vs, SqL K H a vs → vs[i]? = some x,
    ⟨fun i _ hi ⟨vs, q, hl⟩ => ⟨vs, vs[i], q, by simp⟩, fun _ ⟨vs, q, hl⟩ => ⟨vs, q, by omega⟩, fun _ _ _ _ _ _ y => y⟩,
    fun M' F' H' _ ⟨u, ha⟩ f => by
      obtain ⟨vs, e, l⟩ := f.at_ _ ha.mem
      exact ⟨vs, SqL.of e, l.1⟩,
    fun i H1 x H2 F1 M1 d ⟨e1, h⟩ ed s ⟨u, ha⟩ f => by
      obtain ⟨vs, e, l⟩ := f.at_ _ ha.mem
      exact ⟨F1, Same.refl _, by rw [e1]; exact f, l.2 i x d (h vs (SqL.of e)) ed⟩⟩
def conIO (K : PySem.W.Frag) (W : WX) (A : AX) (ta : ATE) : TI := fun σ H R => ∃ (xs : AS) (M : Mem) (F : Hp) (B : Addr → List D → Mem → Prop), Rs K F xs σ ∧ Fr K M F H ∧ LnX K F A W ∧ (ta xs M fun x M1 => ∃ o its, x = .r o ∧ HasL o its M1 ∧ B o its M1) ∧
  ∀ o its M' J H' F', B o its M' → Same F F' → Fr K M' F' H' → WkN K (HasL o its) F' its J → R J H'
theorem ai_ofO {tg e : Expr} {ta : ATE} (h : PI X tg e (gIt K (conE K W A ta))) : PI X tg e (conIO K W A ta) := h.to fun σ H R ⟨xs, M, F, B, rs, fr, lx, h, l⟩ =>
  con_step rs fr lx h fun x M1 v H1 F1 ⟨o, its, ex, hl, h1⟩ s1 r1 f1 _ _ => by
    subst ex
    cases r1
    obtain ⟨u, ha⟩ := hl
    obtain ⟨vs, e1, q⟩ := f1.at_ _ ha.mem
    exact .inl ⟨o, rfl, ⟨vs, SqL.of e1⟩, l _ _ _ _ _ _ h1 s1 f1 wkN_list⟩
/-! comprehensions -/
def lcIsN (N : Mem → Prop) (a : Addr) (g : ATG) (tt : ATT) (te : ATE) (ws : AS) (its : List D) (M : Mem) (Q : List D → Mem → Prop) : Prop := ∃ I : Nat → List D → Mem → Prop, I 0 [] M ∧ (∀ i acc M, I i acc M → N M) ∧
  (∀ i d acc M, its[i]? = some d → I i acc M → g d ws M fun xs1 M1 => tt xs1 M1 fun b M2 =>
    if b = true then te xs1 M2 fun e M3 => ∃ u, At M3 a (.lst acc) u ∧ acc.length < sizeLine ∧ I (i + 1) (acc ++ [e]) (u (.lst (acc ++ [e])))
    else ∃ u, At M2 a (.lst acc) u ∧ I (i + 1) acc M2) ∧ ∀ acc M, I its.length acc M → Q acc M
variable {fin : Fin} {g : ATG} {tt : ATT} {te ta : ATE} {vs : List Nat}
@[reducible] def aLcO (fin : Fin) (ta : ATE) (g : ATG) (tt : ATT) (te : ATE) (vs : List Nat) : ATE := fun xs M Q => ta xs M fun x M1 => ∃ o its, x = .r o ∧ HasL o its M1 ∧ ∀ a, lcIsN (HasL o its) a g tt te (awipe xs vs) its ((a, .lst []) :: M1) fun acc M2 => fin a acc M2 Q
theorem lc_conO (hf : FinOk K fin) (σ : L2.St) (H : Hp) (Q : VK) (h : conE K W A (aLcO fin ta g tt te vs) σ H Q) : tLc (conIO K W A ta) (conG K W A vs g) (conT K W A tt) (conE K W A te) vs σ H Q := by
  obtain ⟨xs, M, F, B, rs, fr, lx, h, l⟩ := h
  refine ⟨xs, M, F, fun o its M1 => ∀ a, lcIsN (HasL o its) a g tt te (awipe xs vs) its ((a, .lst []) :: M1) fun acc M2 => fin a acc M2 B, rs, fr, lx, h, fun o its M1 J H1 F1 h1 s1 f1 wk => ?_⟩
  have rs1 := rs.same s1
  have lx1 := lx.mono s1
  obtain ⟨G, Y, w, hG, hY⟩ := wk.ex
  show LcIs J H1 (conG K W A vs g) (conT K W A tt) (conE K W A te) vs σ Q
  intro D0 hD
  obtain ⟨I, I0, IN, step, fins⟩ := h1 D0
  refine lc_it w (fun i H' => ∃ ds M' F', Same F1 F' ∧ Fr K M' F' H' ∧ I i ds M') ⟨[], _, F1, Same.refl F1, f1.own (o := .lst []) hD ⟨[], upd_same, .nil⟩, I0⟩ (fun i H' _ ⟨ds, M', F', s', f', q⟩ => hG M' F' H' s' (IN _ _ _ q) f') ?_ ?_
  · rintro i x H2 H3 hi ⟨ds, M', F', s2, f2, go⟩ y
    have hit : its[i]? = some its[i] := List.getElem?_eq_getElem hi
    obtain ⟨F3, s3, f3, rx⟩ := hY i H2 x H3 F' M' _ y hit s2 (IN _ _ _ go) f2
    have s13 := s2.trans s3
    refine ⟨its[i], awipe xs vs, M', F3, _, rx, (rs1.same s13).wipe vs, f3, lx1.mono s13, step i _ ds M' hit go, fun xs2 M2 σ2 H4 F4 h4 s4 rs4 f4 off => ⟨wipe_off off, ?_⟩⟩
    refine conT_step rs4 f4 (lx1.mono (s13.trans s4)) h4 fun b M5 H5 F5 h5 s5 f5 rs5 lx5 => ?_
    have s15 := (s13.trans s4).trans s5
    cases b with
    | true =>
      rw [if_pos rfl] at h5 ⊢
      refine con_step rs5 f5 lx5 h5 fun d M6 v6 H6 F6 ⟨u, ha, hz, h6⟩ s6 r6 f6 _ _ => ?_
      obtain ⟨ws, ew, rw6⟩ := f6.at_ _ ha.mem
      exact ⟨ws, ew, by rw [rw6.1]; exact hz, ds ++ [d], _, F6, s15.trans s6, f6.put (o' := .lst (ds ++ [d])) ha ⟨ws ++ [v6], upd_same, rw6.append (.cons r6 .nil)⟩, h6⟩
    | false =>
      rw [if_neg Bool.false_ne_true] at h5 ⊢
      obtain ⟨u, ha, h6⟩ := h5
      exact ⟨ds, M5, F5, s15, f5, h6⟩
  · rintro H' ⟨ds, M', F', s', f', go⟩
    obtain ⟨d, M3, F3, b, s3, r3, f3⟩ := hf _ _ _ _ _ _ (fins _ _ go) f'
    exact l _ _ _ _ _ b ((s1.trans s').trans s3) r3 f3
theorem a_lcO {e : Expr} (hf : FinOk K fin) (h : PE X e (tLc (conIO K W A ta) (conG K W A vs g) (conT K W A tt) (conE K W A te) vs)) : PE X e (conE K W A (aLcO fin ta g tt te vs)) := h.to fun σ H Q q => lc_conO hf σ H Q q
theorem as_setLcO {st : Stmt} {i : Nat} (hf : FinOk K fin) (h : PS X st (tAsg (tLc (conIO K W A ta) (conG K W A vs g) (conT K W A tt) (conE K W A te) vs) (gName i))) : PS X st (conS K W A (aAsg (aLcO fin ta g tt te vs) (agName i))) := h.to fun Q σ H ⟨xs, M, F, B, rs, fr, lx, h, l⟩ =>
  lc_conO (A := A) hf σ H _ ⟨xs, M, F, _, rs, fr, lx, h, fun d M1 v H1 F1 h1 s1 r1 f1 => l.nx _ _ _ _ _ h1 s1 ((rs.same s1).set r1) f1⟩
/-! for -/
def forIsN (K : PySem.W.Frag) (N : Mem → Prop) (g : ATG) (tb : ATS) (Q : AEnds) (its : List D) (xs : AS) (M : Mem) : Prop := ∃ I : Nat → AS → Mem → Prop, I 0 xs M ∧ (∀ i xs M, I i xs M → N M) ∧
  (∀ i d xs M, its[i]? = some d → I i xs M → g d xs M fun xs1 M1 => tb { Q with nx := Nx K (I (i + 1)), ct := Nx K (I (i + 1)), bk := Q.nx } xs1 M1) ∧ ∀ xs M, I its.length xs M → Q.nx xs M
@[reducible] def aForO (K : PySem.W.Frag) (ta : ATE) (g : ATG) (tb : ATS) : ATS := fun Q xs M => ta xs M fun x M1 => ∃ o its, x = .r o ∧ HasL o its M1 ∧ forIsN K (HasL o its) g tb Q its xs M1
theorem as_forO {st : Stmt} {t : ATS} (h : PS X st (tFor (conIO K W A ta) (conG K W A vs g) (conS K W A t))) : PS X st (conS K W A (aForO K ta g t)) := h.to fun Q σ H ⟨xs, M, F, B, rs, fr, lx, h, l⟩ => by
  refine ⟨xs, M, F, fun o its M1 => forIsN K (HasL o its) g t B its xs M1, rs, fr, lx, h, fun o its M1 J H1 F1 ⟨I, I0, IN, step, fins⟩ s1 f1 wk => ?_⟩
  obtain ⟨G, Y, w, hG, hY⟩ := wk.ex
  refine for_it w (fun i σ' H' => ∃ xs' M' F', Same F1 F' ∧ Rs K F' xs' σ' ∧ Fr K M' F' H' ∧ I i xs' M') ⟨xs, M1, F1, Same.refl F1, rs.same s1, f1, I0⟩ (fun i σ' H' _ ⟨xs', M', F', s', _, f', q⟩ => hG M' F' H' s' (IN _ _ _ q) f') ?_ ?_
  · rintro i x σ' H2 H3 hi ⟨xs', M', F', s2, rs2, f2, go⟩ y
    have hit : its[i]? = some its[i] := List.getElem?_eq_getElem hi
    obtain ⟨F3, s3, f3, rx⟩ := hY i H2 x H3 F' M' _ y hit s2 (IN _ _ _ go) f2
    have s13 := s2.trans s3
    refine ⟨its[i], xs', M', F3, _, rx, rs2.same s3, f3, lx.mono (s1.trans s13), step i _ xs' M' hit go, fun xs3 M3 σ3 H4 F4 h4 s4 rs4 f4 _ => ?_⟩
    have next : LnS K F4 (I (i + 1)) (fun σ' H' => ∃ xs' M' F', Same F1 F' ∧ Rs K F' xs' σ' ∧ Fr K M' F' H' ∧ I (i + 1) xs' M') :=
      fun xs5 M5 σ5 H5 F5 h5 s5 rs5 f5 => ⟨xs5, M5, F5, (s13.trans s4).trans s5, rs5, f5, h5⟩
    have lm := l.mono ((s1.trans s13).trans s4)
    exact ⟨xs3, M3, F4, _, rs4, f4, lx.mono ((s1.trans s13).trans s4), h4, Nx.ln next, lm.rt, lm.nx, Nx.ln next⟩
  · rintro σ' H' ⟨xs', M', F', s', rs', f', go⟩
    exact l.nx _ _ _ _ _ (fins _ _ go) (s1.trans s') rs' f'
end
section
variable {K : PySem.W.Frag} {xs : AS} {M : Mem} {Q : AQ} {B : AEnds} {tu : ATS} {te : ATE} {g : ATG} {a o : Addr} {its : List D}
theorem x_hasL {R : Addr → List D → Prop} {u : Ob → Mem} (h : At M o (.lst its) u) (k : R o its) : ∃ o' its', D.r o = .r o' ∧ HasL o' its' M ∧ R o' its' := ⟨o, its, rfl, ⟨u, h⟩, k⟩
theorem c_invO {fin : Fin} {tt : ATT} {ws : AS} (I : Nat → List D → Mem → Prop) (h0 : I 0 [] M) (hN : ∀ i acc M, I i acc M → HasL o its M)
    (hs : ∀ i d acc M, its[i]? = some d → acc.length ≤ i → I i acc M → g d ws ((a, .lst acc) :: M) fun xs1 M1 => tt xs1 M1 fun b M2 => if b = true then te xs1 M2 fun e M3 => LcN a I i acc e M3 else LcK a I i acc M2)
    (hd : ∀ acc M, acc.length ≤ its.length → I its.length acc M → fin a acc ((a, .lst acc) :: M) Q) : lcIsN (HasL o its) a g tt te ws its ((a, .lst []) :: M) fun acc M2 => fin a acc M2 Q :=
  ⟨LcW a I, ⟨M, rfl, Nat.le_refl _, h0⟩, fun i acc M ⟨M', em, _, h⟩ => by
    subst em
    obtain ⟨u, q⟩ := hN _ _ _ h
    exact ⟨_, .tl q⟩, fun i d acc M e ⟨M', em, hl, h⟩ => by subst em; exact hs i d acc M' e hl h, fun acc M ⟨M', em, hl, h⟩ => by subst em; exact hd acc M' hl h⟩
theorem f_allO (I : Nat → AS → Mem → Prop) (h0 : I 0 xs M) (hN : ∀ i xs M, I i xs M → HasL o its M)
    (hs : ∀ i d xs M, its[i]? = some d → I i xs M → g d xs M fun xs1 M1 => tu { B with nx := Nx K (I (i + 1)), ct := Nx K (I (i + 1)), bk := B.nx } xs1 M1)
    (hd : ∀ xs M, I its.length xs M → B.nx xs M) : forIsN K (HasL o its) g tu B its xs M := ⟨I, h0, hN, hs, hd⟩
end
end AV

set_option Elab.async false
set_option linter.all false
set_option maxRecDepth 100000
set_option maxHeartbeats 4000000
/-! A16: == of two lists of own instances that hold the same data (own work). -/
namespace AV
open PySem PySem.Spec PyProof.Rows L2 G TL
section
variable {X : Cx} {K : PySem.W.Frag} {W : WX} {A : AX} {F : Hp}
def RIns (K : PySem.W.Frag) (C : Addr) (p : List (Str × D) → Prop) (a b : Addr) (H : Hp) : Prop := ∃ fs, p fs ∧ Rv K H (.ref a) (.ins C fs) ∧ Rv K H (.ref b) (.ins C fs)
theorem RIns.mono {C : Addr} {p : List (Str × D) → Prop} : ∀ a b H H', Ext H H' → RIns K C p a b H → RIns K C p a b H' := fun a b H H' e ⟨fs, h, r1, r2⟩ => ⟨fs, h, r1.same e, r2.same e⟩
theorem spEq_of {asp : ASp} {C : Addr} {p : List (Str × D) → Prop} (h : ∀ fs M (Q : AQ), p fs → Q (.bl true) M → asp [.ins C fs, .ins C fs] M Q noX) : ∀ vs H Q E, spEq (RIns K C p) vs H Q E → conSp K asp vs H Q E := fun vs H Q E ⟨a, b, e, ⟨fs, hp, r1, r2⟩, q⟩ => by
  subst e
  refine ⟨[.ins C fs, .ins C fs], [], H, fun d _ => d = .bl true, noX, .cons r1 (.cons r2 .nil), ⟨Same.refl H, fun p hp => absurd hp (List.not_mem_nil), List.nodup_nil, fun p hp => absurd hp (List.not_mem_nil)⟩, h fs [] _ hp rfl, ?_, .none⟩
  intro d M' v H' F' ed s rv f
  subst ed
  cases rv
  exact q H' (s.trans f.sub)
def aEqIL (C : Addr) (p : List (Str × D) → Prop) : D → D → Mem → AQ → Prop := fun x y M Q => ∃ ds, (∀ d ∈ ds, ∃ fs, d = .ins C fs ∧ p fs) ∧ x = .lst ds ∧ y = .lst ds ∧ Q (.bl true) M
theorem o_eqIL {k : Nat} {C : Addr} {ps : List Str} {asp : ASp} {p : List (Str × D) → Prop} (c : MCal X.prog X.w X.K X.mg X.base CX0 k C "__eq__" ps (conSp K asp)) (h : ∀ fs M (Q : AQ), p fs → Q (.bl true) M → asp [.ins C fs, .ins C fs] M Q noX) (hr : Room (k + 1) X.A) (hK : X.K = K := by rfl) :
    OpR X (compareOp .Eq) (rEqG (DList (DIns C (RIns K C p)))) ∧ Op2 K (rEqG (DList (DIns C (RIns K C p)))) (aEqIL C p) := by
  subst hK
  refine ⟨?_, fun x y v w M F H B Q ⟨ds, hp, ex, ey, q⟩ r1 r2 f l => ?_⟩
  · obtain ⟨f, fd, M, hb, F⟩ := (c.imp (spEq_of h)).ex
    exact op_eqG (rcG_list (mon_ins RIns.mono) (eqG_ins (E := fun _ _ _ => False) F M.at_ M.fn hb pass0)) hr
  · subst ex ey
    obtain ⟨a, vs, rfl, e1, l1⟩ := r1.lst_inv0
    obtain ⟨b, ws, rfl, e2, l2⟩ := r2.lst_inv0
    refine ⟨⟨a, b, vs, ws, rfl, rfl, f.sub _ _ e1, f.sub _ _ e2, l1.1.trans l2.1.symm, fun i x y h1 h2 => ?_⟩, fun H' ex => l _ _ _ _ _ q (Same.refl F) (.bl true) (f.grow ex)⟩
    have hi := (List.getElem?_eq_some_iff.mp h1).1
    have hd : ds[i]? = some (ds[i]'(by rw [← l1.1]; exact hi)) := List.getElem?_eq_getElem _
    obtain ⟨fs, ed, hpf⟩ := hp _ (List.mem_of_getElem? hd)
    have ra := l1.2 i x _ h1 hd
    have rb := l2.2 i y _ h2 hd
    rw [ed] at ra rb
    have ra2 := ra
    have rb2 := rb
    obtain ⟨a', dx, vf, rfl, ea, _⟩ := ra.ins_inv
    obtain ⟨b', dy, vg, rfl, eb, _⟩ := rb.ins_inv
    exact ⟨a', b', dx, dy, vf, vg, rfl, rfl, f.sub _ _ ea, f.sub _ _ eb, fs, hpf, ra2.same f.sub, rb2.same f.sub⟩
end
end AV

set_option Elab.async false
set_option linter.all false
set_option maxRecDepth 100000
set_option maxHeartbeats 4000000
/-! A17: enumerate of a tuple (own work). -/
namespace PySem
open Sem (wp)
open AutoSeq1 (wpAny_loadPart')
theorem Draws.tuple' {prog : Program} {w : World} {A : Around} (hh : A.handled = none) (it l : Addr) (hne : l ≠ it) (items : Array Value) :
    Draws prog w A it [it, l] items.size (fun i v => items[i]? = some v) (fun i h => h.IsTupleIter it l i ∧ h.IsTuple l items) where
  live := fun _ _ st => let ⟨o, ho, _⟩ := st.1; ⟨o, ho⟩
  frame := fun _ _ _ st hk => ⟨st.1.at fun o e => hk it (by simp) o e, let ⟨o, ho, r⟩ := st.2; ⟨o, hk l (by simp) o ho, r⟩⟩
  item := fun i s Q E hi st hQ => by
    refine RZ.nextOf_tuple_item st.1 st.2 (x := items[i]) (by simp [hi]) fun h' hit' hs' => ?_
    exact hQ _ h' s.toks (by simp [hi]) ⟨hit', st.2.extBut hs'.extBut hne⟩ hs'
  done := fun s Q E st hE => RZ.nextOf_tuple_end hh st.1 st.2 (by simp) hE
set_option maxHeartbeats 1000000 in
theorem meets_enumerate_newT (l : Addr) (items : Array Value) (n : Nat) (dct : Option Addr) (sl : Array (Option Value)) :
    Meets (Builtin.«enumerate.__new__» ⟨[.type "enumerate", .ref l], []⟩) (fun _ R s => s.heap.get? l = some { cls := .type "tuple", dict := dct, data := .seq items n, slots := sl } ∧
      R (.ok (.ret (.ref (s.heap.push { cls := .type "tuple_iterator", data := .fields #[.ref l, .int 0 0] }).objs.size)))
        { s with heap := (s.heap.push { cls := .type "tuple_iterator", data := .fields #[.ref l, .int 0 0] }).push { cls := .type "enumerate", data := .fields #[.none, .bool false, .ref s.heap.objs.size, rawInt 0, .none, .none] } }) :=
  .of_wp fun prog w A R s h => by
    obtain ⟨hp, g, d, tk, os⟩ := s; obtain ⟨hl, h⟩ := h
    have hsub := sub_enumerate
    have hL : Heap.IsTuple (Shared.heap ⟨hp, g, d, tk, os⟩) l items := ⟨_, hl, rfl, n, rfl⟩
    wp_walk using wpAny_loadPart' hl
    refine wpAny_stack_any fun st => wpAny_pure ?_
    split
    · rename_i c _ _ _ _ _
      cases (c == Value.type "enumerate")
      · wp_walk using wpAny_loadPart' hl, wpAny_pyIter_tuple hL
        exact ⟨_, rfl, h⟩
      · wp_walk using wpAny_loadPart' hl, wpAny_pyIter_tuple hL
        exact ⟨_, rfl, h⟩
    · wp_walk using wpAny_loadPart' hl, wpAny_pyIter_tuple hL
      exact ⟨_, rfl, h⟩
section
variable {prog : Program} {w : World} {A : Around} {E : Value → Shared → Prop} {s : Shared}
theorem call_enumerate_tupleT {l : Addr} {items : Array Value} {Q : Value → Shared → Prop} (hL : s.heap.IsTuple l items)
    (h : ∀ h', IsEnum h' (s.heap.objs.size + 1) s.heap.objs.size 0 .none → h'.IsTupleIter s.heap.objs.size l 0 → h'.objs.size = s.heap.objs.size + 2 →
      (∀ b o, s.heap.get? b = some o → h'.get? b = some o) → Q (.ref (s.heap.objs.size + 1)) { s with heap := h' }) :
    wpAny (model prog w) A (call (.type "enumerate") [.ref l]) Q E s := by
  obtain ⟨⟨c, dct, dt, sl⟩, hl, hc, n, hd⟩ := hL
  replace hc : c = .type "tuple" := hc
  replace hd : dt = .seq items n := hd
  subst hc hd
  refine callType_new F.called_enumerate (by decide) (F.typeCall_enumerate_1 _) (F.newCall_enumerate_1 _) (fun obj => F.args_object_init_2 obj _) F.entry_enumerate_new
    (meets_enumerate_newT l items n dct sl) ⟨hl, ?_⟩
  have hz : (s.heap.push { cls := .type "tuple_iterator", data := .fields #[.ref l, .int 0 0] }).objs.size = s.heap.objs.size + 1 := Heap.size_push ..
  show _ ∧ _
  rw [hz]
  have he : IsEnum ((s.heap.push { cls := .type "tuple_iterator", data := .fields #[.ref l, .int 0 0] }).push
      { cls := .type "enumerate", data := .fields #[.none, .bool false, .ref s.heap.objs.size, rawInt 0, .none, .none] }) (s.heap.objs.size + 1) s.heap.objs.size 0 .none := by
    have := Heap.get?_push_size (s.heap.push { cls := .type "tuple_iterator", data := .fields #[.ref l, .int 0 0] })
      (o := { cls := .type "enumerate", data := .fields #[.none, .bool false, .ref s.heap.objs.size, rawInt 0, .none, .none] }) rfl
    rw [hz] at this; exact this
  refine ⟨⟨_, he, rfl⟩, h _ he ⟨_, Heap.get?_push_of_some _ (Heap.get?_push_size _ rfl), rfl, rfl⟩ (by rw [Heap.size_push, hz]) fun b o x => Heap.get?_push_of_some _ (Heap.get?_push_of_some _ x)⟩
end
end PySem
namespace L2
open PySem PySem.Spec PyProof.Rows
def IteT (K : PySem.W.Frag) (a : Addr) : It :=
  ⟨fun i H => ∃ (xs : List V) (x : V), SqT K H a xs ∧ xs[i]? = some x, fun i H v H' => ∃ T x, v = .ref T ∧ H T = none ∧ H' = upd H T (.tup [.int (i : Nat), x]) ∧ ∀ xs, SqT K H a xs → xs[i]? = some x, fun i H => ∃ xs : List V, SqT K H a xs ∧ xs.length ≤ i⟩
theorem turn_enumT {P : Program} {w : World} {K : PySem.W.Frag} {elts : List Expr} {kk : Nat} {tpos : Pos} (a e it : Addr) :
    Turn P w K (.Tuple elts kk tpos) (IteT K a) [e, it] e (fun i h => (∃ old, IsEnum h e it ((i : Nat) : Int) old) ∧ h.IsTupleIter it a i ∧ e ≠ it) where
  mem := by simp
  obj := fun i h st b hb => by
    obtain ⟨⟨old, he⟩, ⟨o, ho, hc, hd⟩, _⟩ := st
    have e' : b = e ∨ b = it := by simpa using hb
    rcases e' with z | z
    · rw [z]; exact ⟨_, he, fun v q => nomatch q⟩
    · rw [z]; exact ⟨o, ho, fun v q => by rw [hd] at q; cases q⟩
  keep := fun i h h' st k => let ⟨⟨old, he⟩, hi, hne⟩ := st; ⟨⟨old, k e (by simp) _ he⟩, hi.at fun o q => k it (by simp) o q, hne⟩
  item := by
    intro X hP hw hK hc i pins s σ H E I hf st hg
    subst hP hw hK
    obtain ⟨⟨old, he⟩, hit, hne⟩ := st
    obtain ⟨xs, x, hq, hx⟩ := hg
    obtain ⟨its, rv, p, hz⟩ := I.tuple hq
    obtain ⟨u, hu, ru⟩ := rv.get hx
    have p' : s.heap.IsTuple a its.toArray := p
    have hel : e < s.heap.objs.size := Heap.lt_size he
    have hil : it < s.heap.objs.size := by obtain ⟨_, q, _⟩ := hit; exact Heap.lt_size q
    have hea : e ≠ a := fun z => by
      obtain ⟨o, h1, h2, _⟩ := p'
      rw [← z] at h1
      have h3 := h1.symm.trans he
      cases h3
      exact absurd h2 (by simp)
    have hia : a ≠ it := fun z => by
      obtain ⟨o, h1, h2, _⟩ := p'
      obtain ⟨o', h3, h4, _⟩ := hit
      rw [z] at h1
      have h5 := h1.symm.trans h3
      cases h5
      rw [h2] at h4
      exact absurd h4 (by simp)
    have hn : i < its.toArray.size := by
      have := (List.getElem?_eq_some_iff.mp hu).1
      simpa using this
    refine wpAny_pyNext_enum_itemD (Draws.tuple' (prog := X.prog) (w := X.w) (A := X.A.in1) (show X.A.in1.handled = none from I.ok.hd hc) it a hia its.toArray) he ⟨hit, p'⟩ hn hne (by simp [hne, hea]) fun x' h' tk hx' ho hst' hT hsz hk => ?_
    obtain rfl : x' = u := by
      have : its.toArray[i]? = some u := by simpa using hu
      rw [this] at hx'
      exact (Option.some.inj hx').symm
    refine ⟨_, rfl, wpAny_letOwnedTupleGo_enum (s := { s with heap := h', toks := tk + 1 }) ho fun h'' he' sb => ?_⟩
    have hT2 : h''.get? s.heap.objs.size = some { cls := .type "tuple", data := .seq #[.int i tk, x'] } := (sb.2 _ (Nat.ne_of_gt hel)).trans hT
    have new : ObjOk X.prog X.w (upd H s.heap.objs.size (.tup [.int (i : Nat), x])) h'' s.heap.objs.size (.tup [.int (i : Nat), x]) :=
      ⟨by show 2 ≤ sizeLine; decide, [.int i tk, x'], .cons ⟨_, rfl⟩ (.cons ru .nil), ⟨_, hT2, rfl, _, rfl⟩⟩
    have I1 : Inv X pins σ (upd H s.heap.objs.size (.tup [.int (i : Nat), x])) { s with heap := h'', toks := tk + 1 } :=
      I.turnedNew (ch := [e, it]) (fun b ob hb q => (sb.2 b (fun z => hb (by simp [z]))).trans (hk b ob (fun z => hb (by simp [z])) (fun z => hb (by simp [z])) q)) hf (Nat.le_refl _) new
    refine ⟨.ref s.heap.objs.size, _, I1, rfl, ⟨_, x, rfl, I.hok.fresh (Nat.le_refl _), rfl, fun ys hy => by rw [I.tuple_inj hy hq]; exact hx⟩, ⟨⟨x', ?_⟩, hst'.1.at fun o q => (sb.2 it (Ne.symm hne)).trans q, hne⟩, fun b hb => ?_⟩
    · have e1 : ((i + 1 : Nat) : Int) = (i : Int) + 1 := by omega
      rw [e1]; exact he'
    · have hb' : b < s.heap.objs.size := by
        have e' : b = e ∨ b = it := by simpa using hb
        rcases e' with z | z
        · rw [z]; exact hel
        · rw [z]; exact hil
      rw [upd_ne (Nat.ne_of_lt hb')]
      exact (hf b hb).1
  done := by
    intro X hP hw hK hc i pins s σ H E I hf st hg
    subst hP hw hK
    obtain ⟨⟨old, he⟩, hit, hne⟩ := st
    obtain ⟨xs, hq, hx⟩ := hg
    obtain ⟨its, rv, p, hz⟩ := I.tuple hq
    have p' : s.heap.IsTuple a its.toArray := p
    obtain ⟨f0, f1, f2, f3, f4, f5⟩ := hf it (by simp)
    have hl := rv.length
    have hia : a ≠ it := fun z => by
      obtain ⟨o, h1, h2, _⟩ := p'
      obtain ⟨o', h3, h4, _⟩ := hit
      rw [z] at h1
      have h5 := h1.symm.trans h3
      cases h5
      rw [h2] at h4
      exact absurd h4 (by simp)
    refine wpAny_pyNext_enum_endD (A := X.A) (D := ⟨fun i h st => ?_, fun i h h' st hk => ?_, fun i s Q E hi st hQ => ?_, fun s Q E st hE => ?_⟩) (n := i) (fp := [it, a]) (P := fun _ _ => False) (St := fun j h => j = i ∧ h.IsTupleIter it a i ∧ h.IsTuple a its.toArray) he ⟨rfl, hit, p'⟩ fun h' eb => ⟨rfl, I.turned (t' := s.toks) (fun b o hb q => eb b o hb q) f0 f1 f3 f4 f5⟩
    · obtain ⟨_, ⟨o, ho, _⟩, _⟩ := st
      exact ⟨o, ho⟩
    · obtain ⟨e1, h1, h2⟩ := st
      exact ⟨e1, h1.at fun o e => hk it (by simp) o e, let ⟨o, ho, r⟩ := h2; ⟨o, hk a (by simp) o ho, r⟩⟩
    · obtain ⟨e1, _⟩ := st
      omega
    · obtain ⟨_, h1, h2⟩ := st
      exact RZ.nextOf_tuple_end (show X.A.in1.handled = none from I.ok.hd hc) h1 h2 (by simp; omega) hE
  self := fun A i s Q E st h => let ⟨⟨_, he⟩, _⟩ := st; wpAny_pyIter_enum he h
def iEnumT (K : PySem.W.Frag) (ta : TA) : TI := fun σ H R => ta σ H fun vs H1 => ∃ a xs, vs = [.ref a] ∧ SqT K H1 a xs ∧ R (IteT K a) H1
theorem pi_enumT {X : Cx} {e : Expr} {ta : TA} {p pos tpos : Pos} {elts : List Expr} {kk : Nat} (hg : Gl X "enumerate") (hm : X.mg "enumerate" = none) (ha : PA X [e] ta) (hs : starEach [e] X.env = [(false, eval e X.env)] := by rfl) :
    PI X (.Tuple elts kk tpos) (.Call (.Name "enumerate" p) [e] [] pos) (iEnumT X.K ta) := by
  refine ⟨fun pins s σ H R I h => ?_⟩
  refine Call_ (ld_blt I hg hm boot_enumerate (PyProof.Rows.callWith_type1 (thn (ha.run pos pins s σ H _ I h) fun us s1 ⟨vs, H1, I1, r1, q1⟩ => ?_) hs rfl))
  obtain ⟨a, xs, ex, hq, q⟩ := q1
  subst ex
  cases r1 with
  | cons r rr =>
    cases rr
    cases r
    obtain ⟨its, rv, p', hz⟩ := I1.tuple hq
    refine call_enumerate_tupleT (show s1.heap.IsTuple a its.toArray from p') fun h' he hit hsz hk => wpAny_pyIter_enum he ?_
    have I2 : Inv X pins σ H1 { s1 with heap := h' } := I1.kept (t' := s1.toks) hk
    refine ⟨s1.heap.objs.size + 1, [s1.heap.objs.size + 1, s1.heap.objs.size], _, _, H1, rfl, I2, turn_enumT a (s1.heap.objs.size + 1) s1.heap.objs.size, ⟨⟨.none, he⟩, hit, Nat.succ_ne_self _⟩, fun b hb => ?_, q⟩
    have e' : b = s1.heap.objs.size + 1 ∨ b = s1.heap.objs.size := by simpa using hb
    have hle : s1.heap.objs.size ≤ b := by
      rcases e' with z | z
      · rw [z]; exact Nat.le_add_right _ _
      · rw [z]; exact Nat.le_refl _
    exact I1.fpOk hle (I1.hok.fresh hle)
theorem walk_enumT {K : PySem.W.Frag} {a : Addr} {xs : List V} : Walk (IteT K a) xs.length (fun H => SqT K H a xs) (YPair (fun i => some (.int (i : Nat))) (fun i => xs[i]?)) := by
  refine ⟨fun i _ hi q => ⟨xs, xs[i], q, by simp [hi]⟩, fun _ q => ⟨xs, q, Nat.le_refl _⟩, fun i H v H' _ q y => ?_⟩
  obtain ⟨T, x, h1, h2, h3, h4⟩ := y
  exact ⟨T, .int (i : Nat), x, h1, h2, h3, rfl, h4 xs q⟩
end L2
namespace AV
open PySem PySem.Spec PyProof.Rows L2 G TL
section
variable {X : Cx} {K : PySem.W.Frag} {W : WX} {A : AX} {F : Hp}
@[reducible] def aiEnumT (t : ATA) : ATI := fun xs M R => t xs M fun ds M1 => ∃ its, ds = [.tup its] ∧ R (enD its) M1
theorem wk_enumT {a : Addr} {vs : List V} {its : List D} (hs : SqT K F a vs) (r : RvL K F vs its) : Wk K F (enD its) (IteT K a) :=
  ⟨fun H => SqT K H a vs, YPair (fun i => some (.int (i : Nat))) (fun i => vs[i]?), by rw [enD_len, ← r.1]; exact walk_enumT, fun M' F' H' s f => (hs.ext s).ext f.sub, fun i H1 v H2 F1 M1 d ⟨T, x, y, e1, hn, e2, ex, ey⟩ ed s f => by
    subst e1 e2
    obtain ⟨y', e3, rfl⟩ := enD_get ed
    obtain ⟨s2, f2⟩ := f.data (ho := .tup [x, y]) hn
    cases ex
    exact ⟨_, s2, f2, .of_tup (SqT.of upd_same) (.cons (.int _) (.cons ((r.2 i y y' ey e3).same (s.trans s2)) .nil))⟩⟩
theorem ai_enumT {tg e : Expr} {t : ATA} (h : PI X tg e (iEnumT X.K (conA K W A t))) (hK : X.K = K := by rfl) : PI X tg e (conI K W A (aiEnumT t)) := by
  subst hK
  exact h.to fun σ H R ⟨xs, M, F, B, rs, fr, lx, h, l⟩ => conA_step rs fr lx h fun ds M1 vs H1 F1 ⟨its, hk, h1⟩ s1 r1 f1 _ _ => by
    subst hk
    obtain ⟨v, vr, rfl, r2, r3⟩ := r1.inv
    obtain rfl := r3.inv_nil
    obtain ⟨a, us, rfl, sa, qa⟩ := r2.tup_inv
    exact ⟨a, us, rfl, sa.ext f1.sub, l _ _ _ _ _ h1 s1 f1 (wk_enumT sa qa)⟩
theorem s_ent {R : List D → Prop} {ys : List D} (h : R ys) : ∃ its, [D.tup ys] = [.tup its] ∧ R its := ⟨ys, rfl, h⟩
end
end AV

set_option Elab.async false
set_option linter.all false
set_option maxRecDepth 100000
set_option maxHeartbeats 4000000
/-! A18: keyword-only defaults, a tuple's index, max of a list (own work). -/
namespace PySem
open Sem (wp)
open AutoSeq1
set_option maxRecDepth 8000 in
theorem meets_extend_tupA (l b : Addr) (xs ys : Array Value) (n m : Nat) (dct : Option Addr) (sl : Array (Option Value)) (h0 : ¬(!xs.isEmpty && Builtin.List.listTooLong (xs.size + ys.size)) = true) (h1 : xs.size ≤ sizeLine) (h2 : xs.size + ys.size ≤ sizeLine + 1) :
    Meets (Builtin.«list.extend» ⟨[.ref l, .ref b], []⟩) (fun _ R s =>
      (s.heap.get? l = some { cls := .type "list", dict := none, data := .seq xs n, slots := #[] }) ∧
      (s.heap.get? b = some { cls := .type "tuple", dict := dct, data := .seq ys m, slots := sl }) ∧
      (R (.ok (.ret Value.none)) { s with heap := s.heap.update l (Obj.mapSeq fun x => x ++ ys), toks := s.toks })) :=
  .of_wp fun prog w A R s h => by
    obtain ⟨hp, g, d, tk, os⟩ := s
    obtain ⟨hl, hb, h⟩ := h
    have q1 := idx_int
    have q2 := sub_tuple_tuple
    have q3 := sub_list_list
    have q4 := sub_tuple_list
    have q5 := sub_list_tuple
    have hz : (xs ++ ys).size ≤ sizeLine + 1 := by
      rw [Array.size_append]
      exact h2
    wp_walk using (wpAny_updateSeq hl rfl (hz := h1) (_hz' := hz)), wpAny_loadPart' hl, wpAny_loadPart' hb
    exact ⟨_, rfl, h⟩
end PySem
namespace AV
open PySem PySem.Spec PyProof.Rows L2 G TL
/-! ### defs with keyword-only parameters -/
def FunAtD (K : PySem.W.Frag) (mg : Str → Option Value) (x qual : Str) (st : Stmt) (kws : List (Str × V)) : Prop := ∃ f fd, mg x = some (.ref f) ∧ FunD K x qual (defArgs st) (defBody st) (defScope st) [] kws f fd
theorem funD_mk {K : PySem.W.Frag} {x qual : Str} {st : Stmt} {kws : List (Str × V)} {f D : Addr} {oc doc pm cdv ct : Value} {od an : Option Addr} {osl : Array (Option Value)} (l : K.lookup f = some ⟨oc, od, .func (PySem.W.fnOf x qual (defArgs st) (defBody st) (defScope st) .none (.ref D) doc pm an cdv ct), osl⟩)
    (c : PySem.W.codeIn K cdv qual = true) (k : PySem.W.keepIn K (.ref f) = true) (h : ∀ q ∈ kws, ∃ u, PySem.W.nsIn K D q.1 = some (some u) ∧ RelV q.2 u) : FunD K x qual (defArgs st) (defBody st) (defScope st) [] kws f (PySem.W.fnOf x qual (defArgs st) (defBody st) (defScope st) .none (.ref D) doc pm an cdv ct) :=
  ⟨⟨oc, od, .none, .ref D, doc, pm, an, cdv, ct, osl, rfl, l, c, .inl ⟨rfl, rfl⟩, .inr ⟨D, rfl, h⟩⟩, k⟩
/-- n are written by their places, the rest by keywords or by their defaults -/
structure CalD (P : Program) (w : World) (K : PySem.W.Frag) (mg : Str → Option Value) (base : Heap) (CX : CXT) (k : Nat) (x : Str) (n : Nat) (ps : List Str) (kws : List (Str × V)) (sp : Sp) : Prop where
  ex : ∃ f fd, mg x = some (.ref f) ∧ PySem.W.keepIn K (.ref f) = true ∧ (∃ ds, Vals (kws.map (·.2)) ds ∧ Binds K fd ps ds) ∧ (∀ (s : Shared) (us ws : List Value), us.length = n → ws.length = kws.length → BindsTo s fd ⟨us, (kws.map (·.1)).zip ws⟩ (ps.zip (us ++ ws))) ∧ FnOk P w K mg base CX k f fd ps sp
section
variable {P : Program} {w : World} {K : PySem.W.Frag} {mg : Str → Option Value} {base : Heap} {k : Nat} {x qual : Str} {ps N : List Str} {st : Stmt} {asp asp' : ASp} {kws : List (Str × V)} {CX : CXT} {sp sp' : Sp}
theorem CalD.imp {n : Nat} (C : CalD P w K mg base CX k x n ps kws sp) (h : ∀ vs H Q E, sp' vs H Q E → sp vs H Q E) : CalD P w K mg base CX k x n ps kws sp' := by
  obtain ⟨f, fd, m, kp, a, b, F⟩ := C.ex
  exact ⟨f, fd, m, kp, a, b, F.imp h⟩
theorem def_AXD (F : FunAtD K mg x qual st kws) (S : FnScope N ps (defScope st)) (n : Nat) (hk : kws ≠ []) (hn : n + kws.length = ps.length)
    (h0 : ∀ (D : Addr) (doc pm : Value) (an : Option Addr) (cdv ct : Value) (us ks : List Value), us.length = n → ks.length = kws.length → KwChain D ((kws.map (·.1)).zip ks) (bindArgs (PySem.W.fnOf x qual (defArgs st) (defBody st) (defScope st) .none (.ref D) doc pm an cdv ct) ⟨us, []⟩) (ps.zip (us ++ ks)))
    (h1 : ∀ (kV doc pm : Value) (an : Option Addr) (cdv ct : Value) (us ws : List Value), us.length = n → ws.length = kws.length → bindArgs (PySem.W.fnOf x qual (defArgs st) (defBody st) (defScope st) .none kV doc pm an cdv ct) ⟨us, (kws.map (·.1)).zip ws⟩ = pure (ps.zip (us ++ ws)))
    (len : ∀ ds M Q E, asp ds M Q E → ds.length = ps.length)
    (body : ∀ (f : Addr) (cdv : Value) (Ar : Around) (outer : List Env) (s : Shared) (H : Hp) (E : XK) (ds : List D) (M : Mem) (Q : AQ) (EX : AXc), Room k (Ar.deeper (envOfC qual (defScope st) s.heap.objs.size f cdv)) → asp ds M Q EX →
      ∃ t, PSs (cxOf (HX P w) P w K mg base N qual (defScope st) f cdv Ar outer s H E) (defBody st) (conS K (fun cls d _ H => E cls d H) (fun C fs _ M => EX C fs M) t) ∧ t { nx := fun _ M' => Q .non M', rt := Q } (astart N ds) M) : CalD P w K mg base (HX P w) (k + 1) x n ps kws (conSp K asp) := by
  obtain ⟨f, fd, m, G⟩ := F
  refine ⟨f, fd, m, G.kp, G.binds0 n hk hn h0, ?_, G.ok S (conSp.len len) fun cdv Ar outer s H vs Q E hr ⟨ds, M, F0, B, BX, r, fr, h, l, lc⟩ => ?_⟩
  · obtain ⟨oc, od, dV, kV, doc, pm, an, cdv, ct, osl, rfl, lk, hcd, hD, hK⟩ := G.ex
    intro s us ws l1 l2
    rcases hD with ⟨_, rfl⟩ | ⟨e, _⟩
    · exact .of_eq (h1 kV doc pm an cdv ct us ws l1 l2)
    · exact absurd rfl e
  · obtain ⟨t, d, q⟩ := body f cdv Ar outer s H E ds M B BX hr h
    exact ⟨_, d, body_con (body := defBody st) (X := cxOf (HX P w) P w K mg base N qual (defScope st) f cdv Ar outer s H E) r fr (lnc_x lc) l q⟩
end
section
variable {X : Cx} {K : PySem.W.Frag} {W : WX} {A : AX} {F : Hp} {k n : Nat} {x : Str} {ps : List Str} {sp : Sp} {asp : ASp} {p pos kpos : Pos} {e d : Expr} {es : List Expr} {t tk : TA} {ta td : ATE} {ar : ATA} {kws : List (Str × V)} {nm : Str} {dv : V} {dd : D}
/-- f(..): the keyword-only ones by their defaults -/
theorem g_callD (c : CalD X.prog X.w X.K X.mg X.base (HX X.prog X.w) k x n ps kws sp) (hr : Room k X.A) (hg : Gl X x) (tk : L2N.Takes X W) (ha : PA X (e :: es) t) (hdb : (x == ("__debug__" : Str)) = false := by decide)
    (he : starEach (e :: es) X.env = (false, eval e X.env) :: starEach es X.env := by rfl) (hpl : (backTo pos (starEach es X.env)).any (·.1) = false := by rfl) : PE X (.Call (.Name x p) (e :: es) [] pos) (tCallSD sp (kws.map (·.2)) (WE W) t) := by
  obtain ⟨f, fd, m, kp, ⟨ds, hd, b⟩, _, F⟩ := c.ex
  exact pe_callSD F hr hg m kp b hd (fun σ => L2N.passAt tk σ) ha hdb he hpl
@[reducible] def aCallD (A : AX) (asp : ASp) (us : List D) (t : ATA) : ATE := fun xs M Q => t xs M fun ds M1 => asp (ds ++ us) M1 Q fun C fs M' => A C fs xs M'
theorem a_callD {us : List D} {vs : List V} (h : PE X e (tCallSD (conSp K asp) vs (WE W) (conA K W A ar))) (hv : ∀ F, RvL K F vs us) : PE X e (conE K W A (aCallD A asp us ar)) := h.to fun σ H Q ⟨xs, M, F, B, rs, fr, lx, h, l⟩ =>
  conA_step rs fr lx h fun ds M1 vs H1 F1 h1 s1 r1 f1 rs1 lx1 => ⟨ds ++ us, M1, F1, B, _, r1.append (hv F1), f1, h1, l.mono s1, fun C fs M2 H2 F2 dd a s f2 => lx1 C fs xs M2 σ H2 F2 dd a s (rs1.same s) f2⟩
theorem rvl_bl {b : Bool} (F : Hp) : RvL K F [.bl b] [.bl b] := .cons (.bl b) .nil
/-- f(.., k = v): all the keyword-only ones are written -/
theorem g_callDK {ks : List Keyword} (c : CalD X.prog X.w X.K X.mg X.base (HX X.prog X.w) k x n ps kws sp) (hr : Room k X.A) (hg : Gl X x) (tk' : L2N.Takes X W) (ha : PA X (e :: es) t) (hk : PK X ks tk) (hall : (backToKw pos (keywordEach ks X.env)).all (·.1.isSome) = true := by rfl) (hks : (backToKw pos (keywordEach ks X.env)).filterMap (·.1) = kws.map (·.1) := by rfl)
    (hdb : (x == ("__debug__" : Str)) = false := by decide) (he : starEach (e :: es) X.env = (false, eval e X.env) :: starEach es X.env := by rfl)
    (hpl : ((backTo pos (starEach (e :: es) X.env)).any (·.1) || (backToKw pos (keywordEach ks X.env)).any (·.1.isNone)) = false := by rfl) :
    PE X (.Call (.Name x p) (e :: es) ks pos) (fun σ H Q => t σ H fun vs H1 => tk σ H1 fun zs H2 => vs.length = n ∧ zs.length = kws.length ∧ sp (vs ++ zs) H2 Q (WE W σ)) := by
  obtain ⟨f, fd, m, kp, _, b, F⟩ := c.ex
  refine ⟨fun pins s σ H Q I h => ?_⟩
  refine wpAny_Call_Name_kw (ld_glob I hg m ?_ hdb)
  refine PySem.W.callWith_KW (h₀ := X.base) I.ok.mod.kin kp hall (thn (ha.run pos pins s σ H _ I h) fun us s1 ⟨vs, H1, I1, r, q⟩ => ?_) hpl he
  refine thn (hk.run pos pins s1 σ H1 _ I1 q) fun ws s2 ⟨zs, H2, I2, rz, l1, l2, q2⟩ => ⟨I2.kIn, ?_⟩
  rw [hks]
  have r2 := r.append rz
  refine wpAny_call (codeAny_mono (F.run X.A X.stack s2 H2 ⟨us, (kws.map (·.1)).zip ws⟩ (us ++ ws) (vs ++ zs) Q (WE W σ) hr I2.env0 (b s2 us ws (r.length.symm.trans l1) (rz.length.symm.trans l2)) r2 q2) fun rr s' hq => ?_)
  cases rr with
  | error e => exact (L2N.passAt tk' σ) pins H2 s2 e s' I2 hq
  | ok fl =>
    cases fl with
    | ret u => exact I2.after hq
    | next => exact False.elim hq
    | brk => exact False.elim hq
    | cont => exact False.elim hq
@[reducible] def aCallDK (A : AX) (asp : ASp) (n : Nat) (t : ATA) (td : ATE) : ATE := fun xs M Q => t xs M fun ds M1 => td xs M1 fun d M2 => ds.length = n ∧ asp (ds ++ [d]) M2 Q fun C fs M' => A C fs xs M'
theorem a_callDK {ex : Expr} {m : Nat} (h : PE X ex (fun σ H Q => conA K W A ar σ H fun vs H1 => tCons (conE K W A td) tNil σ H1 fun zs H2 => vs.length = n ∧ zs.length = m ∧ conSp K asp (vs ++ zs) H2 Q (WE W σ))) (hm : m = 1 := by rfl) : PE X ex (conE K W A (aCallDK A asp n ar td)) := h.to fun σ H Q ⟨xs, M, F, B, rs, fr, lx, h, l⟩ =>
  conA_step rs fr lx h fun ds M1 vs H1 F1 h1 s1 r1 f1 rs1 lx1 => con_step rs1 f1 lx1 h1 fun d M2 v H2 F2 ⟨hl, h2⟩ s2 r2 f2 rs2 lx2 =>
    ⟨r1.1.trans hl, hm.symm, ds ++ [d], M2, F2, B, _, (r1.same s2).append (.cons r2 .nil), f2, h2, l.mono (s1.trans s2), fun C fs M3 H3 F3 dd a s f3 => lx2 C fs xs M3 σ H3 F3 dd a s (rs2.same s) f3⟩
/-! ### a tuple's index -/
def ModTupI (K : PySem.W.Frag) (mg : Str → Option Value) (n : Str) (zs : List Str) : Prop := ∃ a o its m, mg n = some (.ref a) ∧ K.lookup a = some o ∧ o.cls = .type "tuple" ∧ o.dict = none ∧ o.data = .seq its m ∧ its.size ≤ sizeLine ∧ Vals (zs.map V.str) its.toList
@[reducible] def aTix (zs : List Str) (t : ATA) : ATE := fun xs M Q => t xs M fun ds M1 => ∃ (z : Str) (j : Nat), ds = [.str z] ∧ zs[j]? = some z ∧ (∀ m, m < j → zs[m]? ≠ some z) ∧ Q (.int (j : Nat)) M1
theorem a_tix {zs : List Str} {cpos apos npos : Pos} (hm : ModTupI X.K X.mg x zs) (hg : Gl X x)
    (h : ∀ {o : Expr} {to : TE}, PE X o to → attributeBase o "index" X.env (eval o X.env) = eval o X.env → PE X (.Call (.Attribute o "index" apos) (e :: es) [] cpos) (tBM X.K "tuple" (fun x xs H Q => ∃ p, ∃ ys : List Str, ∃ z j, x = .ref p ∧ xs = [.str z] ∧ SqT X.K H p (ys.map V.str) ∧ ys[j]? = some z ∧ (∀ m, m < j → ys[m]? ≠ some z) ∧ Q (.int (j : Nat)) H) to (conA K W A ar))) (hK : X.K = K := by rfl) (hdb : (x == ("__debug__" : Str)) = false := by decide) :
    PE X (.Call (.Attribute (.Name x npos) "index" apos) (e :: es) [] cpos) (conE K W A (aTix zs ar)) := by
  obtain ⟨a, o, its, m, hmg, lk, oc, od, ot, sz, vs⟩ := hm
  subst hK
  refine (h (pe_glob (v := .ref a) hg hmg rfl hdb) rfl).to fun σ H Q ⟨xs, M, F, B, rs, fr, lx, h, l⟩ => ?_
  refine ⟨.inr (.inl ⟨rfl, o, lk, oc, od⟩), conA_step rs fr lx h fun ds M1 us H1 F1 ⟨z, j, ed, hz, hno, q⟩ s1 r1 f1 _ _ => ?_⟩
  subst ed
  obtain ⟨v, vr, rfl, rv, rr⟩ := r1.inv
  obtain rfl := rr.inv_nil
  cases rv
  exact ⟨a, zs, z, j, rfl, rfl, .inr ⟨o, its, m, lk, oc, ot, sz, vs⟩, hz, hno, l _ _ _ _ _ q s1 (.int _) f1⟩
theorem modTupI_mk {K : PySem.W.Frag} {mg : Str → Option Value} {n : Str} {a : Addr} {its : Array Value} {m : Nat} {sl : Array (Option Value)} {zs : List Str} (h1 : mg n = some (.ref a)) (h2 : K.lookup a = some ⟨.type "tuple", none, .seq its m, sl⟩) (h5 : its.size ≤ sizeLine) (h6 : Vals (zs.map V.str) its.toList) : ModTupI K mg n zs :=
  ⟨a, _, its, m, h1, h2, rfl, rfl, rfl, h5, h6⟩
/-! ### xs.extend(t) of a tuple -/
def rExtT (K : PySem.W.Frag) : V → List V → Hp → VK → Prop := fun x vs H Q => ∃ l b xs zs, x = .ref l ∧ vs = [.ref b] ∧ H l = some (.lst xs) ∧ SqT K H b zs ∧ xs.length + zs.length ≤ sizeLine ∧ Q .non (upd H l (.lst (xs ++ zs)))
theorem mt_extT : MtM X "list.extend" (rExtT X.K) := by
  intro pins s σ H x vs v us Q I rx rv h
  obtain ⟨l, b, xs, zs, rfl, rfl, hH, hB, hz, q⟩ := h
  cases rx
  obtain ⟨u, rfl, ru⟩ := rv.one
  cases ru
  obtain ⟨z, its, n, r, hl, e⟩ := I.lstM hH
  obtain ⟨its2, r2, p2, hz2⟩ := I.tuple hB
  have hl2 := r2.length
  obtain ⟨⟨c, dct, dt, sl⟩, e2, hc, m, hd⟩ := p2
  replace hc : c = .type "tuple" := hc
  replace hd : dt = .seq its2.toArray m := hd
  subst hc hd
  have hsz : its.toArray.size + its2.toArray.size ≤ sizeLine := by rw [List.size_toArray, List.size_toArray]; omega
  have hlong : ¬ (!its.toArray.isEmpty && Builtin.List.listTooLong (its.toArray.size + its2.toArray.size)) = true := by
    rw [notLongL hsz, Bool.and_false]
    exact Bool.false_ne_true
  refine call_meets F.slot_list_extend ⟨_, e, rfl⟩ F.entry_list_extend (F.args_list_extend_2 _ _) (meets_extend_tupA l b its.toArray its2.toArray n m dct sl hlong (by rw [List.size_toArray]; omega) (by omega)) ⟨e, e2, ?_⟩
  refine ⟨.non, _, I.lset (its' := its ++ its2) hH e (by simp) (r.append r2) ?_, rfl, q⟩
  rw [List.length_append]
  omega
inductive aExtT : AM
  | mk {a : Addr} {xs ys : List D} {u : Ob → Mem} {M : Mem} {Q : AQ} : At M a (.lst xs) u → xs.length + ys.length ≤ sizeLine → Q .non (u (.lst (xs ++ ys))) → aExtT (.r a) [.tup ys] M Q
theorem o_extT : OpM K (rExtT K) aExtT := fun x xs v vs M F H B Q h r1 r f l => by
  cases h with
  | mk ha hl h =>
    cases r1
    obtain ⟨w, vr, rfl, r2, r3⟩ := r.inv
    obtain rfl := r3.inv_nil
    obtain ⟨us, e, q⟩ := f.at_ _ ha.mem
    obtain ⟨b, ws, rfl, s2, q2⟩ := r2.tup_at f
    exact ⟨_, b, us, ws, rfl, rfl, e, s2, by rw [q.1, q2.1]; exact hl, l.same h .non (f.put ha ⟨_, upd_same, q.append q2⟩)⟩
/-! ### max of a list -/
inductive aMaxL : AN
  | mk {y : D} {ns : List Int} {M : Mem} {Q : AQ} : Ls M y (ns.map D.int) → 0 < ns.length → (∀ m, m ∈ ns → (∀ y ∈ ns, y ≤ m) → Q (.int m) M) → aMaxL [y] M Q
theorem o_maxL (hc : X.calm = true) (hK : X.K = K := by rfl) : CallR X (.builtin "max") (rMax K) ∧ OpN K (rMax K) aMaxL := by
  subst hK
  refine ⟨cr_max hc, fun xs vs M F H B Q h r f l => ?_⟩
  cases h with
  | mk hs hl h =>
    obtain ⟨v, vr, rfl, r1, r2⟩ := r.inv
    obtain rfl := r2.inv_nil
    obtain ⟨a, us, rfl, s, q⟩ := hs.at_ r1 f
    rw [q.ints] at s
    exact ⟨a, _, rfl, s, hl, fun m h1 h2 => l.same (h m h1 h2) (.int _) f⟩
theorem max_default {prog : Program} {w : World} {A : Around} {E : Value → Shared → Prop} {s : Shared} {l : Addr} {its : List Value} {ns : List Int} {d : Value} {Q : Value → Shared → Prop} (hh : A.handled = none) (hl : s.heap.IsList l its.toArray) (hi : IntsAre its ns)
    (h0 : ns = [] → ∀ h' tk, (∀ b o, s.heap.get? b = some o → h'.get? b = some o) → Q d { s with heap := h', toks := tk })
    (h : ∀ h' tk M t', (∀ b o, s.heap.get? b = some o → h'.get? b = some o) → M ∈ ns → (∀ a, a ∈ ns → a ≤ M) → Q (.int M t') { s with heap := h', toks := tk }) : wpAny (model prog w) A (call (.builtin "max") [.ref l] [(Str.ofString "default", d)]) Q E s := by
  obtain ⟨xs, e⟩ := hi.allInts.items
  have hn : numsOf (intItems xs).toList = ns := by rw [← e]; exact hi.numsOf
  rw [nums_intItems] at hn
  subst hn
  rw [e] at hl
  refine call_max_walkD (PySem.W.iter_listW (A := A.in1) hh hl fun s₂ e W st hfp hw hk => ?_)
  refine ⟨_, _, _, _, _, _, _, s.heap, (fun i j => decide (numAt xs i > numAt xs j)), rfl, W, st, hfp, hw, hk, fun hz s' m => ?_, fun hp => ⟨fun i j vi vj s' Q E _ h1 h2 hq => CmpOf.ints_gt (numAt xs) (fun _ _ => intItems_at) i j vi vj s' Q E h1 h2 hq, fun v s' hP m => ?_⟩⟩
  · obtain ⟨h', tk, rfl, hk'⟩ := PySem.W.moved_old e rfl m
    refine h0 ?_ h' tk hk'
    have : xs = #[] := by simpa [intItems] using hz
    rw [this]
    rfl
  · obtain ⟨h', tk, rfl, hk'⟩ := PySem.W.moved_old e rfl m
    obtain ⟨t, rfl⟩ := intItems_at hP
    have hsz : 0 < xs.size := by simpa [intItems] using hp
    have ez : (intItems xs).size = xs.size := by simp [intItems]
    rw [ez] at hP ⊢
    obtain ⟨h1, h2⟩ := argBest_gt (numAt xs) (xs.size - 1)
    refine h h' tk _ t hk' ?_ fun a ha => ?_
    · rw [numAt_eq]; exact PySem.getD_mem (by rw [List.length_map, Array.length_toList]; omega)
    · obtain ⟨j, hj, rfl⟩ := mem_getD ha
      rw [List.length_map, Array.length_toList] at hj
      rw [← numAt_eq]; exact h2 j (by omega)
def rMaxDf (K : PySem.W.Frag) : List V → List V → Hp → VK → Prop := fun vs zs H Q => ∃ (a : Addr) (ns : List Int) (i : Int), vs = [V.ref a] ∧ zs = [.int i] ∧ SqL K H a (ns.map V.int) ∧ (ns = [] → Q (.int i) H) ∧ ∀ m, m ∈ ns → (∀ y ∈ ns, y ≤ m) → Q (.int m) H
theorem cr_maxDf (hc : X.calm = true) : CallRK X (.builtin "max") [Str.ofString "default"] (rMaxDf X.K) := by
  intro pins s σ H vs zs us ws Q I r rz h
  obtain ⟨a, ns, i, rfl, rfl, hs, h0, h1⟩ := h
  obtain ⟨its, rv, hl, _⟩ := I.list hs
  rw [Vals.ref1 r]
  obtain ⟨w1, rfl, t, rfl⟩ := vals1 rz
  exact max_default (I.ok.hd hc) hl.isList rv.ints (fun e h' tk hk => ⟨.int i, H, I.kept hk, ⟨_, rfl⟩, h0 e⟩) fun h' tk m t' hk g1 g2 => ⟨.int _, H, I.kept hk, ⟨_, rfl⟩, h1 m g1 g2⟩
@[reducible] def aMaxDf (t : ATA) (td : ATE) : ATE := fun xs M Q => t xs M fun ds M1 => td xs M1 fun d M2 => ∃ (y : D) (ns : List Int) (i : Int), ds = [y] ∧ d = .int i ∧ Ls M2 y (ns.map D.int) ∧ (ns = [] → Q (.int i) M2) ∧ ∀ m, m ∈ ns → (∀ y ∈ ns, y ≤ m) → Q (.int m) M2
theorem a_maxDf {ex : Expr} (h : PE X ex (tCKw (rMaxDf X.K) (conA K W A ar) (tCons (conE K W A td) tNil))) (hK : X.K = K := by rfl) : PE X ex (conE K W A (aMaxDf ar td)) := by
  subst hK
  exact h.to fun σ H Q ⟨xs, M, F, B, rs, fr, lx, h, l⟩ => conA_step rs fr lx h fun ds M1 vs H1 F1 h1 s1 r1 f1 rs1 lx1 => con_step rs1 f1 lx1 h1 fun d M2 v H2 F2 ⟨y, ns, i, e1, e2, hs, h0, h2⟩ s2 r2 f2 _ _ => by
    subst e1 e2
    obtain ⟨v1, vr, rfl, r3, r4⟩ := r1.inv
    obtain rfl := r4.inv_nil
    cases r2
    obtain ⟨a, us, rfl, s, q⟩ := hs.at_ (r3.same s2) f2
    rw [q.ints] at s
    exact ⟨a, ns, i, rfl, rfl, s, fun e => l _ _ _ _ _ (h0 e) (s1.trans s2) (.int _) f2, fun m g1 g2 => l _ _ _ _ _ (h2 m g1 g2) (s1.trans s2) (.int _) f2⟩
end
end AV

local macro_rules | `(tactic| walk_at "kit") => `(tactic| with_reducible first | exact G.kit_N_tuple | exact G.kit_N_list | exact G.kit_N_bool | exact G.kit_N_int | exact G.kit_N_str | exact G.kit_B_tuple | exact G.kit_B_list | exact G.kit_B_bool | exact G.kit_B_int | exact G.kit_B_str | exact G.kit_I_tuple | exact G.kit_I_list | exact G.kit_I_bool | exact G.kit_I_int | exact G.kit_I_str | exact G.kit_S_tuple | exact G.kit_S_list | exact G.kit_S_bool | exact G.kit_S_int | exact G.kit_S_str | exact G.kit_L_tuple | exact G.kit_L_list | exact G.kit_L_bool | exact G.kit_L_int | exact G.kit_L_str | exact G.kit_T_tuple | exact G.kit_T_list | exact G.kit_T_bool | exact G.kit_T_int | exact G.kit_T_str)
local macro_rules | `(tactic| walk_at "at") => `(tactic| with_reducible first | exact AV.At.hd | assumption | exact AV.At.put (by assumption) | (refine' AV.At.tl ?k6; (case k6 => walk_at "at")))
local macro_rules | `(tactic| walk_at "rem") => `(tactic| with_reducible first | exact AV.Rem.hd | assumption | (refine' AV.Rem.tl ?k6; (case k6 => walk_at "rem")))
local macro_rules | `(tactic| walk_at "sq") => `(tactic| with_reducible first | exact AV.Sq.d | exact AV.Sq.t | exact AV.Sq.s | assumption | (refine' AV.Sq.o ?k7; (case k7 => walk_at "at")))
local macro_rules | `(tactic| walk_at "ls") => `(tactic| with_reducible first | exact AV.Ls.d | exact AV.Ls.s | assumption | (refine' AV.Ls.o ?k7; (case k7 => walk_at "at")))
local macro_rules | `(tactic| walk_at "ins") => `(tactic| with_reducible first | exact AV.InsAt.d | assumption | (refine' AV.InsAt.o ?k7; (case k7 => walk_at "at")))
local macro_rules | `(tactic| walk_at "lk") => `(tactic| first | with_reducible exact AV.lk_hd | with_reducible exact AV.lk_nil | ((with_reducible refine' AV.lk_tl ?k4 ?k5); (case k4 => decide); (case k5 => walk_at "lk")))
local macro_rules | `(tactic| walk_at "putr") => `(tactic| first | with_reducible exact AV.PutR.hd | with_reducible exact AV.PutR.nil | ((with_reducible refine' AV.PutR.tl ?k4 ?k5); (case k4 => decide); (case k5 => walk_at "putr")))
local macro_rules | `(tactic| walk_at "kd") => `(tactic| with_reducible first | exact AV.Kd.non | exact AV.Kd.bl | exact AV.Kd.int | exact AV.Kd.str | exact AV.Kd.tup | exact AV.Kd.lst | (refine' AV.Kd.o ?k7; (case k7 => walk_at "at")))
local macro_rules | `(tactic| walk_at "sz") => `(tactic| first | assumption | decide | omega | (simp only [G.line_val, G.slen_app, G.slen_one, List.length_cons, List.length_nil, List.length_append, List.length_map, List.length_set, List.length_reverse] <;> first | decide | omega))
local macro_rules | `(tactic| walk_at "fact") => `(tactic| first | assumption | omega | decide)
local macro_rules | `(tactic| walk_at "wh") => `(tactic| with_reducible conv => whnf)
local macro_rules | `(tactic| walk_at "st") => `(tactic| (dsimp only [AV.astart, List.set_cons_succ, List.set_cons_zero, List.map, List.replicate, List.length, Nat.reduceSub, Nat.reduceAdd, List.cons_append, List.nil_append, List.append_nil]))
local macro_rules | `(tactic| walk_at "a1") => `(tactic| first
  | ((with_reducible refine' AV.x_var ?k1 ?_); (case k1 => rfl))
  | walk_at "av"
  | ((with_reducible refine AV.Nx.of ?_); (try walk_at "st"))
  | with_reducible refine AV.NxV.of ?_
  | walk_at "i1"
  | with_reducible refine AV.s_exbl ?_
  | with_reducible refine AV.s_exint ?_
  | ((with_reducible refine' AV.s_isKL ?k1 ?_); (case k1 => walk_at "at"))
  | with_reducible refine AV.s_isKD ?_
  | with_reducible refine AV.s_isKS ?_
  | ((with_reducible refine' AV.s_size ?k1 ?_); (case k1 => walk_at "sz"))
  | ((with_reducible refine' AV.s_fldex ?k1 ?k2 ?k3 ?k4 ?_); (case k1 => walk_at "ins"); (case k2 => first | assumption | walk_at "cls"); (case k3 => first | assumption | walk_at "cls"); (case k4 => walk_at "lk"))
  | ((with_reducible refine' AV.s_fldSex ?k1 ?k2 ?k3 ?k4 ?k5 ?_); (case k1 => walk_at "at"); (case k2 => first | assumption | walk_at "cls"); (case k3 => first | assumption | walk_at "cls"); (case k4 => walk_at "sz"); (case k5 => walk_at "putr"))
  | ((with_reducible refine' AV.s_fldAex1 ?k1 ?k2 ?k3 ?k4 ?_); (case k1 => walk_at "ins"); (case k2 => first | assumption | walk_at "cls"); (case k3 => first | assumption | walk_at "cls"); (case k4 => walk_at "lk"))
  | ((with_reducible refine' AV.s_fldAex2 ?k1 ?k4 ?k5 ?_); (case k1 => walk_at "at"); (case k4 => walk_at "sz"); (case k5 => walk_at "putr"))
  | ((with_reducible refine' AV.s_insex ?k1 ?k2 ?_); (case k1 => walk_at "ins"); (case k2 => walk_at "lk"))
  | ((with_reducible refine' AV.x_aug ?k1 ?_); (case k1 => rfl))
  | with_reducible refine AV.s_tbl ?_
  | with_reducible refine AV.s_tnon ?_
  | with_reducible refine AV.s_tint ?_
  | ((with_reducible refine' AV.s_tstr ?k1 ?_); (case k1 => walk_at "sz"))
  | with_reducible refine AV.s_tlst ?_
  | with_reducible refine AV.s_ttup ?_
  | ((with_reducible refine' AV.s_to ?k1 ?_); (case k1 => walk_at "at"))
  | with_reducible refine AV.s_itl ?_
  | with_reducible refine AV.s_itt ?_
  | with_reducible refine AV.s_its ?_
  | with_reducible refine AV.s_itc ?_
  | ((with_reducible refine' AV.s_r1x ?k1 ?_); (case k1 => first | assumption | omega | (simp only [List.length_map]; omega)))
  | ((with_reducible refine' AV.s_r2x ?k1 ?_); (case k1 => first | assumption | omega | (simp only [List.length_map]; omega)))
  | with_reducible refine AV.s_zipL ?_
  | with_reducible refine AV.s_zipT ?_
  | ((with_reducible refine' AV.s_raiseX ?k1 ?_); (case k1 => first | assumption | exact G.log_ok (by omega) (by omega)))
  | with_reducible refine AV.s_jnil ?_
  | with_reducible refine AV.s_jcons ?_
  | ((with_reducible refine' AV.s_jx ?k1 ?_); (case k1 => walk_at "sz"))
  | ((with_reducible refine' AV.s_fmtI ?k1 ?_); (case k1 => first | assumption | exact G.log_ok (by omega) (by omega)))
  | ((with_reducible refine' AV.s_fmtS ?k1 ?_); (case k1 => walk_at "sz"))
  | ((with_reducible refine' AV.x_gtup ?k1 ?_); (case k1 => rfl))
  | with_reducible refine AV.x_gcons ?_
  | with_reducible refine AV.x_gnil ?_
  | ((with_reducible refine' AV.s_set ?k1 ?k2 ?_); (case k1 => walk_at "at"); (case k2 => first | rfl | assumption)))
local macro_rules | `(tactic| walk_at "a0") => `(tactic| first
  | ((with_reducible refine' AV.x_var ?k1 ?_); (case k1 => rfl))
  | walk_at "av"
  | walk_at "i1"
  | with_reducible refine AV.s_exbl ?_
  | with_reducible refine AV.s_exint ?_
  | ((with_reducible refine' AV.s_isKL ?k1 ?_); (case k1 => walk_at "at"))
  | with_reducible refine AV.s_isKD ?_
  | with_reducible refine AV.s_isKS ?_
  | ((with_reducible refine' AV.s_size ?k1 ?_); (case k1 => walk_at "sz"))
  | ((with_reducible refine' AV.s_fldex ?k1 ?k2 ?k3 ?k4 ?_); (case k1 => walk_at "ins"); (case k2 => first | assumption | walk_at "cls"); (case k3 => first | assumption | walk_at "cls"); (case k4 => walk_at "lk"))
  | ((with_reducible refine' AV.s_fldSex ?k1 ?k2 ?k3 ?k4 ?k5 ?_); (case k1 => walk_at "at"); (case k2 => first | assumption | walk_at "cls"); (case k3 => first | assumption | walk_at "cls"); (case k4 => walk_at "sz"); (case k5 => walk_at "putr"))
  | ((with_reducible refine' AV.s_fldAex1 ?k1 ?k2 ?k3 ?k4 ?_); (case k1 => walk_at "ins"); (case k2 => first | assumption | walk_at "cls"); (case k3 => first | assumption | walk_at "cls"); (case k4 => walk_at "lk"))
  | ((with_reducible refine' AV.s_fldAex2 ?k1 ?k4 ?k5 ?_); (case k1 => walk_at "at"); (case k4 => walk_at "sz"); (case k5 => walk_at "putr"))
  | ((with_reducible refine' AV.s_insex ?k1 ?k2 ?_); (case k1 => walk_at "ins"); (case k2 => walk_at "lk"))
  | ((with_reducible refine' AV.x_aug ?k1 ?_); (case k1 => rfl))
  | with_reducible refine AV.s_tbl ?_
  | with_reducible refine AV.s_tnon ?_
  | with_reducible refine AV.s_tint ?_
  | ((with_reducible refine' AV.s_tstr ?k1 ?_); (case k1 => walk_at "sz"))
  | with_reducible refine AV.s_tlst ?_
  | with_reducible refine AV.s_ttup ?_
  | ((with_reducible refine' AV.s_to ?k1 ?_); (case k1 => walk_at "at"))
  | with_reducible refine AV.s_itl ?_
  | with_reducible refine AV.s_itt ?_
  | with_reducible refine AV.s_its ?_
  | with_reducible refine AV.s_itc ?_
  | ((with_reducible refine' AV.s_r1x ?k1 ?_); (case k1 => first | assumption | omega | (simp only [List.length_map]; omega)))
  | ((with_reducible refine' AV.s_r2x ?k1 ?_); (case k1 => first | assumption | omega | (simp only [List.length_map]; omega)))
  | with_reducible refine AV.s_zipL ?_
  | with_reducible refine AV.s_zipT ?_
  | ((with_reducible refine' AV.s_raiseX ?k1 ?_); (case k1 => first | assumption | exact G.log_ok (by omega) (by omega)))
  | with_reducible refine AV.s_jnil ?_
  | with_reducible refine AV.s_jcons ?_
  | ((with_reducible refine' AV.s_jx ?k1 ?_); (case k1 => walk_at "sz"))
  | ((with_reducible refine' AV.s_fmtI ?k1 ?_); (case k1 => first | assumption | exact G.log_ok (by omega) (by omega)))
  | ((with_reducible refine' AV.s_fmtS ?k1 ?_); (case k1 => walk_at "sz"))
  | ((with_reducible refine' AV.x_gtup ?k1 ?_); (case k1 => rfl))
  | with_reducible refine AV.x_gcons ?_
  | with_reducible refine AV.x_gnil ?_
  | ((with_reducible refine' AV.s_set ?k1 ?k2 ?_); (case k1 => walk_at "at"); (case k2 => first | rfl | assumption)))
local macro_rules | `(tactic| walk_at "av") => `(tactic| first
  | ((with_reducible refine' AV.aIx.seq ?k1 ?k2 ?_); (case k1 => walk_at "sq"); (case k2 => first | rfl | assumption))
  | ((with_reducible refine' AV.v_i2 ?k1 ?_); (case k1 => first | exact trivial | decide | omega | exact Or.inr (by decide) | exact Or.inl (by decide) | exact ⟨by decide, by decide⟩ | exact ⟨by omega, by omega⟩ | exact ⟨by decide, by decide, by decide⟩ | (unfold L2.CMul; omega)))
  | with_reducible refine AV.aAdd.int ?_
  | with_reducible refine AV.aEq.int ?_
  | with_reducible refine AV.aEq.str ?_
  | with_reducible refine AV.aEq.bl ?_
  | with_reducible refine AV.aEq.nn ?_
  | with_reducible refine AV.aEq.ni ?_
  | with_reducible refine AV.aEq.in_ ?_
  | with_reducible refine AV.aEq.is_ ?_
  | with_reducible refine AV.aEq.si ?_
  | with_reducible refine AV.aNe.int ?_
  | with_reducible refine AV.aNe.str ?_
  | with_reducible refine AV.aNe.bl ?_
  | with_reducible refine AV.aNe.nn ?_
  | with_reducible refine AV.aNe.ni ?_
  | with_reducible refine AV.aNe.in_ ?_
  | with_reducible refine AV.aIs.nn ?_
  | with_reducible refine AV.aIs.int ?_
  | with_reducible refine AV.aIs.str ?_
  | with_reducible refine AV.aIs.bl ?_
  | with_reducible refine AV.aIs.r ?_
  | with_reducible refine AV.aIs.tup ?_
  | with_reducible refine AV.aIs.lst ?_
  | with_reducible refine AV.aIs.ins ?_
  | with_reducible refine AV.v_isnot ?_
  | with_reducible refine AV.v_notin ?_
  | with_reducible refine AV.v_neg ?_
  | ((with_reducible refine' AV.aLen.seq ?k1 ?_); (case k1 => walk_at "sq"))
  | ((with_reducible refine' AV.aLen.str ?k1 ?_); (case k1 => walk_at "sz"))
  | ((with_reducible refine' AV.aIsi.kd ?k1 ?k2 ?_); (case k1 => walk_at "kd"); (case k2 => walk_at "kit"))
  | ((with_reducible refine' AV.aIsi.own ?k1 ?k2 ?_); (case k1 => walk_at "ins"); (case k2 => first | assumption | walk_at "cls"))
  | with_reducible refine AV.aMin.mk ?_
  | with_reducible refine AV.aMax.mk ?_
  | with_reducible refine AV.aIntC.int ?_
  | with_reducible refine AV.aIntC.bl ?_
  | ((with_reducible refine' AV.aIntC.str ?k1 ?k2 ?_); (case k1 => assumption); (case k2 => walk_at "sz"))
  | ((with_reducible refine' AV.aStrC.int ?k1 ?_); (case k1 => first | assumption | exact G.log_ok (by omega) (by omega)))
  | ((with_reducible refine' AV.aListC.d ?k1 ?_); (case k1 => walk_at "sq"))
  | ((with_reducible refine' AV.aListO.mk ?k1 ?_); (case k1 => walk_at "sq"))
  | ((with_reducible refine' AV.aTupC.mk ?k1 ?_); (case k1 => walk_at "sq"))
  | ((with_reducible refine' AV.aApp.mk ?k1 ?k2 ?_); (case k1 => walk_at "at"); (case k2 => walk_at "sz"))
  | ((with_reducible refine' AV.aPop.mk ?k1 ?k2 ?_); (case k1 => walk_at "at"); (case k2 => first | rfl | assumption))
  | with_reducible refine AV.aStarts.mk ?_
  | ((with_reducible refine' AV.aAdd.str ?k1 ?_); (case k1 => walk_at "sz"))
  | ((with_reducible refine' AV.aAdd.lst ?k1 ?k2 ?k3 ?_); (case k1 => walk_at "ls"); (case k2 => walk_at "ls"); (case k3 => walk_at "sz"))
  | ((with_reducible refine' AV.aAddO.mk ?k1 ?k2 ?k3 ?_); (case k1 => walk_at "ls"); (case k2 => walk_at "ls"); (case k3 => walk_at "sz"))
  | ((with_reducible refine' AV.aAdd.tup ?k1 ?_); (case k1 => walk_at "sz"))
  | ((with_reducible refine' AV.aCutR.lst ?k1 ?_); (case k1 => walk_at "ls"))
  | ((with_reducible refine' AV.aCutO.mk ?k1 ?_); (case k1 => walk_at "ls"))
  | with_reducible refine AV.aCutR.tup ?_
  | ((with_reducible refine' AV.aCutR.str ?k1 ?_); (case k1 => walk_at "sz"))
  | with_reducible refine AV.aIn.sign ?_
  | ((with_reducible refine' AV.aIx.str ?k1 ?k2 ?_); (case k1 => walk_at "sz"); (case k2 => first | rfl | assumption))
  | ((with_reducible refine' AV.v_rev ?k1 ?_); (case k1 => walk_at "ls"))
  | ((with_reducible refine' AV.aSplit.d ?k1 ?k2 ?_); (case k1 => rfl); (case k2 => walk_at "sz")))
local macro_rules | `(tactic| walk_at "i1") => `(tactic| first
  | with_reducible refine G.i_t ?_
  | with_reducible refine G.i_f ?_
  | with_reducible refine G.i_nt ?_
  | with_reducible refine G.i_nf ?_
  | with_reducible refine G.i_nn ?_
  | ((with_reducible refine' G.i_dt ?k1 ?_); (case k1 => walk_at "fact"))
  | ((with_reducible refine' G.i_df ?k1 ?_); (case k1 => walk_at "fact"))
  | ((with_reducible refine' G.i_ndt ?k1 ?_); (case k1 => walk_at "fact"))
  | ((with_reducible refine' G.i_ndf ?k1 ?_); (case k1 => walk_at "fact")))
local macro_rules | `(tactic| walk_at "rd") => `(tactic| (walk_at "wh"; repeat (walk_at "a1"; walk_at "wh")))
local macro_rules | `(tactic| walk_at "fzs") => `(tactic| with_reducible first | exact AV.SbS.nil | (refine' AV.SbS.hit ?k6; (case k6 => walk_at "fzs")) | (refine' AV.SbS.same ?k6; (case k6 => walk_at "fzs")))
local macro_rules | `(tactic| walk_at "fz0") => `(tactic| (refine' AV.Nx.fz (AV.Fz.lst AV.Rem.hd ?k1 AV.SbM.rest) ?_; (case k1 => walk_at "fzs")))
local macro_rules | `(tactic| walk_at "fz1") => `(tactic| (refine' AV.Nx.fz (AV.Fz.lst (AV.Rem.tl AV.Rem.hd) ?k1 AV.SbM.rest) ?_; (case k1 => walk_at "fzs")))
local macro_rules | `(tactic| walk_at "drop0") => `(tactic| refine' AV.Nx.fz (AV.Fz.drop AV.Rem.hd) ?_)
local macro_rules | `(tactic| walk_at "drop1") => `(tactic| refine' AV.Nx.fz (AV.Fz.drop (AV.Rem.tl AV.Rem.hd)) ?_)
local macro_rules | `(tactic| walk_at "r0") => `(tactic| (walk_at "wh"; repeat (walk_at "a0"; walk_at "wh")))
local macro_rules | `(tactic| walk_at "dr") => `(tactic| (refine' ⟨_, _, _, _, rfl, ?k1, ?k2, ?_⟩; (case k1 => walk_at "at"); (case k2 => first | decide | omega)))

namespace L
open PySem L2 G TL AV

def top (i : Nat) : Stmt := PySem.Challenge.pw_blameless_k31_codes_of_components.main.body.getD i (.Pass ⟨0, 0, 0, 0⟩)
abbrev s_TooLarge_init : Stmt := inClass (top 2) 0
theorem sc_TooLarge_init : FnScope ["self", "what"] ["self", "what"] (defScope s_TooLarge_init) := ⟨rfl, rfl, rfl, by decide +kernel, rfl, by decide +kernel, by decide +kernel⟩
abbrev s_Code_init : Stmt := inClass (top 17) 0
theorem sc_Code_init : FnScope ["self", "memory", "entries"] ["self", "memory", "entries"] (defScope s_Code_init) := ⟨rfl, rfl, rfl, by decide +kernel, rfl, by decide +kernel, by decide +kernel⟩
abbrev s_Code_eq : Stmt := inClass (top 17) 1
theorem sc_Code_eq : FnScope ["self", "other"] ["self", "other"] (defScope s_Code_eq) := ⟨rfl, rfl, rfl, by decide +kernel, rfl, by decide +kernel, by decide +kernel⟩
abbrev s_statements_of : Stmt := top 21
theorem sc_statements_of : FnScope ["block", "statements", "statement", "place"] ["block"] (defScope s_statements_of) := ⟨rfl, rfl, rfl, by decide +kernel, rfl, by decide +kernel, by decide +kernel⟩
abbrev s_expressions_of : Stmt := top 22
theorem sc_expressions_of : FnScope ["statement", "place"] ["statement"] (defScope s_expressions_of) := ⟨rfl, rfl, rfl, by decide +kernel, rfl, by decide +kernel, by decide +kernel⟩
abbrev s_parts_of : Stmt := top 23
theorem sc_parts_of : FnScope ["expression"] ["expression"] (defScope s_parts_of) := ⟨rfl, rfl, rfl, by decide +kernel, rfl, by decide +kernel, by decide +kernel⟩
abbrev s_depth_of : Stmt := top 24
theorem sc_depth_of : FnScope ["expression", "part"] ["expression"] (defScope s_depth_of) := ⟨rfl, rfl, rfl, by decide +kernel, rfl, by decide +kernel, by decide +kernel⟩
abbrev s_room_of : Stmt := top 27
theorem sc_room_of : FnScope ["procedure"] ["procedure"] (defScope s_room_of) := ⟨rfl, rfl, rfl, by decide +kernel, rfl, by decide +kernel, by decide +kernel⟩
abbrev s_compile_component : Stmt := top 36
theorem sc_compile_component : FnScope ["component", "exported", "checked", "compiler", "number"] ["component", "exported", "checked"] (defScope s_compile_component) := ⟨rfl, rfl, rfl, by decide +kernel, rfl, by decide +kernel, by decide +kernel⟩
abbrev s_operator_number : Stmt := top 37
theorem sc_operator_number : FnScope ["sign"] ["sign"] (defScope s_operator_number) := ⟨rfl, rfl, rfl, by decide +kernel, rfl, by decide +kernel, by decide +kernel⟩
abbrev s_cells_needed : Stmt := top 38
theorem sc_cells_needed : FnScope ["component", "depths", "_", "block", "statement", "expression"] ["component"] (defScope s_cells_needed) := ⟨rfl, rfl, rfl, by decide +kernel, rfl, by decide +kernel, by decide +kernel⟩
abbrev s_Compiler_init : Stmt := inClass (top 39) 0
theorem sc_Compiler_init : FnScope ["self", "component", "checked"] ["self", "component", "checked"] (defScope s_Compiler_init) := ⟨rfl, rfl, rfl, by decide +kernel, rfl, by decide +kernel, by decide +kernel⟩
abbrev s_Compiler_here : Stmt := inClass (top 39) 1
theorem sc_Compiler_here : FnScope ["self"] ["self"] (defScope s_Compiler_here) := ⟨rfl, rfl, rfl, by decide +kernel, rfl, by decide +kernel, by decide +kernel⟩
abbrev s_Compiler_emit : Stmt := inClass (top 39) 2
theorem sc_Compiler_emit : FnScope ["self", "number", "first", "second", "third"] ["self", "number", "first", "second", "third"] (defScope s_Compiler_emit) := ⟨rfl, rfl, rfl, by decide +kernel, rfl, by decide +kernel, by decide +kernel⟩
abbrev s_Compiler_add_data : Stmt := inClass (top 39) 3
theorem sc_Compiler_add_data : FnScope ["self", "buffer"] ["self"] (defScope s_Compiler_add_data) := ⟨rfl, rfl, rfl, by decide +kernel, rfl, by decide +kernel, by decide +kernel⟩
abbrev s_Compiler_add_exits : Stmt := inClass (top 39) 4
theorem sc_Compiler_add_exits : FnScope ["self"] ["self"] (defScope s_Compiler_add_exits) := ⟨rfl, rfl, rfl, by decide +kernel, rfl, by decide +kernel, by decide +kernel⟩
abbrev s_Compiler_add_procedure : Stmt := inClass (top 39) 5
theorem sc_Compiler_add_procedure : FnScope ["self", "number", "is_exported", "procedure"] ["self", "number", "is_exported"] (defScope s_Compiler_add_procedure) := ⟨rfl, rfl, rfl, by decide +kernel, rfl, by decide +kernel, by decide +kernel⟩
abbrev s_Compiler_add_beginning : Stmt := inClass (top 39) 6
theorem sc_Compiler_add_beginning : FnScope ["self", "local_count", "room", "limit", "local"] ["self", "local_count"] (defScope s_Compiler_add_beginning) := ⟨rfl, rfl, rfl, by decide +kernel, rfl, by decide +kernel, by decide +kernel⟩
abbrev s_Compiler_add_ending : Stmt := inClass (top 39) 7
theorem sc_Compiler_add_ending : FnScope ["self"] ["self"] (defScope s_Compiler_add_ending) := ⟨rfl, rfl, rfl, by decide +kernel, rfl, by decide +kernel, by decide +kernel⟩
abbrev s_Compiler_caller_offset : Stmt := inClass (top 39) 8
theorem sc_Compiler_caller_offset : FnScope ["self"] ["self"] (defScope s_Compiler_caller_offset) := ⟨rfl, rfl, rfl, by decide +kernel, rfl, by decide +kernel, by decide +kernel⟩
abbrev s_Compiler_local_offset : Stmt := inClass (top 39) 9
theorem sc_Compiler_local_offset : FnScope ["self", "local"] ["self", "local"] (defScope s_Compiler_local_offset) := ⟨rfl, rfl, rfl, by decide +kernel, rfl, by decide +kernel, by decide +kernel⟩
abbrev s_Compiler_add_block : Stmt := inClass (top 39) 10
theorem sc_Compiler_add_block : FnScope ["self", "block", "statement"] ["self", "block"] (defScope s_Compiler_add_block) := ⟨rfl, rfl, rfl, by decide +kernel, rfl, by decide +kernel, by decide +kernel⟩
abbrev s_Compiler_add_statement : Stmt := inClass (top 39) 11
theorem sc_Compiler_add_statement : FnScope ["self", "statement", "kind"] ["self", "statement"] (defScope s_Compiler_add_statement) := ⟨rfl, rfl, rfl, by decide +kernel, rfl, by decide +kernel, by decide +kernel⟩
abbrev s_Compiler_add_put : Stmt := inClass (top 39) 12
theorem sc_Compiler_add_put : FnScope ["self", "statement", "buffer"] ["self", "statement"] (defScope s_Compiler_add_put) := ⟨rfl, rfl, rfl, by decide +kernel, rfl, by decide +kernel, by decide +kernel⟩
abbrev s_Compiler_add_call : Stmt := inClass (top 39) 13
theorem sc_Compiler_add_call : FnScope ["self", "statement"] ["self", "statement"] (defScope s_Compiler_add_call) := ⟨rfl, rfl, rfl, by decide +kernel, rfl, by decide +kernel, by decide +kernel⟩
abbrev s_Compiler_add_use : Stmt := inClass (top 39) 14
theorem sc_Compiler_add_use : FnScope ["self", "statement"] ["self", "statement"] (defScope s_Compiler_add_use) := ⟨rfl, rfl, rfl, by decide +kernel, rfl, by decide +kernel, by decide +kernel⟩
abbrev s_Compiler_add_if : Stmt := inClass (top 39) 15
theorem sc_Compiler_add_if : FnScope ["self", "statement", "over_chosen", "over_otherwise"] ["self", "statement"] (defScope s_Compiler_add_if) := ⟨rfl, rfl, rfl, by decide +kernel, rfl, by decide +kernel, by decide +kernel⟩
abbrev s_Compiler_add_while : Stmt := inClass (top 39) 16
theorem sc_Compiler_add_while : FnScope ["self", "statement", "test", "over_repeated"] ["self", "statement"] (defScope s_Compiler_add_while) := ⟨rfl, rfl, rfl, by decide +kernel, rfl, by decide +kernel, by decide +kernel⟩
abbrev s_Compiler_add_value : Stmt := inClass (top 39) 17
theorem sc_Compiler_add_value : FnScope ["self", "expression", "goal", "kind", "value", "cell"] ["self", "expression", "goal"] (defScope s_Compiler_add_value) := ⟨rfl, rfl, rfl, by decide +kernel, rfl, by decide +kernel, by decide +kernel⟩
abbrev s_Compiler_add_check : Stmt := inClass (top 39) 18
theorem sc_Compiler_add_check : FnScope ["self", "index", "buffer"] ["self", "index", "buffer"] (defScope s_Compiler_add_check) := ⟨rfl, rfl, rfl, by decide +kernel, rfl, by decide +kernel, by decide +kernel⟩
abbrev s_Compiler_link_calls : Stmt := inClass (top 39) 19
theorem sc_Compiler_link_calls : FnScope ["self", "place", "number"] ["self"] (defScope s_Compiler_link_calls) := ⟨rfl, rfl, rfl, by decide +kernel, rfl, by decide +kernel, by decide +kernel⟩
abbrev s_Component_init : Stmt := inClass (top 41) 0
theorem sc_Component_init : FnScope ["self", "room", "buffers", "procedures"] ["self", "room", "buffers", "procedures"] (defScope s_Component_init) := ⟨rfl, rfl, rfl, by decide +kernel, rfl, by decide +kernel, by decide +kernel⟩
abbrev s_Component_eq : Stmt := inClass (top 41) 1
theorem sc_Component_eq : FnScope ["self", "other"] ["self", "other"] (defScope s_Component_eq) := ⟨rfl, rfl, rfl, by decide +kernel, rfl, by decide +kernel, by decide +kernel⟩
abbrev s_frozen : Stmt := top 42
theorem sc_frozen : FnScope ["part", "inner"] ["part"] (defScope s_frozen) := ⟨rfl, rfl, rfl, by decide +kernel, rfl, by decide +kernel, by decide +kernel⟩
abbrev s_l_pool : Stmt := top 44
theorem sc_l_pool : FnScope ["script", "budget"] ["script", "budget"] (defScope s_l_pool) := ⟨rfl, rfl, rfl, by decide +kernel, rfl, by decide +kernel, by decide +kernel⟩
abbrev s_l_draw : Stmt := top 45
theorem sc_l_draw : FnScope ["pool", "size", "cell", "value"] ["pool", "size"] (defScope s_l_draw) := ⟨rfl, rfl, rfl, by decide +kernel, rfl, by decide +kernel, by decide +kernel⟩
abbrev s_l_spend : Stmt := top 46
theorem sc_l_spend : FnScope ["pool"] ["pool"] (defScope s_l_spend) := ⟨rfl, rfl, rfl, by decide +kernel, rfl, by decide +kernel, by decide +kernel⟩
abbrev s_l_few : Stmt := top 47
theorem sc_l_few : FnScope ["pool", "most", "few"] ["pool", "most"] (defScope s_l_few) := ⟨rfl, rfl, rfl, by decide +kernel, rfl, by decide +kernel, by decide +kernel⟩
abbrev s_l_number : Stmt := top 48
theorem sc_l_number : FnScope ["pool"] ["pool"] (defScope s_l_number) := ⟨rfl, rfl, rfl, by decide +kernel, rfl, by decide +kernel, by decide +kernel⟩
abbrev s_l_same : Stmt := top 49
theorem sc_l_same : FnScope ["actual", "due", "k"] ["actual", "due"] (defScope s_l_same) := ⟨rfl, rfl, rfl, by decide +kernel, rfl, by decide +kernel, by decide +kernel⟩
abbrev s_l_expression : Stmt := top 50
theorem sc_l_expression : FnScope ["pool", "shape", "deep", "kind", "sign", "left", "buffer"] ["pool", "shape", "deep"] (defScope s_l_expression) := ⟨rfl, rfl, rfl, by decide +kernel, rfl, by decide +kernel, by decide +kernel⟩
abbrev s_l_index : Stmt := top 51
theorem sc_l_index : FnScope ["pool", "shape", "buffer", "deep", "kind"] ["pool", "shape", "buffer", "deep"] (defScope s_l_index) := ⟨rfl, rfl, rfl, by decide +kernel, rfl, by decide +kernel, by decide +kernel⟩
abbrev s_l_block : Stmt := top 52
theorem sc_l_block : FnScope ["pool", "shape", "deep", "most", "block", "k"] ["pool", "shape", "deep", "most"] (defScope s_l_block) := ⟨rfl, rfl, rfl, by decide +kernel, rfl, by decide +kernel, by decide +kernel⟩
abbrev s_l_statement : Stmt := top 53
theorem sc_l_statement : FnScope ["pool", "shape", "deep", "kind", "local", "test", "then", "inner", "buffer"] ["pool", "shape", "deep"] (defScope s_l_statement) := ⟨rfl, rfl, rfl, by decide +kernel, rfl, by decide +kernel, by decide +kernel⟩
abbrev s_l_wide : Stmt := top 54
theorem sc_l_wide : FnScope ["pool", "imports", "sizes", "k", "buffers", "size", "count", "procedures", "cells"] ["pool", "imports"] (defScope s_l_wide) := ⟨rfl, rfl, rfl, by decide +kernel, rfl, by decide +kernel, by decide +kernel⟩
abbrev s_l_right : Stmt := top 55
theorem sc_l_right : FnScope ["code", "exported", "word", "entry"] ["code", "exported"] (defScope s_l_right) := ⟨rfl, rfl, rfl, by decide +kernel, rfl, by decide +kernel, by decide +kernel⟩
abbrev s_law : Stmt := top 56
theorem sc_law : FnScope ["script", "pool", "row", "made", "exported", "plain", "checked"] ["script"] (defScope s_law) := ⟨rfl, rfl, rfl, by decide +kernel, rfl, by decide +kernel, by decide +kernel⟩
structure Top (pp : Params) (K : PySem.W.Frag) (mg : Str → Option Value) : Prop where
  f_statements_of : FunAt K mg "statements_of" "statements_of" s_statements_of
  f_expressions_of : FunAt K mg "expressions_of" "expressions_of" s_expressions_of
  f_parts_of : FunAt K mg "parts_of" "parts_of" s_parts_of
  f_depth_of : FunAt K mg "depth_of" "depth_of" s_depth_of
  f_room_of : FunAt K mg "room_of" "room_of" s_room_of
  f_compile_component : AV.FunAtD K mg "compile_component" "compile_component" s_compile_component [("checked", V.bl false)]
  f_operator_number : FunAt K mg "operator_number" "operator_number" s_operator_number
  f_cells_needed : FunAt K mg "cells_needed" "cells_needed" s_cells_needed
  f_frozen : FunAt K mg "frozen" "frozen" s_frozen
  f_l_pool : FunAt K mg "_law_pool" "_law_pool" s_l_pool
  f_l_draw : FunAt K mg "_law_draw" "_law_draw" s_l_draw
  f_l_spend : FunAt K mg "_law_spend" "_law_spend" s_l_spend
  f_l_few : FunAt K mg "_law_few" "_law_few" s_l_few
  f_l_number : FunAt K mg "_law_number" "_law_number" s_l_number
  f_l_same : FunAt K mg "_law_same" "_law_same" s_l_same
  f_l_expression : FunAt K mg "_law_expression" "_law_expression" s_l_expression
  f_l_index : FunAt K mg "_law_index" "_law_index" s_l_index
  f_l_block : FunAt K mg "_law_block" "_law_block" s_l_block
  f_l_statement : FunAt K mg "_law_statement" "_law_statement" s_l_statement
  f_l_wide : FunAt K mg "_law_wide" "_law_wide" s_l_wide
  f_l_right : FunAt K mg "_law_right" "_law_right" s_l_right
  f_law : FunAt K mg "law" "law" s_law
  c_WORD_COUNT : ∃ t, mg "WORD_COUNT" = some (.int 65536 t)
  i_OPERATORS : AV.ModTupI K mg "OPERATORS" ["+", "-", "*", "/", "mod", "<", "="]
  c_OPERATORS : AV.ModTup K mg "OPERATORS" ((["+", "-", "*", "/", "mod", "<", "="] : List Str).map D.str)
  c_INSTRUCTION_WORDS : ∃ t, mg "INSTRUCTION_WORDS" = some (.int 4 t)
  c_HALT : ∃ t, mg "HALT" = some (.int 0 t)
  c_CONST : ∃ t, mg "CONST" = some (.int 1 t)
  c_FIRST_OPERATOR : ∃ t, mg "FIRST_OPERATOR" = some (.int 3 t)
  c_LOAD : ∃ t, mg "LOAD" = some (.int 10 t)
  c_STORE : ∃ t, mg "STORE" = some (.int 11 t)
  c_JUMP : ∃ t, mg "JUMP" = some (.int 12 t)
  c_JUMPZERO : ∃ t, mg "JUMPZERO" = some (.int 13 t)
  c_JUMPTO : ∃ t, mg "JUMPTO" = some (.int 14 t)
  c_USE : ∃ t, mg "USE" = some (.int 15 t)
  c_LEAVE : ∃ t, mg "LEAVE" = some (.int 16 t)
  c_EXPRESSION_PLACES : AV.ModDict pp K mg "EXPRESSION_PLACES" [("set", D.tup [D.int 2]), ("put", D.tup [D.int 2, D.int 3]), ("call", D.tup [D.int 3]), ("use", D.tup [D.int 3]), ("if", D.tup [D.int 1]), ("while", D.tup [D.int 1]), ("return", D.tup [D.int 1])]
  c_BLOCK_PLACES : AV.ModDict pp K mg "BLOCK_PLACES" [("if", D.tup [D.int 2, D.int 3]), ("while", D.tup [D.int 2])]
  c_FRAME_EXTRA : ∃ t, mg "FRAME_EXTRA" = some (.int 2 t)
  c_MOST_MEMORY : ∃ t, mg "MOST_MEMORY" = some (.int 60000 t)
  c_ANSWER : ∃ t, mg "ANSWER" = some (.int 0 t)
  c_LAST_VALUE : ∃ t, mg "LAST_VALUE" = some (.int 4 t)
  c_SPARE : ∃ t, mg "SPARE" = some (.int 5 t)
  c_ZERO : ∃ t, mg "ZERO" = some (.int 6 t)
  c_TOP : ∃ t, mg "TOP" = some (.int 7 t)
  c_TOP_CELL : ∃ t, mg "TOP_CELL" = some (.int 0 t)
  b_bool : mg "bool" = none
  b_int : mg "int" = none
  b_isinstance : mg "isinstance" = none
  b_len : mg "len" = none
  b_list : mg "list" = none
  b_max : mg "max" = none
  b_min : mg "min" = none
  b_range : mg "range" = none
  b_str : mg "str" = none
  b_tuple : mg "tuple" = none
structure Cs where
  BlameError : Addr
  TooLarge : Addr
  Code : Addr
  Compiler : Addr
  Component : Addr
structure Txt (K : PySem.W.Frag) (mg : Str → Option Value) (C : Cs) : Prop where
  n_BlameError : mg "BlameError" = some (.ref C.BlameError)
  b_BlameError : ExB K C.BlameError
  n_TooLarge : mg "TooLarge" = some (.ref C.TooLarge)
  e_TooLarge : ExK K C.TooLarge
  m_TooLarge_init : MetAt K C.TooLarge "__init__" "TooLarge.__init__" s_TooLarge_init
  a_TooLarge_what : PySem.W.findIn K (.ref C.TooLarge) "what" = some none
  n_Code : mg "Code" = some (.ref C.Code)
  k_Code : ClK K C.Code
  m_Code_init : MetAt K C.Code "__init__" "Code.__init__" s_Code_init
  m_Code_eq : MetAt K C.Code "__eq__" "Code.__eq__" s_Code_eq
  a_Code_entries : PySem.W.findIn K (.ref C.Code) "entries" = some none
  a_Code_memory : PySem.W.findIn K (.ref C.Code) "memory" = some none
  n_Compiler : mg "Compiler" = some (.ref C.Compiler)
  k_Compiler : ClK K C.Compiler
  m_Compiler_init : MetAt K C.Compiler "__init__" "Compiler.__init__" s_Compiler_init
  m_Compiler_here : MetAt K C.Compiler "here" "Compiler.here" s_Compiler_here
  m_Compiler_emit : MetAt K C.Compiler "emit" "Compiler.emit" s_Compiler_emit
  m_Compiler_add_data : MetAt K C.Compiler "add_data" "Compiler.add_data" s_Compiler_add_data
  m_Compiler_add_exits : MetAt K C.Compiler "add_exits" "Compiler.add_exits" s_Compiler_add_exits
  m_Compiler_add_procedure : MetAt K C.Compiler "add_procedure" "Compiler.add_procedure" s_Compiler_add_procedure
  m_Compiler_add_beginning : MetAt K C.Compiler "add_beginning" "Compiler.add_beginning" s_Compiler_add_beginning
  m_Compiler_add_ending : MetAt K C.Compiler "add_ending" "Compiler.add_ending" s_Compiler_add_ending
  m_Compiler_caller_offset : MetAt K C.Compiler "caller_offset" "Compiler.caller_offset" s_Compiler_caller_offset
  m_Compiler_local_offset : MetAt K C.Compiler "local_offset" "Compiler.local_offset" s_Compiler_local_offset
  m_Compiler_add_block : MetAt K C.Compiler "add_block" "Compiler.add_block" s_Compiler_add_block
  m_Compiler_add_statement : MetAt K C.Compiler "add_statement" "Compiler.add_statement" s_Compiler_add_statement
  m_Compiler_add_put : MetAt K C.Compiler "add_put" "Compiler.add_put" s_Compiler_add_put
  m_Compiler_add_call : MetAt K C.Compiler "add_call" "Compiler.add_call" s_Compiler_add_call
  m_Compiler_add_use : MetAt K C.Compiler "add_use" "Compiler.add_use" s_Compiler_add_use
  m_Compiler_add_if : MetAt K C.Compiler "add_if" "Compiler.add_if" s_Compiler_add_if
  m_Compiler_add_while : MetAt K C.Compiler "add_while" "Compiler.add_while" s_Compiler_add_while
  m_Compiler_add_value : MetAt K C.Compiler "add_value" "Compiler.add_value" s_Compiler_add_value
  m_Compiler_add_check : MetAt K C.Compiler "add_check" "Compiler.add_check" s_Compiler_add_check
  m_Compiler_link_calls : MetAt K C.Compiler "link_calls" "Compiler.link_calls" s_Compiler_link_calls
  a_Compiler_buffer_places : PySem.W.findIn K (.ref C.Compiler) "buffer_places" = some none
  a_Compiler_calls : PySem.W.findIn K (.ref C.Compiler) "calls" = some none
  a_Compiler_checked : PySem.W.findIn K (.ref C.Compiler) "checked" = some none
  a_Compiler_component : PySem.W.findIn K (.ref C.Compiler) "component" = some none
  a_Compiler_entries : PySem.W.findIn K (.ref C.Compiler) "entries" = some none
  a_Compiler_first_frame : PySem.W.findIn K (.ref C.Compiler) "first_frame" = some none
  a_Compiler_halt_place : PySem.W.findIn K (.ref C.Compiler) "halt_place" = some none
  a_Compiler_leave_place : PySem.W.findIn K (.ref C.Compiler) "leave_place" = some none
  a_Compiler_memory : PySem.W.findIn K (.ref C.Compiler) "memory" = some none
  a_Compiler_starts : PySem.W.findIn K (.ref C.Compiler) "starts" = some none
  a_Compiler_taken : PySem.W.findIn K (.ref C.Compiler) "taken" = some none
  n_Component : mg "Component" = some (.ref C.Component)
  k_Component : ClK K C.Component
  m_Component_init : MetAt K C.Component "__init__" "Component.__init__" s_Component_init
  m_Component_eq : MetAt K C.Component "__eq__" "Component.__eq__" s_Component_eq
  a_Component_buffers : PySem.W.findIn K (.ref C.Component) "buffers" = some none
  a_Component_procedures : PySem.W.findIn K (.ref C.Component) "procedures" = some none
  a_Component_room : PySem.W.findIn K (.ref C.Component) "room" = some none
/-! ### the pool of draws -/
/-- the numbers of a pool: what is left unread is of no matter -/
structure PoolS where
  (a b c d e : Int) (ns : List Int) (h : 0 ≤ a)
def PoolS.ob (p : PoolS) : Ob := .lst [.lst (p.ns.map D.int), .int p.a, .int p.b, .int p.c, .int p.d, .int p.e]
def sp_l_pool : ASp := fun ds M Q _ => ∃ (ns : List Int) (n : Int), ds = [.scr (ns.map D.int), .int n] ∧ ∀ p s, Q (.r p) ((p, PoolS.ob s) :: M)
def sp_l_draw : ASp := fun ds M Q _ => ∃ (p : Addr) (s : PoolS) (n : Int) (u : Ob → Mem), ds = [.r p, .int n] ∧ At M p s.ob u ∧ (0 < n ∧ n < 1073741824) ∧ ∀ (r : Int) (s' : PoolS), 0 ≤ r → r < n → Q (.int r) (u s'.ob)
def sp_l_drawE : ASp := fun ds M Q _ => ∃ (p : Addr) (s : PoolS) (n : Int) (u : Ob → Mem), ds = [.r p, .int n] ∧ At M p s.ob u ∧ (0 < n ∧ n < 1073741824) ∧ ∀ (r : Int) (s' : PoolS), 0 ≤ r → r < n → s'.e = s.e → Q (.int r) (u s'.ob)
def sp_l_fewE : ASp := fun ds M Q _ => ∃ (p : Addr) (s : PoolS) (n : Int) (u : Ob → Mem), ds = [.r p, .int n] ∧ At M p s.ob u ∧ (0 ≤ n ∧ n < 1073741823) ∧ ∀ (r : Int) (s' : PoolS), 0 ≤ r → r ≤ n → s'.e = s.e → Q (.int r) (u s'.ob)
def sp_l_numberE : ASp := fun ds M Q _ => ∃ (p : Addr) (s : PoolS) (u : Ob → Mem), ds = [.r p] ∧ At M p s.ob u ∧ ∀ (r : Int) (s' : PoolS), 0 ≤ r → r < 65536 → s'.e = s.e → Q (.int r) (u s'.ob)
def sp_l_spendE : ASp := fun ds M Q _ => ∃ (p : Addr) (s : PoolS) (u : Ob → Mem), ds = [.r p] ∧ At M p s.ob u ∧ ∀ (s' : PoolS), s'.e = s.e - 1 → Q (.bl (decide (0 ≤ s.e - 1))) (u s'.ob)
def sp_l_few : ASp := fun ds M Q _ => ∃ (p : Addr) (s : PoolS) (n : Int) (u : Ob → Mem), ds = [.r p, .int n] ∧ At M p s.ob u ∧ (0 ≤ n ∧ n < 1073741823) ∧ ∀ (r : Int) (s' : PoolS), 0 ≤ r → r ≤ n → Q (.int r) (u s'.ob)
def sp_l_number : ASp := fun ds M Q _ => ∃ (p : Addr) (s : PoolS) (u : Ob → Mem), ds = [.r p] ∧ At M p s.ob u ∧ ∀ (r : Int) (s' : PoolS), 0 ≤ r → r < 65536 → Q (.int r) (u s'.ob)
def sp_l_spend : ASp := fun ds M Q _ => ∃ (p : Addr) (s : PoolS) (u : Ob → Mem), ds = [.r p] ∧ At M p s.ob u ∧ ∀ (b : Bool) (s' : PoolS), Q (.bl b) (u s'.ob)
/-- data that _law_same tells as the same: n deep -/
inductive Sd : Nat → D → Prop
  | non {n : Nat} : Sd (n + 1) .non
  | bl {n : Nat} (b : Bool) : Sd (n + 1) (.bl b)
  | int {n : Nat} (i : Int) : Sd (n + 1) (.int i)
  | str {n : Nat} (z : Str) : Sd (n + 1) (.str z)
  | lst {n : Nat} {ds : List D} : ds.length ≤ 1000000 → (∀ d ∈ ds, Sd n d) → Sd (n + 1) (.lst ds)
  | tup {n : Nat} {ds : List D} : ds.length ≤ 1000000 → (∀ d ∈ ds, Sd n d) → Sd (n + 1) (.tup ds)
/-- a value beside data that it is, or a list that is still written and holds it -/
inductive SameV (M : Mem) : D → D → Prop
  | rfl {x : D} : SameV M x x
  | o {a : Addr} {ds : List D} {u : Ob → Mem} : At M a (.lst ds) u → SameV M (.r a) (.lst ds)
def sp_l_sameG (n : Nat) : ASp := fun ds M Q _ => ∃ y x, ds = [y, x] ∧ SameV M y x ∧ Sd n x ∧ Q (.bl true) M
def sp_l_same (n : Nat) : ASp := fun ds M Q _ => ∃ x, ds = [x, x] ∧ Sd n x ∧ Q (.bl true) M
section
variable {P : Program} {w : World} {K : PySem.W.Frag} {mg : Str → Option Value} {base : Heap}
theorem ok_l_pool (T : Top w.params K mg) : Cal P w K mg base CX0 1 "_law_pool" ["script", "budget"] (conSp K sp_l_pool) := by
  refine def_A T.f_l_pool sc_l_pool (fun _ _ _ _ _ _ us hl => match us, hl with | [_, _], _ => rfl) (fun ds M Q E h => ?_) (fun f cdv Ar outer s H E ds M Q EX hr h => ?_)
  · obtain ⟨ns, n, rfl, _⟩ := h
    rfl
  · obtain ⟨ns, n, rfl, k⟩ := h
    refine ⟨_, (as_one (as_ret (ps_ret (a_lstO (aa_cons (a_callTy (o_list (K := K)) (by rfl) T.b_list (by decide +kernel) (aa_cons (a_var (pv 0)) aa_nil)) (aa_cons a_int (aa_cons a_int (aa_cons a_int (aa_cons a_int (aa_cons (a_var (pv 1)) aa_nil)))))))))), ?_⟩
    walk_at "rd"
    exact fun p => .of (k p ⟨0, 0, 1, 0, n, ns, by decide⟩)
theorem atI_int {ns : List Int} {i : Int} (h0 : 0 ≤ i) (h : i < ((ns.map D.int).length : Int)) : ∃ z, atI (ns.map D.int) i = some (.int z) := by
  have hl : i.toNat < ns.length := by rw [List.length_map] at h; omega
  refine ⟨ns[i.toNat], ?_⟩
  have q : atI (ns.map D.int) ((i.toNat : Nat) : Int) = some (.int ns[i.toNat]) := atI_nat (by rw [List.getElem?_map, List.getElem?_eq_getElem hl]; rfl)
  rwa [Int.toNat_of_nonneg h0] at q
theorem ok_l_drawE (T : Top w.params K mg) : Cal P w K mg base CX0 1 "_law_draw" ["pool", "size"] (conSp K sp_l_drawE) := by
  refine def_A T.f_l_draw sc_l_draw (fun _ _ _ _ _ _ us hl => match us, hl with | [_, _], _ => rfl) (fun ds M Q E h => ?_) (fun f cdv Ar outer s H E ds M Q EX hr h => ?_)
  · obtain ⟨p, s, n, u, rfl, _⟩ := h
    rfl
  · obtain ⟨p, ⟨a, b, c, d, e, ns, ha⟩, n, u, rfl, hp, ⟨hn, hn2⟩, k⟩ := h
    unfold PoolS.ob at hp
    dsimp only at hp
    refine ⟨_, (as_cut (as_if (PW.pt (a_and (a_tcmp o_le (a_ix (o_ix (K := K)) (a_var (pv 0)) a_int (fun _ _ => rfl)) a_int (nomark _)) (a_and (a_tcmp o_le (a_ix (o_ix (K := K)) (a_var (pv 0)) a_int (fun _ _ => rfl)) a_int (nomark _)) (pw_and1 (a_tcmp o_lt (a_ix (o_ix (K := K)) (a_var (pv 0)) a_int (fun _ _ => rfl)) (a_callB (o_len (K := K)) (by rfl) T.b_len PySem.boot_len (aa_cons (a_ix (o_ix (K := K)) (a_var (pv 0)) a_int (fun _ _ => rfl)) aa_nil)) (nomark _))))))
  (as_cons (as_set (ps_set (i := 2) sc_l_draw.nd rfl (by first | exact Or.inl rfl | exact Or.inr rfl) (a_ix (o_ix (K := K)) (a_ix (o_ix (K := K)) (a_var (pv 0)) a_int (fun _ _ => rfl)) (a_ix (o_ix (K := K)) (a_var (pv 0)) a_int (fun _ _ => rfl)) (fun _ _ => rfl))))
    (as_cons (as_asg (ps_asg (a_op (o_add (K := K)) (a_ix (o_ix (K := K)) (a_var (pv 0)) a_int (fun _ _ => rfl)) a_int) (ag_sub (pg_sub (a_var (pv 0)) a_int set_list))))
    (as_cons (as_asg (ps_asg (a_op o_mod (a_callTy o_int (by rfl) T.b_int (by decide +kernel) (aa_cons (a_op (o_add (K := K)) (a_op o_mul (a_ix (o_ix (K := K)) (a_var (pv 0)) a_int (fun _ _ => rfl)) a_int) (a_var (pv 2))) aa_nil)) a_int) (ag_sub (pg_sub (a_var (pv 0)) a_int set_list))))
    (as_cons (as_asg (ps_asg a_int (ag_sub (pg_sub (a_var (pv 0)) a_int set_list))))
    (as_one (as_if (a_tcmp o_ge (a_var (pv 2)) (a_op o_pow a_int a_int) (nomark _))
    (as_one (as_asg (ps_asg (a_var (pv 2)) (ag_sub (pg_sub (a_var (pv 0)) a_int set_list)))))
    as_nil))))))
  as_nil)
  (as_cons (as_if (a_tcmp o_gt (a_ix (o_ix (K := K)) (a_var (pv 0)) a_int (fun _ _ => rfl)) a_int (nomark _))
  (as_cons (as_set (ps_set (i := 3) sc_l_draw.nd rfl (by first | exact Or.inl rfl | exact Or.inr rfl) (a_op o_mod (a_callTy o_int (by rfl) T.b_int (by decide +kernel) (aa_cons (a_ix (o_ix (K := K)) (a_var (pv 0)) a_int (fun _ _ => rfl)) aa_nil)) (a_var (pv 1)))))
    (as_cons (as_asg (ps_asg (a_op o_div (a_ix (o_ix (K := K)) (a_var (pv 0)) a_int (fun _ _ => rfl)) (a_var (pv 1))) (ag_sub (pg_sub (a_var (pv 0)) a_int set_list))))
    (as_cons (as_asg (ps_asg a_int (ag_sub (pg_sub (a_var (pv 0)) a_int set_list))))
    (as_one (as_ret (ps_ret (a_var (pv 3))))))))
  as_nil)
  (as_cons (as_asg (ps_asg (a_op o_sub (a_ix (o_ix (K := K)) (a_var (pv 0)) a_int (fun _ _ => rfl)) a_int) (ag_sub (pg_sub (a_var (pv 0)) a_int set_list))))
  (as_cons (as_asg (ps_asg (a_op o_mod (a_callTy o_int (by rfl) T.b_int (by decide +kernel) (aa_cons (a_op (o_add (K := K)) (a_op o_mul (a_ix (o_ix (K := K)) (a_var (pv 0)) a_int (fun _ _ => rfl)) a_int) a_int) aa_nil)) a_int) (ag_sub (pg_sub (a_var (pv 0)) a_int set_list))))
  (as_one (as_ret (ps_ret (a_op o_mod (a_op o_mod (a_callTy o_int (by rfl) T.b_int (by decide +kernel) (aa_cons (a_op (o_add (K := K)) (a_op o_mul (a_ix (o_ix (K := K)) (a_var (pv 0)) a_int (fun _ _ => rfl)) a_int) a_int) aa_nil)) a_int) (a_var (pv 1)))))))))), ?_⟩
    refine s_cut (fun xs M2 => ∃ v2 s2, xs = [some (.r p), some (.int n), v2, none] ∧ M2 = u (PoolS.ob s2) ∧ s2.e = e) ?_ ?_
    · have skip : ∃ v2 s2, ([some (.r p), some (.int n), none, none] : AS) = [some (.r p), some (.int n), v2, none] ∧ M = u (PoolS.ob s2) ∧ s2.e = e := ⟨none, ⟨a, b, c, d, e, ns, ha⟩, rfl, hp.self.symm, rfl⟩
      walk_at "rd"
      refine G.i_d (fun h1 => ?_) (fun h1 => ?_)
      · walk_at "rd"
        refine G.i_d (fun h2 => ?_) (fun h2 => ?_)
        · walk_at "rd"
          refine G.i_d (fun h3 => ?_) (fun h3 => ?_)
          · obtain ⟨z, hz⟩ := atI_int ha h3
            walk_at "rd"
            refine G.i_d (fun h4 => ?_) (fun h4 => ?_)
            · walk_at "rd"
              exact ⟨_, ⟨_, _, _, _, _, ns, by omega⟩, rfl, rfl, rfl⟩
            · walk_at "rd"
              exact ⟨_, ⟨_, _, _, _, _, ns, by omega⟩, rfl, rfl, rfl⟩
          · walk_at "rd"; exact skip
        · walk_at "rd"; exact skip
      · walk_at "rd"; exact skip
    · rintro _ _ ⟨v2, ⟨a, b, c, d, e2, ns, ha⟩, rfl, rfl, he⟩
      unfold PoolS.ob
      dsimp only
      walk_at "rd"
      refine G.i_d (fun h1 => ?_) (fun h1 => ?_)
      · walk_at "rd"
        exact k _ ⟨_, _, _, _, _, ns, ha⟩ (Int.emod_nonneg _ (by omega)) (Int.emod_lt_of_pos _ hn) he
      · walk_at "rd"
        exact k _ ⟨_, _, _, _, _, ns, ha⟩ (Int.emod_nonneg _ (by omega)) (Int.emod_lt_of_pos _ hn) he
theorem ok_l_draw (T : Top w.params K mg) : Cal P w K mg base CX0 1 "_law_draw" ["pool", "size"] (conSp K sp_l_draw) := (ok_l_drawE T).imp (conSp.imp fun ds M Q E ⟨p, s, n, u, e, hp, hn, k⟩ => ⟨p, s, n, u, e, hp, hn, fun r s' r0 r1 _ => k r s' r0 r1⟩)
theorem ok_l_fewE (T : Top w.params K mg) : Cal P w K mg base CX0 2 "_law_few" ["pool", "most"] (conSp K sp_l_fewE) := by
  refine def_A T.f_l_few sc_l_few (fun _ _ _ _ _ _ us hl => match us, hl with | [_, _], _ => rfl) (fun ds M Q E h => ?_) (fun f cdv Ar outer s H E ds M Q EX hr h => ?_)
  · obtain ⟨p, s, n, u, rfl, _⟩ := h
    rfl
  · obtain ⟨p, s, n, u, rfl, hp, ⟨hn, hn2⟩, k⟩ := h
    refine ⟨_, (as_cons (as_set (ps_set (i := 2) sc_l_few.nd rfl (by first | exact Or.inl rfl | exact Or.inr rfl) (a_call (g_call (ok_l_drawE T) (hr.mono (by decide)) (by rfl) pass0 (aa_cons (a_var (pv 0)) (aa_cons a_int aa_nil))))))
  (as_cons (as_if (a_tcmp (o_eq (K := K) (un64 hr)) (a_var (pv 2)) a_int (nomark _))
  (as_one (as_ret (ps_ret (a_call (g_call (ok_l_drawE T) (hr.mono (by decide)) (by rfl) pass0 (aa_cons (a_var (pv 0)) (aa_cons (a_op (o_add (K := K)) (a_var (pv 1)) a_int) aa_nil)))))))
  as_nil)
  (as_one (as_ret (ps_ret (a_callB (o_min rfl) (by rfl) T.b_min (by decide +kernel) (aa_cons (a_var (pv 2)) (aa_cons (a_var (pv 1)) aa_nil)))))))), ?_⟩
    walk_at "rd"
    refine ⟨p, s, 4, u, rfl, hp, by decide, fun r s1 r0 r1 e1 => ?_⟩
    walk_at "rd"
    refine G.i_d (fun h1 => ?_) (fun h1 => ?_)
    · walk_at "rd"
      exact ⟨p, s1, _, u, rfl, hp.put, by omega, fun r' s2 r0' r1' e2 => .of (k _ _ r0' (by omega) (e2.trans e1))⟩
    · walk_at "rd"
      refine k _ s1 ?_ ?_ e1 <;> split <;> omega
theorem ok_l_few (T : Top w.params K mg) : Cal P w K mg base CX0 2 "_law_few" ["pool", "most"] (conSp K sp_l_few) := (ok_l_fewE T).imp (conSp.imp fun ds M Q E ⟨p, s, n, u, e, hp, hn, k⟩ => ⟨p, s, n, u, e, hp, hn, fun r s' r0 r1 _ => k r s' r0 r1⟩)
theorem ok_l_numberE (T : Top w.params K mg) : Cal P w K mg base CX0 2 "_law_number" ["pool"] (conSp K sp_l_numberE) := by
  refine def_A T.f_l_number sc_l_number (fun _ _ _ _ _ _ us hl => match us, hl with | [_], _ => rfl) (fun ds M Q E h => ?_) (fun f cdv Ar outer s H E ds M Q EX hr h => ?_)
  · obtain ⟨p, s, u, rfl, _⟩ := h
    rfl
  · obtain ⟨p, s, u, rfl, hp, k⟩ := h
    refine ⟨_, (as_cons (as_if (a_tcmp (o_eq (K := K) (un64 hr)) (a_call (g_call (ok_l_drawE T) (hr.mono (by decide)) (by rfl) pass0 (aa_cons (a_var (pv 0)) (aa_cons a_int aa_nil)))) a_int (nomark _))
  (as_one (as_ret (ps_ret (a_call (g_call (ok_l_drawE T) (hr.mono (by decide)) (by rfl) pass0 (aa_cons (a_var (pv 0)) (aa_cons a_int aa_nil)))))))
  as_nil)
  (as_one (as_ret (ps_ret (a_call (g_call (ok_l_drawE T) (hr.mono (by decide)) (by rfl) pass0 (aa_cons (a_var (pv 0)) (aa_cons a_int aa_nil)))))))), ?_⟩
    walk_at "rd"
    refine ⟨p, s, 3, u, rfl, hp, by decide, fun r s1 r0 r1 e1 => ?_⟩
    walk_at "rd"
    refine G.i_d (fun h1 => ?_) (fun h1 => ?_)
    · walk_at "rd"
      exact ⟨p, s1, _, u, rfl, hp.put, by decide, fun r' s2 r0' r1' e2 => .of (k _ _ r0' (by omega) (e2.trans e1))⟩
    · walk_at "rd"
      exact ⟨p, s1, _, u, rfl, hp.put, by decide, fun r' s2 r0' r1' e2 => .of (k _ _ r0' (by omega) (e2.trans e1))⟩
theorem ok_l_number (T : Top w.params K mg) : Cal P w K mg base CX0 2 "_law_number" ["pool"] (conSp K sp_l_number) := (ok_l_numberE T).imp (conSp.imp fun ds M Q E ⟨p, s, u, e, hp, k⟩ => ⟨p, s, u, e, hp, fun r s' r0 r1 _ => k r s' r0 r1⟩)
theorem ok_l_spendE (T : Top w.params K mg) : Cal P w K mg base CX0 1 "_law_spend" ["pool"] (conSp K sp_l_spendE) := by
  refine def_A T.f_l_spend sc_l_spend (fun _ _ _ _ _ _ us hl => match us, hl with | [_], _ => rfl) (fun ds M Q E h => ?_) (fun f cdv Ar outer s H E ds M Q EX hr h => ?_)
  · obtain ⟨p, s, u, rfl, _⟩ := h
    rfl
  · obtain ⟨p, ⟨a, b, c, d, e, ns, ha⟩, u, rfl, hp, k⟩ := h
    unfold PoolS.ob at hp
    dsimp only at hp
    refine ⟨_, (as_cons (as_asg (ps_asg (a_op o_sub (a_ix (o_ix (K := K)) (a_var (pv 0)) a_int (fun _ _ => rfl)) a_int) (ag_sub (pg_sub (a_var (pv 0)) a_int set_list))))
  (as_one (as_ret (ps_ret (a_cmp o_ge (a_ix (o_ix (K := K)) (a_var (pv 0)) a_int (fun _ _ => rfl)) a_int (nomark _)))))), ?_⟩
    walk_at "rd"
    exact k ⟨_, _, _, _, e - 1, ns, ha⟩ rfl
theorem ok_l_spend (T : Top w.params K mg) : Cal P w K mg base CX0 1 "_law_spend" ["pool"] (conSp K sp_l_spend) := (ok_l_spendE T).imp (conSp.imp fun ds M Q E ⟨p, s, u, e, hp, k⟩ => ⟨p, s, u, e, hp, fun s' _ => k _ s'⟩)
/-! ### data that is the same -/
theorem ok_l_sameG (T : Top w.params K mg) : ∀ n, Cal P w K mg base CX0 n "_law_same" ["actual", "due"] (conSp K (sp_l_sameG n))
  | 0 => def_none T.f_l_same (fun _ _ _ _ _ _ us hl => match us, hl with | [_, _], _ => rfl) fun vs H Q E ⟨ds, M, F, B, BX, _, _, ⟨y, x, _, _, h, _⟩, _⟩ => by cases h
  | n + 1 => by
    have IH := ok_l_sameG T n
    refine def_A T.f_l_same sc_l_same (fun _ _ _ _ _ _ us hl => match us, hl with | [_, _], _ => rfl) (fun ds M Q E h => ?_) (fun f cdv Ar outer s H E ds M Q EX hr h => ?_)
    · obtain ⟨y, x, rfl, _⟩ := h
      rfl
    · obtain ⟨y, x, rfl, hv, h, k⟩ := h
      refine ⟨_, (as_cons (as_if (PW.pt (a_or (a_truth (K := K) (a_callB (o_isi (K := K)) (by rfl) T.b_isinstance (by decide +kernel) (aa_cons (a_var (pv 1)) (aa_cons (a_c (pe_bltn (v := .ty "tuple") (by rfl) T.b_tuple (by decide +kernel) rfl) (fun _ => .ty _)) aa_nil))) (by intro _; rfl)) (pw_or1 (a_truth (K := K) (a_callB (o_isi (K := K)) (by rfl) T.b_isinstance (by decide +kernel) (aa_cons (a_var (pv 1)) (aa_cons (a_c (pe_bltn (v := .ty "list") (by rfl) T.b_list (by decide +kernel) rfl) (fun _ => .ty _)) aa_nil))) (by intro _; rfl)))))
  (as_cons (as_if (PW.pt (a_or (a_tcmp (o_ne (K := K) (un64 hr)) (a_callB (o_isi (K := K)) (by rfl) T.b_isinstance (by decide +kernel) (aa_cons (a_var (pv 1)) (aa_cons (a_c (pe_bltn (v := .ty "tuple") (by rfl) T.b_tuple (by decide +kernel) rfl) (fun _ => .ty _)) aa_nil))) (a_callB (o_isi (K := K)) (by rfl) T.b_isinstance (by decide +kernel) (aa_cons (a_var (pv 0)) (aa_cons (a_c (pe_bltn (v := .ty "tuple") (by rfl) T.b_tuple (by decide +kernel) rfl) (fun _ => .ty _)) aa_nil))) (nomark _)) (pw_or1 (a_tcmp (o_ne (K := K) (un64 hr)) (a_callB (o_isi (K := K)) (by rfl) T.b_isinstance (by decide +kernel) (aa_cons (a_var (pv 1)) (aa_cons (a_c (pe_bltn (v := .ty "list") (by rfl) T.b_list (by decide +kernel) rfl) (fun _ => .ty _)) aa_nil))) (a_callB (o_isi (K := K)) (by rfl) T.b_isinstance (by decide +kernel) (aa_cons (a_var (pv 0)) (aa_cons (a_c (pe_bltn (v := .ty "list") (by rfl) T.b_list (by decide +kernel) rfl) (fun _ => .ty _)) aa_nil))) (nomark _)))))
    (as_one (as_ret (ps_ret a_bl)))
    as_nil)
    (as_cons (as_if (a_tcmp (o_ne (K := K) (un64 hr)) (a_callB (o_len (K := K)) (by rfl) T.b_len PySem.boot_len (aa_cons (a_var (pv 0)) aa_nil)) (a_callB (o_len (K := K)) (by rfl) T.b_len PySem.boot_len (aa_cons (a_var (pv 1)) aa_nil)) (nomark _))
    (as_one (as_ret (ps_ret a_bl)))
    as_nil)
    (as_cons (as_for (ps_for PassesOwn.never rfl (ai_r1 (pi_range1 rfl T.b_range (aa_cons (a_callB (o_len (K := K)) (by rfl) T.b_len PySem.boot_len (aa_cons (a_var (pv 1)) aa_nil)) aa_nil))) (ag_name (pg_name (i := 2) sc_l_same.nd rfl (by first | exact Or.inl rfl | exact Or.inr rfl)))
    (as_one (as_if (a_not (a_truth (K := K) (a_call (g_call IH hr (by rfl) pass0 (aa_cons (a_ix (o_ix (K := K)) (a_var (pv 0)) (a_var (pv 2)) (fun _ _ => rfl)) (aa_cons (a_ix (o_ix (K := K)) (a_var (pv 1)) (a_var (pv 2)) (fun _ _ => rfl)) aa_nil)))) (by intro _; rfl)))
      (as_one (as_ret (ps_ret a_bl)))
      as_nil))))
    (as_one (as_ret (ps_ret a_bl))))))
  as_nil)
  (as_cons (as_if (PW.pt (a_or (a_tcmp o_is (a_var (pv 1)) a_non (nomark _)) (pw_or1 (a_truth (K := K) (a_callB (o_isi (K := K)) (by rfl) T.b_isinstance (by decide +kernel) (aa_cons (a_var (pv 1)) (aa_cons (a_c (pe_bltn (v := .ty "bool") (by rfl) T.b_bool (by decide +kernel) rfl) (fun _ => .ty _)) aa_nil))) (by intro _; rfl)))))
  (as_one (as_ret (ps_ret (a_andT (K := K) (a_cmp (o_eq (K := K) (un64 hr)) (a_cmp o_is (a_var (pv 0)) a_non (nomark _)) (a_cmp o_is (a_var (pv 1)) a_non (nomark _)) (nomark _)) (a_andT (K := K) (a_orT (K := K) (a_cmp o_is (a_var (pv 1)) a_non (nomark _)) (pe_one (a_callB (o_isi (K := K)) (by rfl) T.b_isinstance (by decide +kernel) (aa_cons (a_var (pv 0)) (aa_cons (a_c (pe_bltn (v := .ty "bool") (by rfl) T.b_bool (by decide +kernel) rfl) (fun _ => .ty _)) aa_nil))))) (pe_one (a_cmp (o_eq (K := K) (un64 hr)) (a_var (pv 0)) (a_var (pv 1)) (nomark _))))))))
  as_nil)
  (as_cons (as_if (a_truth (K := K) (a_callB (o_isi (K := K)) (by rfl) T.b_isinstance (by decide +kernel) (aa_cons (a_var (pv 1)) (aa_cons (a_c (pe_bltn (v := .ty "int") (by rfl) T.b_int (by decide +kernel) rfl) (fun _ => .ty _)) aa_nil))) (by intro _; rfl))
  (as_one (as_ret (ps_ret (a_andT (K := K) (a_callB (o_isi (K := K)) (by rfl) T.b_isinstance (by decide +kernel) (aa_cons (a_var (pv 0)) (aa_cons (a_c (pe_bltn (v := .ty "int") (by rfl) T.b_int (by decide +kernel) rfl) (fun _ => .ty _)) aa_nil))) (a_andT (K := K) (a_notT (K := K) (a_callB (o_isi (K := K)) (by rfl) T.b_isinstance (by decide +kernel) (aa_cons (a_var (pv 0)) (aa_cons (a_c (pe_bltn (v := .ty "bool") (by rfl) T.b_bool (by decide +kernel) rfl) (fun _ => .ty _)) aa_nil)))) (pe_one (a_cmp (o_eq (K := K) (un64 hr)) (a_var (pv 0)) (a_var (pv 1)) (nomark _))))))))
  as_nil)
  (as_one (as_ret (ps_ret (a_andT (K := K) (a_callB (o_isi (K := K)) (by rfl) T.b_isinstance (by decide +kernel) (aa_cons (a_var (pv 0)) (aa_cons (a_c (pe_bltn (v := .ty "str") (by rfl) T.b_str (by decide +kernel) rfl) (fun _ => .ty _)) aa_nil))) (pe_one (a_cmp (o_eq (K := K) (un64 hr)) (a_var (pv 0)) (a_var (pv 1)) (nomark _)))))))))), ?_⟩
      cases h with
      | non => cases hv; walk_at "rd"; exact k
      | bl b => cases hv; walk_at "rd"; simpa using k
      | int i => cases hv; walk_at "rd"; simpa using k
      | str z => cases hv; walk_at "rd"; simpa using k
      | @lst _ ds hn hi =>
        cases hv with
        | rfl =>
          walk_at "rd"
          refine f_rng (fun i xs M' => ∃ v, xs = [some (.lst ds), some (.lst ds), v] ∧ M' = M) ⟨none, rfl, rfl⟩ ?_ ?_
          · rintro i _ _ hlt ⟨v, rfl, rfl⟩
            have hx : i < ds.length := by simpa using hlt
            have ax : atI ds (i : Int) = some ds[i] := atI_nat (List.getElem?_eq_getElem hx)
            walk_at "rd"
            refine ⟨_, _, rfl, .rfl, hi _ (List.getElem_mem hx), ?_⟩
            walk_at "rd"
            exact ⟨_, rfl, rfl⟩
          · rintro _ _ ⟨v, rfl, rfl⟩
            walk_at "rd"
            exact k
        | @o a _ u ha =>
          walk_at "rd"
          refine f_rng (fun i xs M' => ∃ v, xs = [some (.r a), some (.lst ds), v] ∧ M' = M) ⟨none, rfl, rfl⟩ ?_ ?_
          · rintro i _ _ hlt ⟨v, rfl, rfl⟩
            have hx : i < ds.length := by simpa using hlt
            have ax : atI ds (i : Int) = some ds[i] := atI_nat (List.getElem?_eq_getElem hx)
            walk_at "rd"
            refine ⟨_, _, rfl, .rfl, hi _ (List.getElem_mem hx), ?_⟩
            walk_at "rd"
            exact ⟨_, rfl, rfl⟩
          · rintro _ _ ⟨v, rfl, rfl⟩
            walk_at "rd"
            exact k
      | @tup _ ds hn hi =>
        cases hv
        walk_at "rd"
        refine f_rng (fun i xs M' => ∃ v, xs = [some (.tup ds), some (.tup ds), v] ∧ M' = M) ⟨none, rfl, rfl⟩ ?_ ?_
        · rintro i _ _ hlt ⟨v, rfl, rfl⟩
          have hx : i < ds.length := by simpa using hlt
          have ax : atI ds (i : Int) = some ds[i] := atI_nat (List.getElem?_eq_getElem hx)
          walk_at "rd"
          refine ⟨_, _, rfl, .rfl, hi _ (List.getElem_mem hx), ?_⟩
          walk_at "rd"
          exact ⟨_, rfl, rfl⟩
        · rintro _ _ ⟨v, rfl, rfl⟩
          walk_at "rd"
          exact k
theorem ok_l_same (T : Top w.params K mg) (n : Nat) : Cal P w K mg base CX0 n "_law_same" ["actual", "due"] (conSp K (sp_l_same n)) :=
  (ok_l_sameG T n).imp (conSp.imp fun ds M Q E ⟨x, e, h, k⟩ => ⟨x, x, e, .rfl, h, k⟩)
end


/-! ### interfaces as data -/
abbrev pD (p : Int × Int) : D := .tup [.int p.1, .int p.2]
abbrev psD (ps : List (Int × Int)) : D := .lst (ps.map pD)
abbrev ptD (ps : List (Int × Int)) : D := .tup (ps.map pD)
abbrev rowD (r : Int × List (Int × Int)) : D := .tup [.int r.1, psD r.2]
abbrev rowsD (rs : List (Int × List (Int × Int))) : D := .lst (rs.map rowD)
abbrev esD (es : List Int) : D := .tup (es.map D.int)
abbrev imD (is : List (List (Int × Int))) : D := .tup (is.map ptD)
abbrev ifF (rs : List (Int × List (Int × Int))) : List (Str × D) := [("exports", esD (rs.map (·.1))), ("imports", imD (rs.map (·.2)))]
def FitI (es : List Int) (c : Int) (p : Int × Int) : Prop := p.1 ≠ c ∧ (0 ≤ p.1 ∧ p.1 < es.length) ∧ 0 ≤ p.2 ∧ p.2 < es.getD p.1.toNat 0
instance {es : List Int} {c : Int} {p : Int × Int} : Decidable (FitI es c p) := by unfold FitI; infer_instance
def FitsI (es : List Int) (c : Int) (ps : List (Int × Int)) : Prop := ps.length ≤ 8 ∧ ps.Nodup ∧ ∀ p ∈ ps, FitI es c p
instance {es : List Int} {c : Int} {ps : List (Int × Int)} : Decidable (FitsI es c ps) := by unfold FitsI; infer_instance
def RowOk (es : List Int) (is : List (List (Int × Int))) (c : Nat) : Prop := (1 ≤ es.getD c 0 ∧ es.getD c 0 ≤ 8) ∧ FitsI es c (is.getD c [])
instance {es : List Int} {is : List (List (Int × Int))} {c : Nat} : Decidable (RowOk es is c) := by unfold RowOk; infer_instance
/-- the first component that does not fit -/
def faultOf (es : List Int) (is : List (List (Int × Int))) : Option Nat :=
  if es.length = 0 then some 0 else if 8 < es.length then some 8 else (List.range es.length).find? fun i => !decide (RowOk es is i)
def optD : Option Nat → D
  | none => .non
  | some i => .int (i : Nat)
abbrev RsLen (rs : List (Int × List (Int × Int))) : Prop := rs.length ≤ 1000000 ∧ ∀ r ∈ rs, r.2.length ≤ 1000000
theorem at_ints {es : List Int} {i : Int} (h0 : 0 ≤ i) (h : i < (es.length : Int)) : atI (es.map D.int) i = some (.int (es.getD i.toNat 0)) := by
  have hl : i.toNat < es.length := by omega
  have q : atI (es.map D.int) ((i.toNat : Nat) : Int) = some (.int (es.getD i.toNat 0)) := atI_nat (by rw [List.getElem?_map, List.getElem?_eq_getElem hl, List.getD_eq_getElem?_getD, List.getElem?_eq_getElem hl]; rfl)
  rwa [Int.toNat_of_nonneg h0] at q
theorem at_map {α : Type} {l : List α} {fn : α → D} {i : Nat} {x : α} (h : l[i]? = some x) : atI (l.map fn) (i : Int) = some (fn x) := atI_nat (by rw [List.getElem?_map, h]; rfl)

/-! ### lists to tuples, all the way down -/
def FzOk : Nat → D → Prop
  | 0, _ => False
  | _ + 1, .int _ => True
  | _ + 1, .str _ => True
  | n + 1, .lst ds => ds.length ≤ 1000000 ∧ ∀ x ∈ ds, FzOk n x
  | n + 1, .tup ds => ds.length ≤ 1000000 ∧ ∀ x ∈ ds, FzOk n x
  | _ + 1, _ => False
def froz : Nat → D → D
  | n + 1, .lst ds => .tup (ds.map (froz n))
  | n + 1, .tup ds => .tup (ds.map (froz n))
  | _, d => d
def sp_frozen (n : Nat) : ASp := fun ds M Q _ => ∃ d, ds = [d] ∧ FzOk n d ∧ Q (froz n d) M
section
variable {P : Program} {w : World} {K : PySem.W.Frag} {mg : Str → Option Value} {base : Heap}
theorem ok_frozen (T : Top w.params K mg) : ∀ n, Cal P w K mg base CX0 n "frozen" ["part"] (conSp K (sp_frozen n))
  | 0 => def_none T.f_frozen (fun _ _ _ _ _ _ us hl => match us, hl with | [_], _ => rfl) fun vs H Q E ⟨ds, M, F, B, BX, _, _, ⟨x, _, h, _⟩, _⟩ => h
  | n + 1 => by
    have IH := ok_frozen T n
    refine def_A T.f_frozen sc_frozen (fun _ _ _ _ _ _ us hl => match us, hl with | [_], _ => rfl) (fun ds M Q E h => ?_) (fun f cdv Ar outer s H E ds M Q EX hr h => ?_)
    · obtain ⟨x, rfl, _⟩ := h
      rfl
    · obtain ⟨d, rfl, h, k⟩ := h
      refine ⟨_, (as_cons (as_if (a_truth (K := K) (a_callB (o_isT (K := K)) (by rfl) T.b_isinstance (by decide +kernel) (aa_cons (a_var (pv 0)) (aa_cons (a_tup (aa_cons (a_c (pe_bltn (v := .ty "list") (by rfl) T.b_list (by decide +kernel) rfl) (fun _ => .ty _)) (aa_cons (a_c (pe_bltn (v := .ty "tuple") (by rfl) T.b_tuple (by decide +kernel) rfl) (fun _ => .ty _)) aa_nil))) aa_nil))) (by intro _; rfl))
  (as_one (as_ret (ps_ret (a_callTy (o_tup (K := K)) (by rfl) T.b_tuple (by decide +kernel) (aa_cons (a_lc finD_ok (pe_lc (own := [("inner", 1)]) rfl sc_frozen.nd (ai_of (g_it (K := K) (a_var (pv 0)))) (blkOk_by (own := [("inner", 1)]) (N := ["part", "inner"]) (sc := defScope s_frozen) (by decide +kernel)) (fun _ _ _ _ _ => (ag_name (pg_name (i := 1) sc_frozen.nd rfl (Or.inl rfl)))) (fun _ _ _ _ _ => ats_nil) (fun _ _ _ _ _ => (a_call (g_call IH hr (by rfl) pass0 (aa_cons (a_var (pv 1)) aa_nil)))))) aa_nil)))))
  as_nil)
  (as_one (as_ret (ps_ret (a_var (pv 0)))))), ?_⟩
      cases d with
      | int i =>
        walk_at "rd"
        refine ⟨_, "int", ["list", "tuple"], false, rfl, .int, kitAny_cons (kit_ty (r := false) (by decide +kernel)) (fun _ => kitAny_cons (kit_ty (r := false) (by decide +kernel)) (fun _ => rfl) nofun) nofun, ?_⟩
        walk_at "rd"
        exact k
      | str z =>
        walk_at "rd"
        refine ⟨_, "str", ["list", "tuple"], false, rfl, .str, kitAny_cons (kit_ty (r := false) (by decide +kernel)) (fun _ => kitAny_cons (kit_ty (r := false) (by decide +kernel)) (fun _ => rfl) nofun) nofun, ?_⟩
        walk_at "rd"
        exact k
      | lst ds =>
        walk_at "rd"
        refine ⟨_, "list", ["list", "tuple"], true, rfl, .lst, kitAny_cons (kit_ty (r := true) (by decide +kernel)) nofun (fun _ => rfl), ?_⟩
        walk_at "rd"
        intro a
        refine c_inv (fun i acc M' => acc = (ds.take i).map (froz n) ∧ M' = M) ⟨by simp, rfl⟩ ?_ ?_
        · rintro i d acc M' hd hl ⟨rfl, rfl⟩
          have hi := (List.getElem?_eq_some_iff.mp hd).1
          have hs := h.1
          walk_at "rd"
          refine ⟨d, rfl, h.2 d (List.mem_of_getElem? hd), ?_⟩
          walk_at "rd"
          exact .mk hl (by rw [line_val]; omega) ⟨by rw [List.take_add_one, hd]; simp, rfl⟩
        · rintro acc M' hl ⟨rfl, rfl⟩
          rw [List.take_length]
          refine fin_d ?_
          walk_at "rd"
          exact k
      | tup ds =>
        walk_at "rd"
        refine ⟨_, "tuple", ["list", "tuple"], true, rfl, .tup, kitAny_cons (kit_ty (r := false) (by decide +kernel)) (fun _ => kitAny_cons (kit_ty (r := true) (by decide +kernel)) nofun (fun _ => rfl)) nofun, ?_⟩
        walk_at "rd"
        intro a
        refine c_inv (fun i acc M' => acc = (ds.take i).map (froz n) ∧ M' = M) ⟨by simp, rfl⟩ ?_ ?_
        · rintro i d acc M' hd hl ⟨rfl, rfl⟩
          have hi := (List.getElem?_eq_some_iff.mp hd).1
          have hs := h.1
          walk_at "rd"
          refine ⟨d, rfl, h.2 d (List.mem_of_getElem? hd), ?_⟩
          walk_at "rd"
          exact .mk hl (by rw [line_val]; omega) ⟨by rw [List.take_add_one, hd]; simp, rfl⟩
        · rintro acc M' hl ⟨rfl, rfl⟩
          rw [List.take_length]
          refine fin_d ?_
          walk_at "rd"
          exact k
      | _ => exact h.elim
end

/-! ### components as data -/
abbrev compF (n : Nat) (room bufs procs : D) : List (Str × D) := [("room", room), ("buffers", froz n bufs), ("procedures", froz n procs)]
def sp_Comp_init (C : Cs) (n : Nat) : ASp := fun ds M Q E => ∃ (x : Addr) (u : Ob → Mem) (room bufs procs : D), ds = [.r x, room, bufs, procs] ∧ At M x (.ins C.Component []) u ∧ FzOk n bufs ∧ FzOk n procs ∧ Q .non (u (.ins C.Component (compF n room bufs procs)))
section
variable {P : Program} {w : World} {K : PySem.W.Frag} {mg : Str → Option Value} {base : Heap} {C : Cs}
theorem ok_Component_init (T : Top w.params K mg) (Z : Txt K mg C) (n : Nat) : MCal P w K mg base (HX P w) (n + 1) C.Component "__init__" ["self", "room", "buffers", "procedures"] (conSp K (sp_Comp_init C n)) := by
  refine met_AX Z.m_Component_init sc_Component_init (fun _ _ _ _ _ _ us hl => match us, hl with | [_, _, _, _], _ => rfl) (fun ds M Q E h => ?_) (fun f cdv Ar outer s H E ds M Q EX hr h => ?_)
  · obtain ⟨x, u, room, bufs, procs, rfl, _⟩ := h
    rfl
  · obtain ⟨x, u, room, bufs, procs, rfl, hx, h1, h2, k⟩ := h
    refine ⟨_, (as_cons (as_fld (K := K) (ps_fld (a_var (pv 0)) (a_var (pv 1)) rfl))
  (as_cons (as_fld (K := K) (ps_fld (a_var (pv 0)) (a_call (g_call (ok_frozen T n) (hr.mono (by omega)) (by rfl) pass0 (aa_cons (a_var (pv 2)) aa_nil))) rfl))
  (as_one (as_fld (K := K) (ps_fld (a_var (pv 0)) (a_call (g_call (ok_frozen T n) (hr.mono (by omega)) (by rfl) pass0 (aa_cons (a_var (pv 3)) aa_nil))) rfl))))), ?_⟩
    have hc := Z.k_Component.cl
    have n1 := Z.a_Component_room
    have n2 := Z.a_Component_buffers
    have n3 := Z.a_Component_procedures
    walk_at "rd"
    refine ⟨bufs, rfl, h1, ?_⟩
    walk_at "rd"
    refine ⟨procs, rfl, h2, ?_⟩
    walk_at "rd"
    exact k
end

/-! ### expressions, statements, components as data -/
abbrev natD (n : Nat) : D := .int (n : Nat)
inductive Ex where
  | num (n : Nat)
  | loc (n : Nat)
  | get (b : Nat) (e : Ex)
  | op (z : Str) (a b : Ex)
deriving DecidableEq
def Ex.d : Ex → D
  | .num n => .tup [.str "number", natD n]
  | .loc n => .tup [.str "local", natD n]
  | .get b e => .tup [.str "get", natD b, e.d]
  | .op z a b => .tup [.str z, a.d, b.d]
abbrev opsL : List Str := ["+", "-", "*", "/", "mod", "<", "="]
inductive St where
  | set (l : Nat) (e : Ex)
  | put (b : Nat) (i e : Ex)
  | call (l p : Nat) (e : Ex)
  | use (l i : Nat) (e : Ex)
  | ifs (t : Ex) (a b : List St)
  | wh (t : Ex) (a : List St)
  | ret (e : Ex)
mutual
def St.d : St → D
  | .set l e => .tup [.str "set", natD l, e.d]
  | .put b i e => .tup [.str "put", natD b, i.d, e.d]
  | .call l p e => .tup [.str "call", natD l, natD p, e.d]
  | .use l i e => .tup [.str "use", natD l, natD i, e.d]
  | .ifs t a b => .tup [.str "if", t.d, .tup (stsD a), .tup (stsD b)]
  | .wh t a => .tup [.str "while", t.d, .tup (stsD a)]
  | .ret e => .tup [.str "return", e.d]
def stsD : List St → List D
  | [] => []
  | x :: xs => x.d :: stsD xs
end
theorem stsD_map (xs : List St) : stsD xs = xs.map St.d := by
  induction xs with
  | nil => simp [stsD]
  | cons x xs ih => simp [stsD, ih]
/-- how deep an expression is -/
def Ex.dep : Ex → Nat
  | .num _ => 1
  | .loc _ => 1
  | .get _ e => e.dep + 1
  | .op _ a b => max a.dep b.dep + 1
theorem Ex.dep_pos (e : Ex) : 1 ≤ e.dep := by cases e <;> simp [Ex.dep]
/-- the numbers of locals, buffers, procedures, imports -/
structure Sh where
  (nl nb np ni : Nat)
def Ex.ok (h : Sh) : Ex → Prop
  | .num n => n < 65536
  | .loc n => n < h.nl
  | .get b e => b < h.nb ∧ e.ok h
  | .op z a b => z ∈ opsL ∧ a.ok h ∧ b.ok h
abbrev Ex.okd (h : Sh) (d : Nat) (e : Ex) : Prop := e.ok h ∧ e.dep ≤ d
mutual
def St.ok (h : Sh) : St → Nat → Prop
  | .set l e, _ => l < h.nl ∧ e.okd h 4
  | .put b i e, _ => b < h.nb ∧ i.okd h 4 ∧ e.okd h 4
  | .call l p e, _ => l < h.nl ∧ p < h.np ∧ e.okd h 4
  | .use l i e, _ => l < h.nl ∧ i < h.ni ∧ e.okd h 4
  | .ifs t a b, n => 0 < n ∧ t.okd h 4 ∧ (a.length ≤ 1000 ∧ stsOk h a (n - 1)) ∧ (b.length ≤ 1000 ∧ stsOk h b (n - 1))
  | .wh t a, n => 0 < n ∧ t.okd h 4 ∧ (a.length ≤ 1000 ∧ stsOk h a (n - 1))
  | .ret e, _ => e.okd h 4
def stsOk (h : Sh) : List St → Nat → Prop
  | [], _ => True
  | x :: xs, n => x.ok h n ∧ stsOk h xs n
end
theorem stsOk_iff {h : Sh} {n : Nat} {xs : List St} : stsOk h xs n ↔ ∀ x ∈ xs, x.ok h n := by
  induction xs with
  | nil => simp [stsOk]
  | cons x xs ih => simp [stsOk, ih]
/-- a block -/
abbrev BkOk (h : Sh) (n : Nat) (xs : List St) : Prop := xs.length ≤ 1000 ∧ stsOk h xs n
structure Cm where
  room : Nat
  bufs : List (List Nat)
  procs : List (Nat × List St)
abbrev bufD (b : List Nat) : D := .tup (b.map natD)
abbrev bufsD (bs : List (List Nat)) : D := .tup (bs.map bufD)
abbrev procD (p : Nat × List St) : D := .tup [natD p.1, .tup (p.2.map St.d)]
abbrev procsD (ps : List (Nat × List St)) : D := .tup (ps.map procD)
def Cm.row (c : Cm) : D := .tup [natD c.room, bufsD c.bufs, procsD c.procs]
/-- exports, imports of a component; blocks at most n deep -/
structure Cm.ok (c : Cm) (n ex ni : Nat) : Prop where
  room : c.room ≤ 20000
  nb : c.bufs.length ≤ 8
  buf : ∀ b ∈ c.bufs, (1 ≤ b.length ∧ b.length ≤ 1000) ∧ ∀ x ∈ b, x < 65536
  np : 1 ≤ c.procs.length ∧ ex ≤ c.procs.length ∧ c.procs.length ≤ 9
  proc : ∀ p ∈ c.procs, (1 ≤ p.1 ∧ p.1 ≤ 16) ∧ BkOk ⟨p.1, c.bufs.length, c.procs.length, ni⟩ n p.2

theorem ops_no {z : Str} (h : z ∈ opsL) : ¬ z = "number" ∧ ¬ z = "local" ∧ ¬ z = "get" := by
  simp only [opsL, List.mem_cons, List.not_mem_nil, or_false] at h
  rcases h with rfl | rfl | rfl | rfl | rfl | rfl | rfl <;> decide

/-! ### a statement's parts -/
inductive Pt where
  | nn (k : Nat) | ex (e : Ex) | bk (a : List St)
def Pt.d : Pt → D
  | .nn k => natD k
  | .ex e => e.d
  | .bk a => .tup (stsD a)
def St.kind : St → Str
  | .set .. => "set"
  | .put .. => "put"
  | .call .. => "call"
  | .use .. => "use"
  | .ifs .. => "if"
  | .wh .. => "while"
  | .ret .. => "return"
def St.parts : St → List Pt
  | .set l e => [.nn l, .ex e]
  | .put b i e => [.nn b, .ex i, .ex e]
  | .call l p e => [.nn l, .nn p, .ex e]
  | .use l i e => [.nn l, .nn i, .ex e]
  | .ifs t a b => [.ex t, .bk a, .bk b]
  | .wh t a => [.ex t, .bk a]
  | .ret e => [.ex e]
theorem St.d_parts (x : St) : x.d = .tup (.str x.kind :: x.parts.map Pt.d) := by cases x <;> rw [St.d] <;> rfl
theorem cut_tl {d : D} {ds : List D} : cutD (d :: ds) (some 1) none = ds := by
  unfold cutD
  have e1 : HT.sIx (d :: ds).length 0 (some 1) = 1 := by unfold HT.sIx; simp
  have e2 : HT.sIx (d :: ds).length (d :: ds).length none = (d :: ds).length := by unfold HT.sIx; simp
  rw [e1, e2, List.drop_succ_cons, List.drop_zero, List.length_cons, Nat.add_sub_cancel, List.take_length]
/-- the expressions of a statement are drawn for its shape -/
theorem St.parts_ok {h : Sh} {n : Nat} {x : St} (k : x.ok h n) : ∀ e, Pt.ex e ∈ x.parts → e.okd h 4 := by
  intro e he
  cases x <;> simp only [St.parts, List.mem_cons, List.not_mem_nil, or_false, false_or, reduceCtorEq, Pt.ex.injEq] at he
  case set => subst he; exact k.2
  case put => rcases he with rfl | rfl; exact k.2.1; exact k.2.2
  case call => subst he; exact k.2.2
  case use => subst he; exact k.2.2
  case ifs => rw [St.ok] at k; subst he; exact k.2.1
  case wh => rw [St.ok] at k; subst he; exact k.2.1
  case ret => subst he; exact k
theorem Ex.d_str (e : Ex) : ∃ (z : Str) (ds : List D), e.d = .tup (.str z :: ds) := by cases e <;> rw [Ex.d] <;> exact ⟨_, _, rfl⟩


local macro_rules | `(tactic| walk_at "re") => `(tactic| (walk_at "wh"; repeat ((first | walk_at "a0" | ((with_reducible refine AV.Nx.of ?_); (try walk_at "st"))); walk_at "wh")))
local macro_rules | `(tactic| walk_at "a1") => `(tactic| with_reducible refine AV.s_enl ?_)
local macro_rules | `(tactic| walk_at "a0") => `(tactic| with_reducible refine AV.s_enl ?_)
local macro_rules | `(tactic| walk_at "at") => `(tactic| with_reducible first | exact AV.At.hd | assumption | exact AV.At.put (by assumption) | (refine' AV.At.under ?k6; (case k6 => walk_at "at")) | (refine' AV.At.tl ?k6; (case k6 => walk_at "at")))
local macro_rules | `(tactic| walk_at "fz0") => `(tactic| ((try walk_at "st"); refine' AV.Nx.fz (AV.Fz.lst AV.Rem.hd ?k1 AV.SbM.rest) ?_; (case k1 => walk_at "fzs")))
local macro_rules | `(tactic| walk_at "fz1") => `(tactic| ((try walk_at "st"); refine' AV.Nx.fz (AV.Fz.lst (AV.Rem.tl AV.Rem.hd) ?k1 AV.SbM.rest) ?_; (case k1 => walk_at "fzs")))
local macro_rules | `(tactic| walk_at "b1") => `(tactic| first
  | ((with_reducible refine' AV.v_rep1 ?k1 ?_); (case k1 => exact ⟨by omega, by omega⟩))
  | ((with_reducible refine' AV.v_repO1 ?k1 ?_); (case k1 => exact ⟨by omega, by omega⟩))
  | ((with_reducible refine' AV.x_augS ?k1 ?k2 ?_); (case k1 => walk_at "at"); (case k2 => first | rfl | assumption))
  | ((with_reducible refine' AV.x_unl ?k1 ?k2 ?_); (case k1 => walk_at "ls"); (case k2 => rfl))
  | ((with_reducible refine' AV.x_star ?k1 ?_); (case k1 => walk_at "sq")))
local macro_rules | `(tactic| walk_at "a1") => `(tactic| walk_at "b1")
local macro_rules | `(tactic| walk_at "a0") => `(tactic| walk_at "b1")
local macro_rules | `(tactic| walk_at "lk") => `(tactic| with_reducible assumption)
local macro_rules | `(tactic| walk_at "b1") => `(tactic| first
  | ((with_reducible refine' AV.x_kd ?k1 ?_); (case k1 => rfl))
  | with_reducible refine AV.x_kin ?_
  | ((with_reducible refine' AV.x_dix ?k1 ?k2 ?_); (case k1 => walk_at "at"); (case k2 => walk_at "lk"))
  | ((with_reducible refine' AV.x_dput ?k1 ?k2 ?k3 ?_); (case k1 => walk_at "at"); (case k2 => walk_at "sz"); (case k3 => walk_at "putr")))
local macro_rules | `(tactic| walk_at "b1") => `(tactic| ((with_reducible refine' AV.x_hasL ?k1 ?_); (case k1 => walk_at "at")))
local macro_rules | `(tactic| walk_at "b1") => `(tactic| with_reducible refine AV.s_ent ?_)

abbrev Cm.d (C : Cs) (c : Cm) : D := .ins C.Component [("room", natD c.room), ("buffers", bufsD c.bufs), ("procedures", procsD c.procs)]

/-! ### how many statements -/
mutual
def St.cnt : St → Nat
  | .ifs _ a b => 1 + stsCnt a + stsCnt b
  | .wh _ a => 1 + stsCnt a
  | .set .. => 1
  | .put .. => 1
  | .call .. => 1
  | .use .. => 1
  | .ret _ => 1
def stsCnt : List St → Nat
  | [] => 0
  | x :: xs => x.cnt + stsCnt xs
end
theorem stsCnt_app {ys : List St} : ∀ xs : List St, stsCnt (xs ++ ys) = stsCnt xs + stsCnt ys
  | [] => by simp [stsCnt]
  | x :: xs => by rw [List.cons_append, stsCnt, stsCnt, stsCnt_app xs]; omega
def Ex.parts : Ex → List Ex
  | .num _ => []
  | .loc _ => []
  | .get _ e => [e]
  | .op _ a b => [a, b]
theorem buf_at {bs : List (List Nat)} {b : Nat} (h : b < bs.length) : atI (bs.map bufD) (b : Int) = some (bufD (bs.getD b [])) := at_map (by rw [List.getD_eq_getElem?_getD, List.getElem?_eq_getElem h]; rfl)
def sp_parts_of : ASp := fun ds M Q _ => ∃ (h : Sh) (e : Ex), ds = [e.d] ∧ e.ok h ∧ Q (.lst (e.parts.map Ex.d)) M
/-! ### statements that are surely defined -/
def St.exps : St → List Ex
  | .set _ e => [e]
  | .put _ i e => [i, e]
  | .call _ _ e => [e]
  | .use _ _ e => [e]
  | .ifs t _ _ => [t]
  | .wh t _ => [t]
  | .ret e => [e]
mutual
def St.all : St → List St
  | .ifs t a b => .ifs t a b :: (stsAll a ++ stsAll b)
  | .wh t a => .wh t a :: stsAll a
  | .set l e => [.set l e]
  | .put b i e => [.put b i e]
  | .call l p e => [.call l p e]
  | .use l i e => [.use l i e]
  | .ret e => [.ret e]
def stsAll : List St → List St
  | [] => []
  | x :: xs => x.all ++ stsAll xs
end
mutual
theorem all_len : ∀ x : St, x.all.length = x.cnt
  | .ifs t a b => by rw [St.all, St.cnt, List.length_cons, List.length_append, stsAll_len a, stsAll_len b]; omega
  | .wh t a => by rw [St.all, St.cnt, List.length_cons, stsAll_len a]; omega
  | .set .. => by rw [St.all, St.cnt]; rfl
  | .put .. => by rw [St.all, St.cnt]; rfl
  | .call .. => by rw [St.all, St.cnt]; rfl
  | .use .. => by rw [St.all, St.cnt]; rfl
  | .ret .. => by rw [St.all, St.cnt]; rfl
theorem stsAll_len : ∀ xs : List St, (stsAll xs).length = stsCnt xs
  | [] => by rw [stsAll, stsCnt]; rfl
  | x :: xs => by rw [stsAll, stsCnt, List.length_append, all_len x, stsAll_len xs]
end
theorem stsAll_app {ys : List St} : ∀ xs : List St, stsAll (xs ++ ys) = stsAll xs ++ stsAll ys
  | [] => by rw [List.nil_append, stsAll, List.nil_append]
  | x :: xs => by rw [List.cons_append, stsAll, stsAll, stsAll_app xs, List.append_assoc]
theorem stsAll_one (x : St) : stsAll [x] = x.all := by rw [stsAll, stsAll, List.append_nil]
mutual
theorem St.ok.mono {h : Sh} : ∀ {x : St} {n m : Nat}, x.ok h n → n ≤ m → x.ok h m
  | .set .., _, _, k, _ => k
  | .put .., _, _, k, _ => k
  | .call .., _, _, k, _ => k
  | .use .., _, _, k, _ => k
  | .ifs t a b, n, m, k, hm => by
    rw [St.ok] at k ⊢
    exact ⟨by omega, k.2.1, ⟨k.2.2.1.1, stsOk.mono k.2.2.1.2 (by omega)⟩, ⟨k.2.2.2.1, stsOk.mono k.2.2.2.2 (by omega)⟩⟩
  | .wh t a, n, m, k, hm => by
    rw [St.ok] at k ⊢
    exact ⟨by omega, k.2.1, k.2.2.1, stsOk.mono k.2.2.2 (by omega)⟩
  | .ret _, _, _, k, _ => k
theorem stsOk.mono {h : Sh} : ∀ {xs : List St} {n m : Nat}, stsOk h xs n → n ≤ m → stsOk h xs m
  | [], _, _, _, _ => trivial
  | x :: xs, n, m, k, hm => by
    rw [stsOk] at k ⊢
    exact ⟨k.1.mono hm, stsOk.mono k.2 hm⟩
end
mutual
theorem all_ok {h : Sh} : ∀ (x : St) (n : Nat), x.ok h n → ∀ y ∈ x.all, y.ok h n
  | .ifs t a b, n, k, y, hy => by
    have k0 := k
    rw [St.ok] at k
    rw [St.all] at hy
    rcases List.mem_cons.mp hy with rfl | hy
    · exact k0
    · rcases List.mem_append.mp hy with hy | hy
      · exact (stsAll_ok a (n - 1) k.2.2.1.2 y hy).mono (by omega)
      · exact (stsAll_ok b (n - 1) k.2.2.2.2 y hy).mono (by omega)
  | .wh t a, n, k, y, hy => by
    have k0 := k
    rw [St.ok] at k
    rw [St.all] at hy
    rcases List.mem_cons.mp hy with rfl | hy
    · exact k0
    · exact (stsAll_ok a (n - 1) k.2.2.2 y hy).mono (by omega)
  | .set .., n, k, y, hy => by rw [St.all] at hy; rw [List.mem_singleton.mp hy]; exact k
  | .put .., n, k, y, hy => by rw [St.all] at hy; rw [List.mem_singleton.mp hy]; exact k
  | .call .., n, k, y, hy => by rw [St.all] at hy; rw [List.mem_singleton.mp hy]; exact k
  | .use .., n, k, y, hy => by rw [St.all] at hy; rw [List.mem_singleton.mp hy]; exact k
  | .ret .., n, k, y, hy => by rw [St.all] at hy; rw [List.mem_singleton.mp hy]; exact k
theorem stsAll_ok {h : Sh} : ∀ (xs : List St) (n : Nat), stsOk h xs n → ∀ y ∈ stsAll xs, y.ok h n
  | [], n, k, y, hy => by rw [stsAll] at hy; cases hy
  | x :: xs, n, k, y, hy => by
    rw [stsOk] at k
    rw [stsAll] at hy
    rcases List.mem_append.mp hy with hy | hy
    · exact all_ok x n k.1 y hy
    · exact stsAll_ok xs n k.2 y hy
end
theorem St.exps_ok {h : Sh} {n : Nat} {x : St} (k : x.ok h n) : ∀ e ∈ x.exps, e.okd h 4 := by
  intro e he
  refine St.parts_ok k e ?_
  cases x <;> simp only [St.exps, List.mem_cons, List.not_mem_nil, or_false] at he <;> simp [St.parts, he]
def sp_exps : ASp := fun ds M Q _ => ∃ x : St, ds = [x.d] ∧ Q (.lst (x.exps.map Ex.d)) M
def sp_stof (n : Nat) : ASp := fun ds M Q _ => ∃ (h : Sh) (dp : Nat) (xs : List St), ds = [.tup (stsD xs)] ∧ dp < n ∧ stsOk h xs dp ∧ stsCnt xs ≤ 100000 ∧ Q (.lst ((stsAll xs).map St.d)) M
section
variable {P : Program} {w : World} {K : PySem.W.Frag} {mg : Str → Option Value} {base : Heap} {C : Cs}
theorem ok_parts_of (T : Top w.params K mg) : Cal P w K mg base CX0 1 "parts_of" ["expression"] (conSp K sp_parts_of) := by
  refine def_A T.f_parts_of sc_parts_of (fun _ _ _ _ _ _ us hl => match us, hl with | [_], _ => rfl) (fun ds M Q E h => ?_) (fun f cdv Ar outer s H E ds M Q EX hr h => ?_)
  · obtain ⟨h, e, rfl, _⟩ := h
    rfl
  · obtain ⟨h, e, rfl, hk, k⟩ := h
    refine ⟨_, (as_cons (as_if (a_tcmp (o_in (K := K) (un65 hr)) (a_ix (o_ix (K := K)) (a_var (pv 0)) a_int (fun _ _ => rfl)) (a_tup (aa_cons a_str (aa_cons a_str aa_nil))) rfl)
  (as_one (as_ret (ps_ret (a_lst aa_nil))))
  as_nil)
  (as_cons (as_if (a_tcmp (o_eq (K := K) (un64 hr)) (a_ix (o_ix (K := K)) (a_var (pv 0)) a_int (fun _ _ => rfl)) a_str (nomark _))
  (as_one (as_ret (ps_ret (a_lst (aa_cons (a_ix (o_ix (K := K)) (a_var (pv 0)) a_int (fun _ _ => rfl)) aa_nil)))))
  as_nil)
  (as_one (as_ret (ps_ret (a_lst (aa_cons (a_ix (o_ix (K := K)) (a_var (pv 0)) a_int (fun _ _ => rfl)) (aa_cons (a_ix (o_ix (K := K)) (a_var (pv 0)) a_int (fun _ _ => rfl)) aa_nil)))))))), ?_⟩
    cases e with
    | num n =>
      rw [Ex.d]
      walk_at "rd"
      refine aIn.txts (zs := ["number", "local"]) .t ?_
      walk_at "rd"
      exact k
    | loc n =>
      rw [Ex.d]
      walk_at "rd"
      refine aIn.txts (zs := ["number", "local"]) .t ?_
      walk_at "rd"
      exact k
    | get b e =>
      rw [Ex.d]
      walk_at "rd"
      refine aIn.txts (zs := ["number", "local"]) .t ?_
      walk_at "rd"
      exact k
    | op z a b =>
      obtain ⟨n1, n2, n3⟩ := ops_no hk.1
      have n4 : ¬ z ∈ (["number", "local"] : List Str) := by simp [n1, n2]
      rw [Ex.d]
      walk_at "rd"
      refine aIn.txts (zs := ["number", "local"]) .t ?_
      walk_at "rd"
      exact k
theorem ok_expressions_of (T : Top w.params K mg) : Cal P w K mg base CX0 1 "expressions_of" ["statement"] (conSp K sp_exps) := by
  refine def_A T.f_expressions_of sc_expressions_of (fun _ _ _ _ _ _ us hl => match us, hl with | [_], _ => rfl) (fun ds M Q E h => ?_) (fun f cdv Ar outer s0 H E ds M Q EX hr h => ?_)
  · obtain ⟨x, rfl, _⟩ := h
    rfl
  · obtain ⟨x, rfl, k⟩ := h
    refine ⟨_, (as_one (as_ret (ps_ret (a_lc finD_ok (pe_lc (own := [("place", 1)]) rfl sc_expressions_of.nd (ai_of (g_it (K := K) (a_kd (K := K) T.c_EXPRESSION_PLACES rfl (a_ix (o_ix (K := K)) (a_var (pv 0)) a_int (fun _ _ => rfl)) (fun _ _ => rfl)))) (blkOk_by (own := [("place", 1)]) (N := ["statement", "place"]) (sc := defScope s_expressions_of) (by decide +kernel)) (fun _ _ _ _ _ => (ag_name (pg_name (i := 1) sc_expressions_of.nd rfl (Or.inl rfl)))) (fun _ _ _ _ _ => ats_nil) (fun _ _ _ _ _ => (a_ix (o_ix (K := K)) (a_var (pv 0)) (a_var (pv 1)) (fun _ _ => rfl)))))))), ?_⟩
    have hl : ∀ (i : Nat), ((x.exps.map Ex.d).take i).length ≤ i := fun i => by rw [List.length_take]; omega
    cases x
    case put b ie e =>
      rw [St.d]
      walk_at "rd"
      intro a
      refine c_inv (fun i acc M' => acc = ([ie.d, e.d] : List D).take i ∧ M' = M) ⟨rfl, rfl⟩ ?_ ?_
      · rintro i d acc M' hd hal ⟨rfl, rfl⟩
        rcases i with _ | _ | i
        · cases hd
          walk_at "rd"
          exact .mk hal (by rw [line_val]; omega) ⟨rfl, rfl⟩
        · cases hd
          walk_at "rd"
          exact .mk hal (by rw [line_val]; omega) ⟨rfl, rfl⟩
        · simp at hd
      · rintro acc M' hal ⟨rfl, rfl⟩
        refine fin_d ?_
        walk_at "rd"
        exact k
    case set l e =>
      rw [St.d]
      walk_at "rd"
      intro a
      refine c_inv (fun i acc M' => acc = ([e.d] : List D).take i ∧ M' = M) ⟨rfl, rfl⟩ ?_ ?_
      · rintro i d acc M' hd hal ⟨rfl, rfl⟩
        rcases i with _ | i
        · cases hd
          walk_at "rd"
          exact .mk hal (by rw [line_val]; omega) ⟨rfl, rfl⟩
        · simp at hd
      · rintro acc M' hal ⟨rfl, rfl⟩
        refine fin_d ?_
        walk_at "rd"
        exact k
    case call l p e =>
      rw [St.d]
      walk_at "rd"
      intro a
      refine c_inv (fun i acc M' => acc = ([e.d] : List D).take i ∧ M' = M) ⟨rfl, rfl⟩ ?_ ?_
      · rintro i d acc M' hd hal ⟨rfl, rfl⟩
        rcases i with _ | i
        · cases hd
          walk_at "rd"
          exact .mk hal (by rw [line_val]; omega) ⟨rfl, rfl⟩
        · simp at hd
      · rintro acc M' hal ⟨rfl, rfl⟩
        refine fin_d ?_
        walk_at "rd"
        exact k
    case use l ii e =>
      rw [St.d]
      walk_at "rd"
      intro a
      refine c_inv (fun i acc M' => acc = ([e.d] : List D).take i ∧ M' = M) ⟨rfl, rfl⟩ ?_ ?_
      · rintro i d acc M' hd hal ⟨rfl, rfl⟩
        rcases i with _ | i
        · cases hd
          walk_at "rd"
          exact .mk hal (by rw [line_val]; omega) ⟨rfl, rfl⟩
        · simp at hd
      · rintro acc M' hal ⟨rfl, rfl⟩
        refine fin_d ?_
        walk_at "rd"
        exact k
    case ifs t xa xb =>
      rw [St.d]
      walk_at "rd"
      intro a
      refine c_inv (fun i acc M' => acc = ([t.d] : List D).take i ∧ M' = M) ⟨rfl, rfl⟩ ?_ ?_
      · rintro i d acc M' hd hal ⟨rfl, rfl⟩
        rcases i with _ | i
        · cases hd
          walk_at "rd"
          exact .mk hal (by rw [line_val]; omega) ⟨rfl, rfl⟩
        · simp at hd
      · rintro acc M' hal ⟨rfl, rfl⟩
        refine fin_d ?_
        walk_at "rd"
        exact k
    case wh t xa =>
      rw [St.d]
      walk_at "rd"
      intro a
      refine c_inv (fun i acc M' => acc = ([t.d] : List D).take i ∧ M' = M) ⟨rfl, rfl⟩ ?_ ?_
      · rintro i d acc M' hd hal ⟨rfl, rfl⟩
        rcases i with _ | i
        · cases hd
          walk_at "rd"
          exact .mk hal (by rw [line_val]; omega) ⟨rfl, rfl⟩
        · simp at hd
      · rintro acc M' hal ⟨rfl, rfl⟩
        refine fin_d ?_
        walk_at "rd"
        exact k
    case ret e =>
      rw [St.d]
      walk_at "rd"
      intro a
      refine c_inv (fun i acc M' => acc = ([e.d] : List D).take i ∧ M' = M) ⟨rfl, rfl⟩ ?_ ?_
      · rintro i d acc M' hd hal ⟨rfl, rfl⟩
        rcases i with _ | i
        · cases hd
          walk_at "rd"
          exact .mk hal (by rw [line_val]; omega) ⟨rfl, rfl⟩
        · simp at hd
      · rintro acc M' hal ⟨rfl, rfl⟩
        refine fin_d ?_
        walk_at "rd"
        exact k
theorem ok_statements_of (T : Top w.params K mg) (Z : Txt K mg C) : ∀ n, Cal P w K mg base CX0 n "statements_of" ["block"] (conSp K (sp_stof n))
  | 0 => def_none T.f_statements_of (fun _ _ _ _ _ _ us hl => match us, hl with | [_], _ => rfl) fun vs H Q E ⟨ds, M, F, B, BX, _, _, ⟨_, _, _, _, h, _⟩, _⟩ => by omega
  | n + 1 => by
    have IH := ok_statements_of T Z n
    refine def_A T.f_statements_of sc_statements_of (fun _ _ _ _ _ _ us hl => match us, hl with | [_], _ => rfl) (fun ds M Q E h => ?_) (fun f cdv Ar outer s0 H E ds M Q EX hr h => ?_)
    · obtain ⟨h, dp, xs, rfl, _⟩ := h
      rfl
    · obtain ⟨h, dp, bl, rfl, hdp, hok, hcn, k⟩ := h
      refine ⟨_, (as_cons (as_set (ps_set (i := 1) sc_statements_of.nd rfl (by first | exact Or.inl rfl | exact Or.inr rfl) (a_lstO aa_nil)))
  (as_cons (as_for (ps_for PassesOwn.never rfl (ai_of (g_it (K := K) (a_var (pv 0)))) (ag_name (pg_name (i := 2) sc_statements_of.nd rfl (by first | exact Or.inl rfl | exact Or.inr rfl)))
  (as_cons (as_drop (ps_expr (a_bm o_app (pe_bm PySem.F.plainAttrs_list PySem.F.slot_list_append PySem.F.type_list_append mt_append (a_var (pv 1)) (aa_cons (a_var (pv 2)) aa_nil)))))
    (as_one (as_for (ps_for PassesOwn.never rfl (ai_of (g_it (K := K) (a_kget (K := K) T.c_BLOCK_PLACES rfl (a_ix (o_ix (K := K)) (a_var (pv 2)) a_int (fun _ _ => rfl)) (a_tup aa_nil) ⟨rfl, by rfl, by decide, by rfl⟩))) (ag_name (pg_name (i := 3) sc_statements_of.nd rfl (by first | exact Or.inl rfl | exact Or.inr rfl)))
    (as_one (as_drop (ps_expr (a_bm o_ext (pe_bm PySem.F.plainAttrs_list PySem.F.slot_list_extend PySem.F.type_list_extend mt_extend (a_var (pv 1)) (aa_cons (a_call (g_call IH hr (by rfl) pass0 (aa_cons (a_ix (o_ix (K := K)) (a_var (pv 2)) (a_var (pv 3)) (fun _ _ => rfl)) aa_nil))) aa_nil))))))))))))
  (as_one (as_ret (ps_ret (a_var (pv 1))))))), ?_⟩
      rw [stsOk_iff] at hok
      rw [stsD_map]
      have hle : ∀ i, stsCnt (bl.take i) ≤ 100000 := fun i => by
        have := stsCnt_app (ys := bl.drop i) (bl.take i)
        rw [List.take_append_drop] at this
        omega
      walk_at "rd"
      intro R
      walk_at "rd"
      refine f_map bl (fun i xs M' => ∃ v2 v3, xs = [some (.tup (bl.map St.d)), some (.r R), v2, v3] ∧ M' = (R, .lst ((stsAll (bl.take i)).map St.d)) :: M) ⟨_, _, rfl, by simp [stsAll]⟩ ?_ ?_
      · rintro i x xs M hx ⟨v2, v3, rfl, rfl⟩
        have hxo := hok x (List.mem_of_getElem? hx)
        have e4 : stsAll (bl.take (i + 1)) = stsAll (bl.take i) ++ x.all := by rw [List.take_add_one, hx, Option.toList_some, stsAll_app, stsAll_one]
        have c4 : stsCnt (bl.take i) + x.cnt ≤ 100000 := by
          have := hle (i + 1)
          rw [List.take_add_one, hx, Option.toList_some, stsCnt_app] at this
          simp only [stsCnt] at this
          omega
        have z1 : ((stsAll (bl.take i)).map St.d).length < sizeLine := by rw [List.length_map, stsAll_len, line_val]; have := hle i; omega
        rw [e4]
        cases x
        case ifs t xa xb =>
          rw [St.ok] at hxo
          rw [St.cnt] at c4
          have zl := stsAll_len (bl.take i)
          have za := stsAll_len xa
          have zb := stsAll_len xb
          rw [St.d]
          walk_at "rd"
          rw [show (List.lookup ("if" : Str) _).getD (D.tup []) = .tup [.int 2, .int 3] from rfl]
          walk_at "rd"
          refine f_all (fun j xs M' => ∃ v3, xs = [some (.tup (bl.map St.d)), some (.r R), some (.tup [.str "if", t.d, .tup (stsD xa), .tup (stsD xb)]), v3] ∧
            M' = (R, .lst ((stsAll (bl.take i)).map St.d ++ [.tup [.str "if", t.d, .tup (stsD xa), .tup (stsD xb)]] ++ (([(stsAll xa).map St.d, (stsAll xb).map St.d] : List (List D)).take j).flatten)) :: M) ⟨_, rfl, by simp⟩ ?_ ?_
          · rintro j y xs M hy ⟨v3, rfl, rfl⟩
            rcases j with _ | _ | j
            · cases hy
              walk_at "rd"
              refine ⟨h, dp - 1, xa, rfl, by omega, hxo.2.2.1.2, by omega, ?_⟩
              refine .mk .hd (.inl rfl) (by simp only [List.length_append, List.length_map, List.length_cons, List.length_nil, List.take_zero, List.flatten_nil, line_val]; omega) ?_
              walk_at "rd"
              exact ⟨_, rfl, by simp⟩
            · cases hy
              walk_at "rd"
              refine ⟨h, dp - 1, xb, rfl, by omega, hxo.2.2.2.2, by omega, ?_⟩
              refine .mk .hd (.inl rfl) (by simp only [List.length_append, List.length_map, List.length_cons, List.length_nil, List.take_succ_cons, List.take_zero, List.flatten_cons, List.flatten_nil, line_val]; omega) ?_
              walk_at "rd"
              exact ⟨_, rfl, by simp⟩
            · simp at hy
          · rintro xs M ⟨v3, rfl, rfl⟩
            walk_at "rd"
            exact ⟨_, _, rfl, by simp [St.all, St.d]⟩
        case wh t xa =>
          rw [St.ok] at hxo
          rw [St.cnt] at c4
          have zl := stsAll_len (bl.take i)
          have za := stsAll_len xa
          rw [St.d]
          walk_at "rd"
          rw [show (List.lookup ("while" : Str) _).getD (D.tup []) = .tup [.int 2] from rfl]
          walk_at "rd"
          refine f_all (fun j xs M' => ∃ v3, xs = [some (.tup (bl.map St.d)), some (.r R), some (.tup [.str "while", t.d, .tup (stsD xa)]), v3] ∧
            M' = (R, .lst ((stsAll (bl.take i)).map St.d ++ [.tup [.str "while", t.d, .tup (stsD xa)]] ++ (([(stsAll xa).map St.d] : List (List D)).take j).flatten)) :: M) ⟨_, rfl, by simp⟩ ?_ ?_
          · rintro j y xs M hy ⟨v3, rfl, rfl⟩
            rcases j with _ | j
            · cases hy
              walk_at "rd"
              refine ⟨h, dp - 1, xa, rfl, by omega, hxo.2.2.2, by omega, ?_⟩
              refine .mk .hd (.inl rfl) (by simp only [List.length_append, List.length_map, List.length_cons, List.length_nil, List.take_zero, List.flatten_nil, line_val]; omega) ?_
              walk_at "rd"
              exact ⟨_, rfl, by simp⟩
            · simp at hy
          · rintro xs M ⟨v3, rfl, rfl⟩
            walk_at "rd"
            exact ⟨_, _, rfl, by simp [St.all, St.d]⟩
        case set l e =>
          rw [St.d]
          walk_at "rd"
          rw [show (List.lookup ("set" : Str) _).getD (D.tup []) = .tup [] from rfl]
          walk_at "rd"
          refine f_all (fun j xs M' => ∃ v2 v3, xs = [some (.tup (bl.map St.d)), some (.r R), v2, v3] ∧ M' = (R, .lst ((stsAll (bl.take i)).map St.d ++ [.tup [.str "set", natD l, e.d]])) :: M) ⟨_, _, rfl, rfl⟩ ?_ ?_
          · rintro j y xs M hy _
            simp at hy
          · rintro xs M ⟨v2, v3, rfl, rfl⟩
            walk_at "rd"
            exact ⟨_, _, rfl, by simp [St.all, St.d]⟩
        case put b ie e =>
          rw [St.d]
          walk_at "rd"
          rw [show (List.lookup ("put" : Str) _).getD (D.tup []) = .tup [] from rfl]
          walk_at "rd"
          refine f_all (fun j xs M' => ∃ v2 v3, xs = [some (.tup (bl.map St.d)), some (.r R), v2, v3] ∧ M' = (R, .lst ((stsAll (bl.take i)).map St.d ++ [.tup [.str "put", natD b, ie.d, e.d]])) :: M) ⟨_, _, rfl, rfl⟩ ?_ ?_
          · rintro j y xs M hy _
            simp at hy
          · rintro xs M ⟨v2, v3, rfl, rfl⟩
            walk_at "rd"
            exact ⟨_, _, rfl, by simp [St.all, St.d]⟩
        case call l p e =>
          rw [St.d]
          walk_at "rd"
          rw [show (List.lookup ("call" : Str) _).getD (D.tup []) = .tup [] from rfl]
          walk_at "rd"
          refine f_all (fun j xs M' => ∃ v2 v3, xs = [some (.tup (bl.map St.d)), some (.r R), v2, v3] ∧ M' = (R, .lst ((stsAll (bl.take i)).map St.d ++ [.tup [.str "call", natD l, natD p, e.d]])) :: M) ⟨_, _, rfl, rfl⟩ ?_ ?_
          · rintro j y xs M hy _
            simp at hy
          · rintro xs M ⟨v2, v3, rfl, rfl⟩
            walk_at "rd"
            exact ⟨_, _, rfl, by simp [St.all, St.d]⟩
        case use l ii e =>
          rw [St.d]
          walk_at "rd"
          rw [show (List.lookup ("use" : Str) _).getD (D.tup []) = .tup [] from rfl]
          walk_at "rd"
          refine f_all (fun j xs M' => ∃ v2 v3, xs = [some (.tup (bl.map St.d)), some (.r R), v2, v3] ∧ M' = (R, .lst ((stsAll (bl.take i)).map St.d ++ [.tup [.str "use", natD l, natD ii, e.d]])) :: M) ⟨_, _, rfl, rfl⟩ ?_ ?_
          · rintro j y xs M hy _
            simp at hy
          · rintro xs M ⟨v2, v3, rfl, rfl⟩
            walk_at "rd"
            exact ⟨_, _, rfl, by simp [St.all, St.d]⟩
        case ret e =>
          rw [St.d]
          walk_at "rd"
          rw [show (List.lookup ("return" : Str) _).getD (D.tup []) = .tup [] from rfl]
          walk_at "rd"
          refine f_all (fun j xs M' => ∃ v2 v3, xs = [some (.tup (bl.map St.d)), some (.r R), v2, v3] ∧ M' = (R, .lst ((stsAll (bl.take i)).map St.d ++ [.tup [.str "return", e.d]])) :: M) ⟨_, _, rfl, rfl⟩ ?_ ?_
          · rintro j y xs M hy _
            simp at hy
          · rintro xs M ⟨v2, v3, rfl, rfl⟩
            walk_at "rd"
            exact ⟨_, _, rfl, by simp [St.all, St.d]⟩
      · rintro xs M ⟨v2, v3, rfl, rfl⟩
        rw [List.take_length]
        walk_at "re"
        exact .fz (FzV.lst .hd) k
end



/-! ### the words that a compiler makes -/
structure GX where
  (chk : Bool) (room : Nat) (sizes bpl : List Nat) (ff halt leave : Nat)
def opN (z : Str) : Nat := if z = "+" then 3 else if z = "-" then 4 else if z = "*" then 5 else if z = "/" then 6 else if z = "mod" then 7 else if z = "<" then 8 else 9
def offL (tk l : Nat) : Nat := (65536 + 1 + l - tk) % 65536
def offC (tk : Nat) : Nat := (65536 - tk) % 65536
def chkW (x : GX) (r b : Nat) : List Nat := if x.chk = true then [1, 5, x.sizes.getD b 0, 0] ++ [8, 5, r, 5] ++ [13, 5, 0, x.halt] else []
def genE (x : GX) (tk : Nat) : Ex → Nat → List Nat
  | .num n, g => [1, min g 4, n, 0]
  | .loc n, g => [10, min g 4, 7, offL tk n]
  | .get b e, g => genE x tk e g ++ chkW x (min g 4) b ++ [10, min g 4, min g 4, x.bpl.getD b 0]
  | .op z a b, g => if g < 4 then genE x tk a g ++ genE x tk b (g + 1) ++ [opN z, g, g, g + 1]
    else genE x tk a g ++ [11, 4, 6, 1 + g - 4] ++ genE x tk b (g + 1) ++ [10, 5, 6, 1 + g - 4] ++ [opN z, 4, 5, 4]
def endW (tk : Nat) : List Nat := [10, 5, 7, offC tk] ++ [1, 1, tk, 0] ++ [4, 7, 7, 1] ++ [14, 5, 0, 0]
mutual
def genS (x : GX) (tk : Nat) : St → Nat → List Nat
  | .set l e, _ => genE x tk e 0 ++ [11, 0, 7, offL tk l]
  | .put b i e, _ => genE x tk i 0 ++ chkW x 0 b ++ genE x tk e 1 ++ [11, 1, 0, x.bpl.getD b 0]
  | .call l _ e, h => genE x tk e 0 ++ [1, 5, h + (genE x tk e 0).length + 8, 0] ++ [12, 0, 0, 0] ++ [11, 0, 7, offL tk l]
  | .use l i e, _ => genE x tk e 0 ++ [11, 7, 6, 0] ++ [15, 0, i, 0] ++ [10, 7, 6, 0] ++ [11, 0, 7, offL tk l]
  | .ifs t a b, h =>
    genE x tk t 0 ++ [13, 0, 0, h + (genE x tk t 0).length + 4 + (genB x tk a (h + (genE x tk t 0).length + 4)).length + 4] ++ genB x tk a (h + (genE x tk t 0).length + 4) ++
      [12, 0, 0, h + (genE x tk t 0).length + 4 + (genB x tk a (h + (genE x tk t 0).length + 4)).length + 4 + (genB x tk b (h + (genE x tk t 0).length + 4 + (genB x tk a (h + (genE x tk t 0).length + 4)).length + 4)).length] ++
      genB x tk b (h + (genE x tk t 0).length + 4 + (genB x tk a (h + (genE x tk t 0).length + 4)).length + 4)
  | .wh t a, h => genE x tk t 0 ++ [13, 0, 0, h + (genE x tk t 0).length + 4 + (genB x tk a (h + (genE x tk t 0).length + 4)).length + 4] ++ genB x tk a (h + (genE x tk t 0).length + 4) ++ [12, 0, 0, h]
  | .ret e, _ => genE x tk e 0 ++ endW tk
def genB (x : GX) (tk : Nat) : List St → Nat → List Nat
  | [], _ => []
  | s :: ss, h => genS x tk s h ++ genB x tk ss (h + (genS x tk s h).length)
end
mutual
/-- where calls of own procedures jump, and to which -/
def callS (x : GX) (tk : Nat) : St → Nat → List (Nat × Nat)
  | .set .., _ => []
  | .put .., _ => []
  | .call _ p e, h => [(h + (genE x tk e 0).length + 7, p)]
  | .use .., _ => []
  | .ifs t a b, h => callB x tk a (h + (genE x tk t 0).length + 4) ++ callB x tk b (h + (genE x tk t 0).length + 4 + (genB x tk a (h + (genE x tk t 0).length + 4)).length + 4)
  | .wh t a, h => callB x tk a (h + (genE x tk t 0).length + 4)
  | .ret _, _ => []
def callB (x : GX) (tk : Nat) : List St → Nat → List (Nat × Nat)
  | [], _ => []
  | s :: ss, h => callS x tk s h ++ callB x tk ss (h + (genS x tk s h).length)
end
theorem genB_app (x : GX) (tk : Nat) {ys : List St} : ∀ (xs : List St) (h : Nat), genB x tk (xs ++ ys) h = genB x tk xs h ++ genB x tk ys (h + (genB x tk xs h).length)
  | [], h => by simp [genB]
  | s :: ss, h => by
    rw [List.cons_append, genB, genB, genB_app x tk ss, List.append_assoc, List.length_append, Nat.add_assoc]
theorem callB_app (x : GX) (tk : Nat) {ys : List St} : ∀ (xs : List St) (h : Nat), callB x tk (xs ++ ys) h = callB x tk xs h ++ callB x tk ys (h + (genB x tk xs h).length)
  | [], h => by simp [genB, callB]
  | s :: ss, h => by
    rw [List.cons_append, callB, callB, callB_app x tk ss, List.append_assoc, genB, List.length_append, Nat.add_assoc]
theorem genB_one (x : GX) (tk : Nat) (s : St) (h : Nat) : genB x tk [s] h = genS x tk s h := by rw [genB, genB, List.append_nil]
theorem callB_one (x : GX) (tk : Nat) (s : St) (h : Nat) : callB x tk [s] h = callS x tk s h := by rw [callB, callB, List.append_nil]
mutual
theorem callS_len (x : GX) (tk : Nat) : ∀ (s : St) (h : Nat), (callS x tk s h).length ≤ (genS x tk s h).length
  | .set .., h => by rw [callS]; exact Nat.zero_le _
  | .put .., h => by rw [callS]; exact Nat.zero_le _
  | .call l p e, h => by rw [callS, genS]; simp only [List.length_append, List.length_cons, List.length_nil]; omega
  | .use .., h => by rw [callS]; exact Nat.zero_le _
  | .ifs t a b, h => by
    rw [callS, genS]
    have h1 := callB_len x tk a (h + (genE x tk t 0).length + 4)
    have h2 := callB_len x tk b (h + (genE x tk t 0).length + 4 + (genB x tk a (h + (genE x tk t 0).length + 4)).length + 4)
    simp only [List.length_append, List.length_cons, List.length_nil]
    omega
  | .wh t a, h => by
    rw [callS, genS]
    have h1 := callB_len x tk a (h + (genE x tk t 0).length + 4)
    simp only [List.length_append, List.length_cons, List.length_nil]
    omega
  | .ret _, h => by rw [callS]; exact Nat.zero_le _
theorem callB_len (x : GX) (tk : Nat) : ∀ (ss : List St) (h : Nat), (callB x tk ss h).length ≤ (genB x tk ss h).length
  | [], h => by rw [callB]; exact Nat.zero_le _
  | s :: ss, h => by
    rw [callB, genB, List.length_append, List.length_append]
    have h1 := callS_len x tk s h
    have h2 := callB_len x tk ss (h + (genS x tk s h).length)
    omega
end
/-! a procedure, a component -/
def begW (x : GX) (tk nl : Nat) : List Nat :=
  [1, 1, if tk ≤ x.room then x.ff + x.room - tk + 1 else 0, 0] ++ [8, 1, 7, 1] ++ [13, 1, 0, x.halt] ++ [1, 1, tk, 0] ++ [3, 7, 7, 1] ++ [11, 5, 7, offC tk] ++ [11, 0, 7, offL tk 0] ++
    ((List.range (nl - 1)).map fun i => [11, 6, 7, offL tk (1 + i)]).flatten
def expW (x : GX) : List Nat := [10, 7, 6, 0] ++ [1, 5, x.leave, 0]
/-- what is made so far -/
structure CS where
  (mem ents bpl : List Nat) (ff halt leave : Nat) (starts : List Nat) (calls : List (Nat × Nat)) (taken : Nat)
def CS.gx (c : Cm) (chk : Bool) (s : CS) : GX := ⟨chk, c.room, c.bufs.map List.length, s.bpl, s.ff, s.halt, s.leave⟩
/-- a procedure more -/
def procC (c : Cm) (chk : Bool) (s : CS) (p : Nat × List St) (ex : Bool) : CS :=
  let x := s.gx c chk
  let tk := p.1 + 2
  let e := if ex = true then expW x else []
  let h := s.mem.length + e.length
  let bg := begW x tk p.1
  { s with taken := tk, ents := if ex = true then s.ents ++ [s.mem.length] else s.ents, starts := s.starts ++ [h],
           mem := s.mem ++ e ++ bg ++ genB x tk p.2 (h + bg.length) ++ [1, 0, 0, 0] ++ endW tk, calls := s.calls ++ callB x tk p.2 (h + bg.length) }
def depL (c : Cm) : List Nat := 0 :: (c.procs.map fun p => ((stsAll p.2).map fun s => s.exps.map Ex.dep).flatten).flatten
def cellsN (c : Cm) : Nat := (depL c).foldl max 0
theorem fold_le : ∀ (l : List Nat) (a : Nat), a ≤ l.foldl max a ∧ ∀ y ∈ l, y ≤ l.foldl max a
  | [], a => ⟨Nat.le_refl _, fun y h => by cases h⟩
  | x :: l, a => by
    obtain ⟨h1, h2⟩ := fold_le l (max a x)
    refine ⟨Nat.le_trans (Nat.le_max_left _ _) h1, fun y hy => ?_⟩
    rcases List.mem_cons.mp hy with rfl | hy
    · exact Nat.le_trans (Nat.le_max_right _ _) h1
    · exact h2 y hy
theorem fold_ub : ∀ (l : List Nat) (a m : Nat), a ≤ m → (∀ y ∈ l, y ≤ m) → l.foldl max a ≤ m
  | [], a, m, h, _ => h
  | x :: l, a, m, h, hl => fold_ub l (max a x) m (Nat.max_le.mpr ⟨h, hl x List.mem_cons_self⟩) fun y hy => hl y (List.mem_cons_of_mem _ hy)
theorem fold_max {l : List Nat} {m : Nat} (h1 : m ∈ l) (h2 : ∀ y ∈ l, y ≤ m) : l.foldl max 0 = m := Nat.le_antisymm (fold_ub l 0 m (Nat.zero_le _) h2) ((fold_le l 0).2 m h1)
/-- the data: the cells, the buffers, the frames -/
def bplOf : Nat → List (List Nat) → List Nat
  | _, [] => []
  | n, b :: bs => n :: bplOf (n + b.length) bs
def dataC (c : Cm) : CS :=
  let n := 1 + cellsN c
  let m := List.replicate n 0 ++ c.bufs.flatten
  ⟨m.set 0 m.length ++ List.replicate c.room 0, [], bplOf n c.bufs, m.length, 0, 0, [], [], 0⟩
def exitC (s : CS) : CS := { s with mem := s.mem ++ [0, 0, 0, 0] ++ [11, 7, 6, 0] ++ [16, 0, 0, 0], halt := s.mem.length, leave := s.mem.length + 4 }
def procsC (c : Cm) (chk : Bool) (ex : Nat) : CS → List (Nat × List St) → Nat → CS
  | s, [], _ => s
  | s, p :: ps, i => procsC c chk ex (procC c chk s p (decide (i < ex))) ps (i + 1)
def linkC (s : CS) : List Nat := s.calls.foldl (fun m q => m.set q.1 (s.starts.getD q.2 0)) s.mem
def compS (c : Cm) (ex : Nat) (chk : Bool) : CS := procsC c chk ex (exitC (dataC c)) c.procs 0
def compC (c : Cm) (ex : Nat) (chk : Bool) : List Nat × List Nat := (linkC (compS c ex chk), (compS c ex chk).ents)

/-! ### the compiler in memory -/
structure CA where
  (P Mm En Bp St Ca : Addr)
abbrev caD (q : Nat × Nat) : D := .tup [natD q.1, natD q.2]
abbrev ccF (C : Cs) (c : Cm) (chk : Bool) (A : CA) (s : CS) : List (Str × D) := [("component", Cm.d C c), ("checked", .bl chk), ("memory", .r A.Mm), ("entries", .r A.En), ("buffer_places", .r A.Bp), ("first_frame", natD s.ff), ("halt_place", natD s.halt), ("leave_place", natD s.leave), ("starts", .r A.St), ("calls", .r A.Ca), ("taken", natD s.taken)]
abbrev ccM (C : Cs) (c : Cm) (chk : Bool) (A : CA) (s : CS) (M0 : Mem) : Mem := (A.Mm, .lst (s.mem.map natD)) :: (A.Ca, .lst (s.calls.map caD)) :: (A.St, .lst (s.starts.map natD)) :: (A.Bp, .lst (s.bpl.map natD)) :: (A.En, .lst (s.ents.map natD)) :: (A.P, .ins C.Compiler (ccF C c chk A s)) :: M0
abbrev CS.add (s : CS) (w : List Nat) : CS := { s with mem := s.mem ++ w }
theorem add_add {s : CS} {a b : List Nat} : (s.add a).add b = s.add (a ++ b) := by unfold CS.add; rw [List.append_assoc]
def sp_opn : ASp := fun ds M Q _ => ∃ z : Str, ds = [.str z] ∧ z ∈ opsL ∧ Q (natD (opN z)) M
def sp_depth (d : Nat) : ASp := fun ds M Q _ => ∃ (h : Sh) (e : Ex), ds = [e.d] ∧ e.okd h d ∧ Q (natD e.dep) M
def sp_cells (C : Cs) : ASp := fun ds M Q _ => ∃ (c : Cm) (n ex ni : Nat), ds = [Cm.d C c] ∧ n ≤ 6 ∧ c.ok n ex ni ∧ (∀ q ∈ c.procs, stsCnt q.2 ≤ 20000) ∧ Q (natD (cellsN c)) M
def sp_room_of : ASp := fun ds M Q _ => ∃ (n : Nat) (x : D), ds = [.tup [natD n, x]] ∧ Q (natD (n + 2)) M
def sp_c_here (C : Cs) : ASp := fun ds M Q _ => ∃ (c : Cm) (chk : Bool) (A : CA) (s : CS) (M0 : Mem), ds = [.r A.P] ∧ M = ccM C c chk A s M0 ∧ Q (natD s.mem.length) M
def sp_c_emit (C : Cs) : ASp := fun ds M Q _ => ∃ (c : Cm) (chk : Bool) (A : CA) (s : CS) (M0 : Mem) (n a b d : Nat), ds = [.r A.P, natD n, natD a, natD b, natD d] ∧ M = ccM C c chk A s M0 ∧ s.mem.length ≤ 900000 ∧ Q (natD (s.mem.length + 3)) (ccM C c chk A (s.add [n, a, b, d]) M0)
def sp_c_coff (C : Cs) : ASp := fun ds M Q _ => ∃ (c : Cm) (chk : Bool) (A : CA) (s : CS) (M0 : Mem), ds = [.r A.P] ∧ M = ccM C c chk A s M0 ∧ s.taken ≤ 60000 ∧ Q (natD (offC s.taken)) M
def sp_c_loff (C : Cs) : ASp := fun ds M Q _ => ∃ (c : Cm) (chk : Bool) (A : CA) (s : CS) (M0 : Mem) (l : Nat), ds = [.r A.P, natD l] ∧ M = ccM C c chk A s M0 ∧ s.taken ≤ 60000 ∧ Q (natD (offL s.taken l)) M
def sp_c_check (C : Cs) : ASp := fun ds M Q _ => ∃ (c : Cm) (chk : Bool) (A : CA) (s : CS) (M0 : Mem) (r b : Nat), ds = [.r A.P, natD r, natD b] ∧ M = ccM C c chk A s M0 ∧ b < c.bufs.length ∧ s.mem.length + (chkW (s.gx c chk) r b).length ≤ 900000 ∧ Q .non (ccM C c chk A (s.add (chkW (s.gx c chk) r b)) M0)
structure CPre (c : Cm) (s : CS) : Prop where
  bp : s.bpl.length = c.bufs.length
  tk : s.taken ≤ 60000
theorem CPre.add {c : Cm} {s : CS} {w : List Nat} (h : CPre c s) : CPre c (s.add w) := ⟨h.bp, h.tk⟩
def sp_c_value (C : Cs) (d : Nat) : ASp := fun ds M Q _ => ∃ (c : Cm) (chk : Bool) (A : CA) (s : CS) (M0 : Mem) (h : Sh) (e : Ex) (g : Nat), ds = [.r A.P, e.d, natD g] ∧ M = ccM C c chk A s M0 ∧ e.okd h d ∧ h.nb = c.bufs.length ∧ CPre c s ∧ s.mem.length + (genE (s.gx c chk) s.taken e g).length ≤ 900000 ∧
  Q .non (ccM C c chk A (s.add (genE (s.gx c chk) s.taken e g)) M0)
theorem Ex.dep_map (e : Ex) : (∀ (m : Int), m ∈ e.parts.map (fun x => (x.dep : Int)) → (∀ y ∈ e.parts.map (fun x => (x.dep : Int)), y ≤ m) → 1 + m = (e.dep : Int)) ∧ (e.parts.map (fun x => (x.dep : Int)) = [] → e.dep = 1) := by
  cases e with
  | num n => exact ⟨fun m h => by simp [Ex.parts] at h, fun _ => rfl⟩
  | loc n => exact ⟨fun m h => by simp [Ex.parts] at h, fun _ => rfl⟩
  | get b e =>
    refine ⟨fun m h _ => ?_, fun h => by simp [Ex.parts] at h⟩
    simp only [Ex.parts, List.map_cons, List.map_nil, List.mem_singleton] at h
    simp only [Ex.dep]
    omega
  | op z a b =>
    refine ⟨fun m h h2 => ?_, fun h => by simp [Ex.parts] at h⟩
    simp only [Ex.parts, List.map_cons, List.map_nil, List.mem_cons, List.not_mem_nil, or_false] at h h2
    have h3 := h2 _ (.inl rfl)
    have h4 := h2 _ (.inr rfl)
    simp only [Ex.dep]
    omega
section
variable {P : Program} {w : World} {K : PySem.W.Frag} {mg : Str → Option Value} {base : Heap} {C : Cs}
theorem ok_room_of (T : Top w.params K mg) : Cal P w K mg base CX0 1 "room_of" ["procedure"] (conSp K sp_room_of) := by
  refine def_A T.f_room_of sc_room_of (fun _ _ _ _ _ _ us hl => match us, hl with | [_], _ => rfl) (fun ds M Q E h => ?_) (fun f cdv Ar outer s0 H E ds M Q EX hr h => ?_)
  · obtain ⟨n, x, rfl, _⟩ := h
    rfl
  · obtain ⟨n, x, rfl, k⟩ := h
    refine ⟨_, (as_one (as_ret (ps_ret (a_op (o_add (K := K)) (a_ix (o_ix (K := K)) (a_var (pv 0)) a_int (fun _ _ => rfl)) (a_c (g_cint T.c_FRAME_EXTRA rfl) (fun _ => .int _)))))), ?_⟩
    walk_at "rd"
    exact k
theorem ok_operator_number (T : Top w.params K mg) (Z : Txt K mg C) : Cal P w K mg base CX0 1 "operator_number" ["sign"] (conSp K sp_opn) := by
  refine def_A T.f_operator_number sc_operator_number (fun _ _ _ _ _ _ us hl => match us, hl with | [_], _ => rfl) (fun ds M Q E h => ?_) (fun f cdv Ar outer s0 H E ds M Q EX hr h => ?_)
  · obtain ⟨z, rfl, _⟩ := h
    rfl
  · obtain ⟨z, rfl, hz, k⟩ := h
    refine ⟨_, (as_one (as_ret (ps_ret (a_op (o_add (K := K)) (a_c (g_cint T.c_FIRST_OPERATOR rfl) (fun _ => .int _)) (a_tix (K := K) T.i_OPERATORS rfl (fun ho hb => pe_bm PySem.F.plainAttrs_tuple PySem.F.slot_tuple_index PySem.F.type_tuple_index mt_tup_index ho (aa_cons (a_var (pv 0)) aa_nil) hb)))))), ?_⟩
    walk_at "rd"
    simp only [opsL, List.mem_cons, List.not_mem_nil, or_false] at hz
    rcases hz with rfl | rfl | rfl | rfl | rfl | rfl | rfl
    · exact ⟨_, 0, rfl, rfl, fun m hm => by omega, by walk_at "rd"; exact k⟩
    · exact ⟨_, 1, rfl, rfl, fun m hm => by have : m = 0 := by omega
                                            subst this; decide, by walk_at "rd"; exact k⟩
    · exact ⟨_, 2, rfl, rfl, fun m hm => by rcases (show m = 0 ∨ m = 1 by omega) with rfl | rfl <;> decide, by walk_at "rd"; exact k⟩
    · exact ⟨_, 3, rfl, rfl, fun m hm => by rcases (show m = 0 ∨ m = 1 ∨ m = 2 by omega) with rfl | rfl | rfl <;> decide, by walk_at "rd"; exact k⟩
    · exact ⟨_, 4, rfl, rfl, fun m hm => by rcases (show m = 0 ∨ m = 1 ∨ m = 2 ∨ m = 3 by omega) with rfl | rfl | rfl | rfl <;> decide, by walk_at "rd"; exact k⟩
    · exact ⟨_, 5, rfl, rfl, fun m hm => by rcases (show m = 0 ∨ m = 1 ∨ m = 2 ∨ m = 3 ∨ m = 4 by omega) with rfl | rfl | rfl | rfl | rfl <;> decide, by walk_at "rd"; exact k⟩
    · exact ⟨_, 6, rfl, rfl, fun m hm => by rcases (show m = 0 ∨ m = 1 ∨ m = 2 ∨ m = 3 ∨ m = 4 ∨ m = 5 by omega) with rfl | rfl | rfl | rfl | rfl | rfl <;> decide, by walk_at "rd"; exact k⟩
theorem ok_depth_of (T : Top w.params K mg) : ∀ d, Cal P w K mg base CX0 (d + 1) "depth_of" ["expression"] (conSp K (sp_depth d))
  | 0 => def_A (k := 0) T.f_depth_of sc_depth_of (fun _ _ _ _ _ _ us hl => match us, hl with | [_], _ => rfl) (fun ds M Q E h => by obtain ⟨_, e, _, h, _⟩ := h; have := h.2; have := e.dep_pos; omega) (fun f cdv Ar outer s H E ds M Q EX hr h => by obtain ⟨_, e, _, h, _⟩ := h; have := h.2; have := e.dep_pos; omega)
  | d + 1 => by
    have IH := ok_depth_of T d
    refine def_A (k := d + 1) T.f_depth_of sc_depth_of (fun _ _ _ _ _ _ us hl => match us, hl with | [_], _ => rfl) (fun ds M Q E h => ?_) (fun f cdv Ar outer s H E ds M Q EX hr h => ?_)
    · obtain ⟨h, e, rfl, _⟩ := h
      rfl
    · obtain ⟨h, e, rfl, hk, k⟩ := h
      refine ⟨_, (as_one (as_ret (ps_ret (a_op (o_add (K := K)) a_int (a_maxDf (K := K) (pe_callBK (cr_maxDf rfl) (by rfl) T.b_max (by decide +kernel) (aa_cons (a_lc finD_ok (pe_lc (own := [("part", 1)]) rfl sc_depth_of.nd (ai_of (g_it (K := K) (a_call (g_call (ok_parts_of T) (hr.mono (by omega)) (by rfl) pass0 (aa_cons (a_var (pv 0)) aa_nil))))) (blkOk_by (own := [("part", 1)]) (N := ["expression", "part"]) (sc := defScope s_depth_of) (by decide +kernel)) (fun _ _ _ _ _ => (ag_name (pg_name (i := 1) sc_depth_of.nd rfl (Or.inl rfl)))) (fun _ _ _ _ _ => ats_nil) (fun _ _ _ _ _ => (a_call (g_call IH (hr.mono (by omega)) (by rfl) pass0 (aa_cons (a_var (pv 1)) aa_nil)))))) aa_nil) (pk_cons a_int pk_nil))))))), ?_⟩
      have hpl : e.parts.length ≤ 2 := by cases e <;> simp [Ex.parts]
      have hpk : ∀ x ∈ e.parts, x.okd h d := by
        cases e with
        | num n => simp [Ex.parts]
        | loc n => simp [Ex.parts]
        | get b e =>
          intro x hx
          rw [List.mem_singleton.mp hx]
          have := hk.2
          simp only [Ex.dep] at this
          exact ⟨hk.1.2, by omega⟩
        | op z a b =>
          intro x hx
          have := hk.2
          simp only [Ex.dep] at this
          simp only [Ex.parts, List.mem_cons, List.not_mem_nil, or_false] at hx
          rcases hx with rfl | rfl
          · exact ⟨hk.1.2.1, by omega⟩
          · exact ⟨hk.1.2.2, by omega⟩
      obtain ⟨d1, d2⟩ := e.dep_map
      walk_at "rd"
      refine ⟨h, e, rfl, hk.1, ?_⟩
      walk_at "rd"
      intro a
      refine c_map e.parts (fun x => natD x.dep) (by rw [line_val]; omega) ?_ (fin_d ?_)
      · intro i x acc hp ha
        walk_at "rd"
        refine ⟨h, x, rfl, hpk x (List.mem_of_getElem? hp), ?_⟩
        walk_at "rd"
        exact .put (by rw [line_val]; omega) ha hp rfl
      · walk_at "rd"
        refine ⟨_, e.parts.map (fun x => (x.dep : Int)), 0, rfl, rfl, by rw [List.map_map]; exact .d, fun e0 => ?_, fun m h1 h2 => ?_⟩
        · walk_at "rd"
          have := d2 e0
          unfold natD at k
          rw [this] at k
          exact k
        · walk_at "rd"
          rw [d1 m h1 h2]
          exact k
theorem ok_cells_needed (T : Top w.params K mg) (Z : Txt K mg C) : Cal P w K mg base CX0 9 "cells_needed" ["component"] (conSp K (sp_cells C)) := by
  refine def_A T.f_cells_needed sc_cells_needed (fun _ _ _ _ _ _ us hl => match us, hl with | [_], _ => rfl) (fun ds M Q E h => ?_) (fun f cdv Ar outer s0 H E ds M Q EX hr h => ?_)
  · obtain ⟨c, n, ex, ni, rfl, _⟩ := h
    rfl
  · obtain ⟨c, n, ex, ni, rfl, hn, ok, hcn, k⟩ := h
    refine ⟨_, (as_cons (as_set (ps_set (i := 1) sc_cells_needed.nd rfl (by first | exact Or.inl rfl | exact Or.inr rfl) (a_lstO (aa_cons a_int aa_nil))))
  (as_cons (as_for (ps_for PassesOwn.never rfl (ai_of (g_it (K := K) (a_fld (K := K) (a_var (pv 0))))) (ag_tup (K := K) (n := 2) rfl (ags_cons (ag_name (pg_name (i := 2) sc_cells_needed.nd rfl (by first | exact Or.inl rfl | exact Or.inr rfl))) (ags_cons (ag_name (pg_name (i := 3) sc_cells_needed.nd rfl (by first | exact Or.inl rfl | exact Or.inr rfl))) ags_nil)))
  (as_one (as_for (ps_for PassesOwn.never rfl (ai_of (g_it (K := K) (a_call (g_call (ok_statements_of T Z 7) (hr.mono (by decide)) (by rfl) pass0 (aa_cons (a_var (pv 3)) aa_nil))))) (ag_name (pg_name (i := 4) sc_cells_needed.nd rfl (by first | exact Or.inl rfl | exact Or.inr rfl)))
    (as_one (as_drop (ps_expr (a_bm o_ext (pe_bm PySem.F.plainAttrs_list PySem.F.slot_list_extend PySem.F.type_list_extend mt_extend (a_var (pv 1)) (aa_cons (a_lc finD_ok (pe_lc (own := [("expression", 5)]) rfl sc_cells_needed.nd (ai_of (g_it (K := K) (a_call (g_call (ok_expressions_of T) (hr.mono (by decide)) (by rfl) pass0 (aa_cons (a_var (pv 4)) aa_nil))))) (blkOk_by (own := [("expression", 5)]) (N := ["component", "depths", "_", "block", "statement", "expression"]) (sc := defScope s_cells_needed) (by decide +kernel)) (fun _ _ _ _ _ => (ag_name (pg_name (i := 5) sc_cells_needed.nd rfl (Or.inl rfl)))) (fun _ _ _ _ _ => ats_nil) (fun _ _ _ _ _ => (a_call (g_call (ok_depth_of T 4) (hr.mono (by decide)) (by rfl) pass0 (aa_cons (a_var (pv 5)) aa_nil)))))) aa_nil)))))))))))
  (as_one (as_ret (ps_ret (a_callB (o_maxL rfl (K := K)) (by rfl) T.b_max (by decide +kernel) (aa_cons (a_var (pv 1)) aa_nil))))))), ?_⟩
    have hc := Z.k_Component.cl
    have n3 := Z.a_Component_procedures
    have hnp := ok.np
    have szP : ∀ i, i ≤ c.procs.length → ((c.procs.take i).map fun p => ((stsAll p.2).map fun s => s.exps.map Ex.dep).flatten).flatten.length ≤ 40000 * i := by
      have one : ∀ l : List St, ((l.map fun s => s.exps.map Ex.dep).flatten).length ≤ 2 * l.length := by
        intro l
        induction l with
        | nil => simp
        | cons x l ih =>
          have : x.exps.length ≤ 2 := by cases x <;> simp [St.exps]
          simp only [List.map_cons, List.flatten_cons, List.length_append, List.length_map, List.length_cons]
          omega
      intro i
      induction i with
      | zero => simp
      | succ i ih =>
        intro hi
        have hp : c.procs[i]? = some (c.procs[i]'(by omega)) := List.getElem?_eq_getElem _
        have h1 := one (stsAll (c.procs[i]'(by omega)).2)
        rw [stsAll_len] at h1
        have h2 := hcn _ (List.mem_of_getElem? hp)
        have h3 := ih (by omega)
        rw [List.take_add_one, hp, Option.toList_some, List.map_append, List.flatten_append, List.length_append, List.map_singleton, List.flatten_singleton]
        omega
    walk_at "rd"
    intro R
    walk_at "rd"
    refine f_map c.procs (fun i xs M' => ∃ v2 v3 v4, xs = [some (Cm.d C c), some (.r R), v2, v3, v4, none] ∧ M' = (R, .lst ((0 :: ((c.procs.take i).map fun p => ((stsAll p.2).map fun s => s.exps.map Ex.dep).flatten).flatten).map natD)) :: M) ⟨_, _, _, rfl, rfl⟩ ?_ ?_
    · rintro i p xs M hp ⟨v2, v3, v4, rfl, rfl⟩
      have hil := (List.getElem?_eq_some_iff.mp hp).1
      have hpk := ok.proc p (List.mem_of_getElem? hp)
      have hao := stsAll_ok p.2 n hpk.2.2
      have hz := szP i (by omega)
      have hcl := hcn p (List.mem_of_getElem? hp)
      have e4 : (0 :: ((c.procs.take (i + 1)).map fun p => ((stsAll p.2).map fun s => s.exps.map Ex.dep).flatten).flatten) = (0 :: ((c.procs.take i).map fun p => ((stsAll p.2).map fun s => s.exps.map Ex.dep).flatten).flatten) ++ ((stsAll p.2).map fun s => s.exps.map Ex.dep).flatten := by
        rw [List.take_add_one, hp, Option.toList_some, List.map_append, List.flatten_append, List.map_singleton, List.flatten_singleton, List.cons_append]
      rw [e4]
      have hz0 : (0 :: ((c.procs.take i).map fun p => ((stsAll p.2).map fun s => s.exps.map Ex.dep).flatten).flatten).length ≤ 360001 := by rw [List.length_cons]; omega
      generalize (0 :: ((c.procs.take i).map fun p => ((stsAll p.2).map fun s => s.exps.map Ex.dep).flatten).flatten) = L at hz0 ⊢
      walk_at "rd"
      refine ⟨_, n, p.2, by rw [stsD_map], by omega, hpk.2.2, by omega, ?_⟩
      walk_at "rd"
      refine f_map (stsAll p.2) (fun j xs M' => ∃ v2 v3 v4, xs = [some (Cm.d C c), some (.r R), v2, v3, v4, none] ∧ M' = (R, .lst ((L ++ (((stsAll p.2).take j).map fun s => s.exps.map Ex.dep).flatten).map natD)) :: M ∧ (((stsAll p.2).take j).map fun s => s.exps.map Ex.dep).flatten.length ≤ 2 * j) ⟨_, _, _, rfl, by simp, by simp⟩ ?_ ?_
      · rintro j x xs M hx ⟨v2, v3, v4, rfl, rfl, hjl⟩
        have hjj := (List.getElem?_eq_some_iff.mp hx).1
        rw [stsAll_len] at hjj
        have hxe := St.exps_ok (hao x (List.mem_of_getElem? hx))
        have hxl : x.exps.length ≤ 2 := by cases x <;> simp [St.exps]
        walk_at "rd"
        refine ⟨x, rfl, ?_⟩
        walk_at "rd"
        intro a
        refine c_map x.exps (fun e => natD e.dep) (by rw [line_val]; omega) ?_ (fin_d ?_)
        · intro i e acc hp ha
          walk_at "rd"
          refine ⟨_, e, rfl, hxe e (List.mem_of_getElem? hp), ?_⟩
          walk_at "rd"
          exact .put (by rw [line_val]; omega) ha hp rfl
        · refine .mk .hd (.inl rfl) (by simp only [List.length_map, List.length_append, line_val]; omega) ?_
          walk_at "rd"
          refine ⟨_, _, _, rfl, ?_, ?_⟩
          · rw [List.take_add_one, hx]
            simp
          · rw [List.take_add_one, hx]
            simp only [Option.toList_some, List.map_append, List.flatten_append, List.map_singleton, List.flatten_singleton, List.length_append, List.length_map]
            omega
      · rintro xs M ⟨v2, v3, v4, rfl, rfl, hjl⟩
        rw [List.take_length]
        walk_at "rd"
        exact ⟨_, _, _, rfl, rfl⟩
    · rintro xs M ⟨v2, v3, v4, rfl, rfl⟩
      rw [List.take_length]
      walk_at "re"
      refine aMaxL.mk (ns := (depL c).map fun n : Nat => (n : Int)) (by rw [List.map_map]; exact .o .hd) (by simp [depL]) fun m h1 h2 => ?_
      obtain ⟨a, ha, rfl⟩ := List.mem_map.mp h1
      have e : cellsN c = a := fold_max ha fun y hy => by have := h2 (y : Int) (List.mem_map_of_mem hy); omega
      rw [e] at k
      exact .fz (FzV.drop .hd) k
theorem ok_Compiler_here (T : Top w.params K mg) (Z : Txt K mg C) : MCal P w K mg base CX0 1 C.Compiler "here" ["self"] (conSp K (sp_c_here C)) := by
  refine met_A Z.m_Compiler_here sc_Compiler_here (fun _ _ _ _ _ _ us hl => match us, hl with | [_], _ => rfl) (fun ds M Q E h => ?_) (fun f cdv Ar outer s0 H E ds M Q EX hr h => ?_)
  · obtain ⟨c, chk, A, s, M0, rfl, _⟩ := h
    rfl
  · obtain ⟨c, chk, A, s, M0, rfl, rfl, k⟩ := h
    refine ⟨_, (as_one (as_ret (ps_ret (a_callB (o_len (K := K)) (by rfl) T.b_len PySem.boot_len (aa_cons (a_fld (K := K) (a_var (pv 0))) aa_nil))))), ?_⟩
    have hc := Z.k_Compiler.cl
    have n1 := Z.a_Compiler_memory
    walk_at "rd"
    rw [List.length_map]
    exact k
theorem ok_Compiler_emit (T : Top w.params K mg) (Z : Txt K mg C) : MCal P w K mg base CX0 1 C.Compiler "emit" ["self", "number", "first", "second", "third"] (conSp K (sp_c_emit C)) := by
  refine met_A Z.m_Compiler_emit sc_Compiler_emit (fun _ _ _ _ _ _ us hl => match us, hl with | [_, _, _, _, _], _ => rfl) (fun ds M Q E h => ?_) (fun f cdv Ar outer s0 H E ds M Q EX hr h => ?_)
  · obtain ⟨c, chk, A, s, M0, n, a, b, d, rfl, _⟩ := h
    rfl
  · obtain ⟨c, chk, A, s, M0, n, a, b, d, rfl, rfl, hl, k⟩ := h
    refine ⟨_, (as_cons (as_drop (ps_expr (a_bm o_ext (pe_bm PySem.F.plainAttrs_list PySem.F.slot_list_extend PySem.F.type_list_extend mt_extend (a_fld (K := K) (a_var (pv 0))) (aa_cons (a_lst (aa_cons (a_var (pv 1)) (aa_cons (a_var (pv 2)) (aa_cons (a_var (pv 3)) (aa_cons (a_var (pv 4)) aa_nil))))) aa_nil)))))
  (as_one (as_ret (ps_ret (a_op o_sub (a_callB (o_len (K := K)) (by rfl) T.b_len PySem.boot_len (aa_cons (a_fld (K := K) (a_var (pv 0))) aa_nil)) a_int))))), ?_⟩
    have hc := Z.k_Compiler.cl
    have n1 := Z.a_Compiler_memory
    walk_at "rd"
    refine .mk .hd (.inl rfl) (by rw [List.length_map, line_val]; show s.mem.length + 4 ≤ _; omega) ?_
    walk_at "rd"
    rw [show s.mem.map natD ++ [natD n, natD a, natD b, natD d] = (s.mem ++ [n, a, b, d]).map natD by rw [List.map_append]; rfl]
    rw [show (((s.mem ++ [n, a, b, d]).map natD).length : Int) - 1 = ((s.mem.length + 3 : Nat) : Int) by rw [List.length_map, List.length_append]; show ((s.mem.length + 4 : Nat) : Int) - 1 = _; omega]
    exact k
theorem ok_Compiler_caller_offset (T : Top w.params K mg) (Z : Txt K mg C) : MCal P w K mg base CX0 1 C.Compiler "caller_offset" ["self"] (conSp K (sp_c_coff C)) := by
  refine met_A Z.m_Compiler_caller_offset sc_Compiler_caller_offset (fun _ _ _ _ _ _ us hl => match us, hl with | [_], _ => rfl) (fun ds M Q E h => ?_) (fun f cdv Ar outer s0 H E ds M Q EX hr h => ?_)
  · obtain ⟨c, chk, A, s, M0, rfl, _⟩ := h
    rfl
  · obtain ⟨c, chk, A, s, M0, rfl, rfl, ht, k⟩ := h
    refine ⟨_, (as_one (as_ret (ps_ret (a_op o_mod (a_op o_sub a_int (a_fld (K := K) (a_var (pv 0)))) (a_c (g_cint T.c_WORD_COUNT rfl) (fun _ => .int _)))))), ?_⟩
    have hc := Z.k_Compiler.cl
    have n1 := Z.a_Compiler_taken
    walk_at "rd"
    rw [show ((0 : Int) - (s.taken : Int)) % 65536 = ((offC s.taken : Nat) : Int) by unfold offC; omega]
    exact k
theorem ok_Compiler_local_offset (T : Top w.params K mg) (Z : Txt K mg C) : MCal P w K mg base CX0 1 C.Compiler "local_offset" ["self", "local"] (conSp K (sp_c_loff C)) := by
  refine met_A Z.m_Compiler_local_offset sc_Compiler_local_offset (fun _ _ _ _ _ _ us hl => match us, hl with | [_, _], _ => rfl) (fun ds M Q E h => ?_) (fun f cdv Ar outer s0 H E ds M Q EX hr h => ?_)
  · obtain ⟨c, chk, A, s, M0, l, rfl, _⟩ := h
    rfl
  · obtain ⟨c, chk, A, s, M0, l, rfl, rfl, ht, k⟩ := h
    refine ⟨_, (as_one (as_ret (ps_ret (a_op o_mod (a_op o_sub (a_op (o_add (K := K)) a_int (a_var (pv 1))) (a_fld (K := K) (a_var (pv 0)))) (a_c (g_cint T.c_WORD_COUNT rfl) (fun _ => .int _)))))), ?_⟩
    have hc := Z.k_Compiler.cl
    have n1 := Z.a_Compiler_taken
    walk_at "rd"
    rw [show ((1 : Int) + (l : Int) - (s.taken : Int)) % 65536 = ((offL s.taken l : Nat) : Int) by unfold offL; omega]
    exact k
theorem ok_Compiler_add_check (T : Top w.params K mg) (Z : Txt K mg C) : MCal P w K mg base CX0 2 C.Compiler "add_check" ["self", "index", "buffer"] (conSp K (sp_c_check C)) := by
  refine met_A Z.m_Compiler_add_check sc_Compiler_add_check (fun _ _ _ _ _ _ us hl => match us, hl with | [_, _, _], _ => rfl) (fun ds M Q E h => ?_) (fun f cdv Ar outer s0 H E ds M Q EX hr h => ?_)
  · obtain ⟨c, chk, A, s, M0, r, b, rfl, _⟩ := h
    rfl
  · obtain ⟨c, chk, A, s, M0, r, b, rfl, rfl, hb, hl, k⟩ := h
    refine ⟨_, (as_one (as_if (a_truth (K := K) (a_fld (K := K) (a_var (pv 0))) (by intro _; rfl))
  (as_cons (as_drop (ps_expr (a_meth (g_meth (ok_Compiler_emit T Z) Z.k_Compiler.cl (hr.mono (by decide)) pass0 (a_var (pv 0)) (aa_cons (a_c (g_cint T.c_CONST rfl) (fun _ => .int _)) (aa_cons (a_c (g_cint T.c_SPARE rfl) (fun _ => .int _)) (aa_cons (a_callB (o_len (K := K)) (by rfl) T.b_len PySem.boot_len (aa_cons (a_ix (o_ix (K := K)) (a_fld (K := K) (a_fld (K := K) (a_var (pv 0)))) (a_var (pv 2)) (fun _ _ => rfl)) aa_nil)) (aa_cons a_int aa_nil))))))))
    (as_cons (as_drop (ps_expr (a_meth (g_meth (ok_Compiler_emit T Z) Z.k_Compiler.cl (hr.mono (by decide)) pass0 (a_var (pv 0)) (aa_cons (a_call (g_call (ok_operator_number T Z) (hr.mono (by decide)) (by rfl) pass0 (aa_cons a_str aa_nil))) (aa_cons (a_c (g_cint T.c_SPARE rfl) (fun _ => .int _)) (aa_cons (a_var (pv 1)) (aa_cons (a_c (g_cint T.c_SPARE rfl) (fun _ => .int _)) aa_nil))))))))
    (as_one (as_drop (ps_expr (a_meth (g_meth (ok_Compiler_emit T Z) Z.k_Compiler.cl (hr.mono (by decide)) pass0 (a_var (pv 0)) (aa_cons (a_c (g_cint T.c_JUMPZERO rfl) (fun _ => .int _)) (aa_cons (a_c (g_cint T.c_SPARE rfl) (fun _ => .int _)) (aa_cons a_int (aa_cons (a_fld (K := K) (a_var (pv 0))) aa_nil)))))))))))
  as_nil)), ?_⟩
    have hc := Z.k_Compiler.cl
    have hc2 := Z.k_Component.cl
    have n1 := Z.a_Compiler_checked
    have n2 := Z.a_Compiler_component
    have n3 := Z.a_Component_buffers
    have n4 := Z.a_Compiler_halt_place
    have ab := buf_at hb
    unfold chkW at k hl
    cases chk with
    | false =>
      rw [if_neg (show ¬ (CS.gx c false s).chk = true from Bool.false_ne_true)] at k
      unfold CS.add at k
      rw [List.append_nil] at k
      walk_at "rd"
      exact k
    | true =>
      rw [if_pos (show (CS.gx c true s).chk = true from rfl), ← add_add, ← add_add] at k
      rw [if_pos (show (CS.gx c true s).chk = true from rfl)] at hl
      have hl : s.mem.length + 12 ≤ 900000 := hl
      have hbl : (c.bufs.map List.length).getD b 0 = (c.bufs.getD b []).length := by
        rw [List.getD_eq_getElem?_getD, List.getD_eq_getElem?_getD, List.getElem?_map, List.getElem?_eq_getElem hb]; rfl
      rw [show (CS.gx c true s).sizes.getD b 0 = (c.bufs.getD b []).length from hbl] at k
      generalize hq : (c.bufs.getD b []).length = q at k
      walk_at "rd"
      rw [List.length_map, hq]
      refine ⟨c, true, A, s, M0, 1, 5, q, 0, rfl, rfl, by omega, ?_⟩
      walk_at "rd"
      refine ⟨_, rfl, by decide, ?_⟩
      walk_at "rd"
      refine ⟨c, true, A, s.add [1, 5, q, 0], M0, 8, 5, r, 5, rfl, rfl, by show (s.mem ++ [_, _, _, _]).length ≤ _; rw [List.length_append]; show s.mem.length + 4 ≤ _; omega, ?_⟩
      walk_at "rd"
      refine ⟨c, true, A, (s.add [1, 5, q, 0]).add [8, 5, r, 5], M0, 13, 5, 0, s.halt, rfl, rfl, by show (s.mem ++ _ ++ _).length ≤ _; rw [List.length_append, List.length_append]; show s.mem.length + 4 + 4 ≤ _; omega, ?_⟩
      walk_at "rd"
      exact k
end



/-! ### values -/
section
variable {P : Program} {w : World} {K : PySem.W.Frag} {mg : Str → Option Value} {base : Heap} {C : Cs}
theorem ok_Compiler_add_value (T : Top w.params K mg) (Z : Txt K mg C) : ∀ d, MCal P w K mg base CX0 (d + 3) C.Compiler "add_value" ["self", "expression", "goal"] (conSp K (sp_c_value C d))
  | 0 => met_A (k := 2) Z.m_Compiler_add_value sc_Compiler_add_value (fun _ _ _ _ _ _ us hl => match us, hl with | [_, _, _], _ => rfl) (fun ds M Q E h => by obtain ⟨_, _, _, _, _, _, e, _, _, _, h, _⟩ := h; have := h.2; have := e.dep_pos; omega) (fun f cdv Ar outer s0 H E ds M Q EX hr h => by obtain ⟨_, _, _, _, _, _, e, _, _, _, h, _⟩ := h; have := h.2; have := e.dep_pos; omega)
  | d + 1 => by
    have IH := ok_Compiler_add_value T Z d
    refine met_A (k := d + 3) Z.m_Compiler_add_value sc_Compiler_add_value (fun _ _ _ _ _ _ us hl => match us, hl with | [_, _, _], _ => rfl) (fun ds M Q E h => ?_) (fun f cdv Ar outer s0 H E ds M Q EX hr h => ?_)
    · obtain ⟨c, chk, A, s, M0, h, e, g, rfl, _⟩ := h
      rfl
    · obtain ⟨c, chk, A, s, M0, h, e, g, rfl, rfl, hk, hnb, pre, hl, k⟩ := h
      refine ⟨_, (as_cons (as_set (ps_set (i := 3) sc_Compiler_add_value.nd rfl (by first | exact Or.inl rfl | exact Or.inr rfl) (a_ix (o_ix (K := K)) (a_var (pv 1)) a_int (fun _ _ => rfl))))
  (as_cons (as_set (ps_set (i := 4) sc_Compiler_add_value.nd rfl (by first | exact Or.inl rfl | exact Or.inr rfl) (a_callB (o_min rfl) (by rfl) T.b_min (by decide +kernel) (aa_cons (a_var (pv 2)) (aa_cons (a_c (g_cint T.c_LAST_VALUE rfl) (fun _ => .int _)) aa_nil)))))
  (as_one (as_if (a_tcmp (o_eq (K := K) (un64 hr)) (a_var (pv 3)) a_str (nomark _))
  (as_one (as_drop (ps_expr (a_meth (g_meth (ok_Compiler_emit T Z) Z.k_Compiler.cl (hr.mono (by omega)) pass0 (a_var (pv 0)) (aa_cons (a_c (g_cint T.c_CONST rfl) (fun _ => .int _)) (aa_cons (a_var (pv 4)) (aa_cons (a_ix (o_ix (K := K)) (a_var (pv 1)) a_int (fun _ _ => rfl)) (aa_cons a_int aa_nil)))))))))
  (as_one (as_if (a_tcmp (o_eq (K := K) (un64 hr)) (a_var (pv 3)) a_str (nomark _))
    (as_one (as_drop (ps_expr (a_meth (g_meth (ok_Compiler_emit T Z) Z.k_Compiler.cl (hr.mono (by omega)) pass0 (a_var (pv 0)) (aa_cons (a_c (g_cint T.c_LOAD rfl) (fun _ => .int _)) (aa_cons (a_var (pv 4)) (aa_cons (a_c (g_cint T.c_TOP rfl) (fun _ => .int _)) (aa_cons (a_meth (g_meth (ok_Compiler_local_offset T Z) Z.k_Compiler.cl (hr.mono (by omega)) pass0 (a_var (pv 0)) (aa_cons (a_ix (o_ix (K := K)) (a_var (pv 1)) a_int (fun _ _ => rfl)) aa_nil))) aa_nil)))))))))
    (as_one (as_if (a_tcmp (o_eq (K := K) (un64 hr)) (a_var (pv 3)) a_str (nomark _))
      (as_cons (as_drop (ps_expr (a_meth (g_meth IH Z.k_Compiler.cl (hr.mono (by omega)) pass0 (a_var (pv 0)) (aa_cons (a_ix (o_ix (K := K)) (a_var (pv 1)) a_int (fun _ _ => rfl)) (aa_cons (a_var (pv 2)) aa_nil))))))
        (as_cons (as_drop (ps_expr (a_meth (g_meth (ok_Compiler_add_check T Z) Z.k_Compiler.cl (hr.mono (by omega)) pass0 (a_var (pv 0)) (aa_cons (a_var (pv 4)) (aa_cons (a_ix (o_ix (K := K)) (a_var (pv 1)) a_int (fun _ _ => rfl)) aa_nil))))))
        (as_one (as_drop (ps_expr (a_meth (g_meth (ok_Compiler_emit T Z) Z.k_Compiler.cl (hr.mono (by omega)) pass0 (a_var (pv 0)) (aa_cons (a_c (g_cint T.c_LOAD rfl) (fun _ => .int _)) (aa_cons (a_var (pv 4)) (aa_cons (a_var (pv 4)) (aa_cons (a_ix (o_ix (K := K)) (a_fld (K := K) (a_var (pv 0))) (a_ix (o_ix (K := K)) (a_var (pv 1)) a_int (fun _ _ => rfl)) (fun _ _ => rfl)) aa_nil)))))))))))
      (as_one (as_if (a_tcmp o_lt (a_var (pv 2)) (a_c (g_cint T.c_LAST_VALUE rfl) (fun _ => .int _)) (nomark _))
        (as_cons (as_drop (ps_expr (a_meth (g_meth IH Z.k_Compiler.cl (hr.mono (by omega)) pass0 (a_var (pv 0)) (aa_cons (a_ix (o_ix (K := K)) (a_var (pv 1)) a_int (fun _ _ => rfl)) (aa_cons (a_var (pv 2)) aa_nil))))))
          (as_cons (as_drop (ps_expr (a_meth (g_meth IH Z.k_Compiler.cl (hr.mono (by omega)) pass0 (a_var (pv 0)) (aa_cons (a_ix (o_ix (K := K)) (a_var (pv 1)) a_int (fun _ _ => rfl)) (aa_cons (a_op (o_add (K := K)) (a_var (pv 2)) a_int) aa_nil))))))
          (as_one (as_drop (ps_expr (a_meth (g_meth (ok_Compiler_emit T Z) Z.k_Compiler.cl (hr.mono (by omega)) pass0 (a_var (pv 0)) (aa_cons (a_call (g_call (ok_operator_number T Z) (hr.mono (by omega)) (by rfl) pass0 (aa_cons (a_var (pv 3)) aa_nil))) (aa_cons (a_var (pv 2)) (aa_cons (a_var (pv 2)) (aa_cons (a_op (o_add (K := K)) (a_var (pv 2)) a_int) aa_nil)))))))))))
        (as_cons (as_set (ps_set (i := 5) sc_Compiler_add_value.nd rfl (by first | exact Or.inl rfl | exact Or.inr rfl) (a_op o_sub (a_op (o_add (K := K)) (a_op (o_add (K := K)) (a_c (g_cint T.c_TOP_CELL rfl) (fun _ => .int _)) a_int) (a_var (pv 2))) (a_c (g_cint T.c_LAST_VALUE rfl) (fun _ => .int _)))))
          (as_cons (as_drop (ps_expr (a_meth (g_meth IH Z.k_Compiler.cl (hr.mono (by omega)) pass0 (a_var (pv 0)) (aa_cons (a_ix (o_ix (K := K)) (a_var (pv 1)) a_int (fun _ _ => rfl)) (aa_cons (a_var (pv 2)) aa_nil))))))
          (as_cons (as_drop (ps_expr (a_meth (g_meth (ok_Compiler_emit T Z) Z.k_Compiler.cl (hr.mono (by omega)) pass0 (a_var (pv 0)) (aa_cons (a_c (g_cint T.c_STORE rfl) (fun _ => .int _)) (aa_cons (a_c (g_cint T.c_LAST_VALUE rfl) (fun _ => .int _)) (aa_cons (a_c (g_cint T.c_ZERO rfl) (fun _ => .int _)) (aa_cons (a_var (pv 5)) aa_nil))))))))
          (as_cons (as_drop (ps_expr (a_meth (g_meth IH Z.k_Compiler.cl (hr.mono (by omega)) pass0 (a_var (pv 0)) (aa_cons (a_ix (o_ix (K := K)) (a_var (pv 1)) a_int (fun _ _ => rfl)) (aa_cons (a_op (o_add (K := K)) (a_var (pv 2)) a_int) aa_nil))))))
          (as_cons (as_drop (ps_expr (a_meth (g_meth (ok_Compiler_emit T Z) Z.k_Compiler.cl (hr.mono (by omega)) pass0 (a_var (pv 0)) (aa_cons (a_c (g_cint T.c_LOAD rfl) (fun _ => .int _)) (aa_cons (a_c (g_cint T.c_SPARE rfl) (fun _ => .int _)) (aa_cons (a_c (g_cint T.c_ZERO rfl) (fun _ => .int _)) (aa_cons (a_var (pv 5)) aa_nil))))))))
          (as_one (as_drop (ps_expr (a_meth (g_meth (ok_Compiler_emit T Z) Z.k_Compiler.cl (hr.mono (by omega)) pass0 (a_var (pv 0)) (aa_cons (a_call (g_call (ok_operator_number T Z) (hr.mono (by omega)) (by rfl) pass0 (aa_cons (a_var (pv 3)) aa_nil))) (aa_cons (a_c (g_cint T.c_LAST_VALUE rfl) (fun _ => .int _)) (aa_cons (a_c (g_cint T.c_SPARE rfl) (fun _ => .int _)) (aa_cons (a_c (g_cint T.c_LAST_VALUE rfl) (fun _ => .int _)) aa_nil)))))))))))))))))))))))), ?_⟩
      have hc := Z.k_Compiler.cl
      have n1 := Z.a_Compiler_buffer_places
      have hv : (if (4 : Int) < (g : Int) then (4 : Int) else (g : Int)) = ((min g 4 : Nat) : Int) := by split <;> omega
      have hd := hk.2
      cases e with
      | num n =>
        rw [Ex.d]
        rw [genE] at hl k
        have hl : s.mem.length + 4 ≤ 900000 := hl
        walk_at "rd"
        rw [hv]
        exact ⟨c, chk, A, s, M0, 1, min g 4, n, 0, rfl, rfl, by omega, k⟩
      | loc n =>
        rw [Ex.d]
        rw [genE] at hl k
        have hl : s.mem.length + 4 ≤ 900000 := hl
        walk_at "rd"
        rw [hv]
        refine ⟨c, chk, A, s, M0, n, rfl, rfl, pre.tk, ?_⟩
        walk_at "rd"
        exact ⟨c, chk, A, s, M0, 10, min g 4, 7, _, rfl, rfl, by omega, k⟩
      | get b e =>
        have hb : b < c.bufs.length := by rw [← hnb]; exact hk.1.1
        have ab : atI (s.bpl.map natD) (b : Int) = some (natD (s.bpl.getD b 0)) := at_map (by rw [List.getD_eq_getElem?_getD, List.getElem?_eq_getElem (by rw [pre.bp]; exact hb)]; rfl)
        simp only [Ex.dep] at hd
        rw [Ex.d]
        rw [genE, List.length_append, List.length_append] at hl
        rw [genE, ← add_add, ← add_add] at k
        have hl : s.mem.length + ((genE (s.gx c chk) s.taken e g).length + (chkW (s.gx c chk) (min g 4) b).length + 4) ≤ 900000 := hl
        walk_at "rd"
        rw [hv]
        refine ⟨c, chk, A, s, M0, h, e, g, rfl, rfl, ⟨hk.1.2, by omega⟩, hnb, pre, by omega, ?_⟩
        walk_at "rd"
        refine ⟨c, chk, A, s.add (genE (s.gx c chk) s.taken e g), M0, min g 4, b, rfl, rfl, hb, ?_, ?_⟩
        · show (s.mem ++ genE _ _ _ _).length + (chkW (s.gx c chk) (min g 4) b).length ≤ _
          rw [List.length_append]; omega
        walk_at "rd"
        refine ⟨c, chk, A, (s.add (genE (s.gx c chk) s.taken e g)).add (chkW (s.gx c chk) (min g 4) b), M0, 10, min g 4, min g 4, s.bpl.getD b 0, rfl, rfl, ?_, k⟩
        show (s.mem ++ genE _ _ _ _ ++ chkW _ _ _).length ≤ _
        rw [List.length_append, List.length_append]; omega
      | op z a b =>
        obtain ⟨m1, m2, m3⟩ := ops_no hk.1.1
        simp only [Ex.dep] at hd
        rw [Ex.d]
        by_cases hg : g < 4
        · rw [genE, if_pos hg, List.length_append, List.length_append] at hl
          rw [genE, if_pos hg, ← add_add, ← add_add] at k
          have hl : s.mem.length + ((genE (s.gx c chk) s.taken a g).length + (genE (s.gx c chk) s.taken b (g + 1)).length + 4) ≤ 900000 := hl
          walk_at "rd"
          refine ⟨c, chk, A, s, M0, h, a, g, rfl, rfl, ⟨hk.1.2.1, by omega⟩, hnb, pre, by omega, ?_⟩
          walk_at "rd"
          refine ⟨c, chk, A, s.add (genE (s.gx c chk) s.taken a g), M0, h, b, g + 1, by simp, rfl, ⟨hk.1.2.2, by omega⟩, hnb, pre.add, ?_, ?_⟩
          · show (s.mem ++ genE _ _ _ _).length + (genE (s.gx c chk) s.taken b (g + 1)).length ≤ _
            rw [List.length_append]; omega
          walk_at "rd"
          refine ⟨z, rfl, hk.1.1, ?_⟩
          walk_at "rd"
          refine ⟨c, chk, A, (s.add (genE (s.gx c chk) s.taken a g)).add (genE (s.gx c chk) s.taken b (g + 1)), M0, opN z, g, g, g + 1, by simp, rfl, ?_, k⟩
          show (s.mem ++ genE _ _ _ _ ++ genE _ _ _ _).length ≤ _
          rw [List.length_append, List.length_append]; omega
        · rw [genE, if_neg hg, List.length_append, List.length_append, List.length_append, List.length_append] at hl
          rw [genE, if_neg hg, ← add_add, ← add_add, ← add_add, ← add_add] at k
          have hl : s.mem.length + ((genE (s.gx c chk) s.taken a g).length + 4 + (genE (s.gx c chk) s.taken b (g + 1)).length + 4 + 4) ≤ 900000 := hl
          have hcell : (0 : Int) + 1 + (g : Int) - 4 = ((1 + g - 4 : Nat) : Int) := by omega
          walk_at "rd"
          rw [hcell]
          refine ⟨c, chk, A, s, M0, h, a, g, rfl, rfl, ⟨hk.1.2.1, by omega⟩, hnb, pre, by omega, ?_⟩
          walk_at "rd"
          refine ⟨c, chk, A, s.add (genE (s.gx c chk) s.taken a g), M0, 11, 4, 6, 1 + g - 4, rfl, rfl, ?_, ?_⟩
          · show (s.mem ++ genE _ _ _ _).length ≤ _
            rw [List.length_append]; omega
          walk_at "rd"
          refine ⟨c, chk, A, (s.add (genE (s.gx c chk) s.taken a g)).add [11, 4, 6, 1 + g - 4], M0, h, b, g + 1, by simp, rfl, ⟨hk.1.2.2, by omega⟩, hnb, pre.add.add, ?_, ?_⟩
          · show (s.mem ++ genE _ _ _ _ ++ [_, _, _, _]).length + (genE (s.gx c chk) s.taken b (g + 1)).length ≤ _
            rw [List.length_append, List.length_append]; show _ + 4 + _ ≤ _; omega
          walk_at "rd"
          refine ⟨c, chk, A, ((s.add (genE (s.gx c chk) s.taken a g)).add [11, 4, 6, 1 + g - 4]).add (genE (s.gx c chk) s.taken b (g + 1)), M0, 10, 5, 6, 1 + g - 4, rfl, rfl, ?_, ?_⟩
          · show (s.mem ++ genE _ _ _ _ ++ [_, _, _, _] ++ genE _ _ _ _).length ≤ _
            rw [List.length_append, List.length_append, List.length_append]; show _ + 4 + _ ≤ _; omega
          walk_at "rd"
          refine ⟨z, rfl, hk.1.1, ?_⟩
          walk_at "rd"
          refine ⟨c, chk, A, (((s.add (genE (s.gx c chk) s.taken a g)).add [11, 4, 6, 1 + g - 4]).add (genE (s.gx c chk) s.taken b (g + 1))).add [10, 5, 6, 1 + g - 4], M0, opN z, 4, 5, 4, rfl, rfl, ?_, k⟩
          show (s.mem ++ genE _ _ _ _ ++ [_, _, _, _] ++ genE _ _ _ _ ++ [_, _, _, _]).length ≤ _
          rw [List.length_append, List.length_append, List.length_append, List.length_append]; show _ + 4 + _ + 4 ≤ _; omega
end



/-! ### statements -/
abbrev CS.ext (s : CS) (w : List Nat) (cl : List (Nat × Nat)) : CS := { s with mem := s.mem ++ w, calls := s.calls ++ cl }
theorem add_len {s : CS} {w : List Nat} : (s.add w).mem.length = s.mem.length + w.length := List.length_append
theorem ext_len {s : CS} {w : List Nat} {cl : List (Nat × Nat)} : (s.ext w cl).mem.length = s.mem.length + w.length := List.length_append
theorem ext_add {s : CS} {w w' : List Nat} {cl : List (Nat × Nat)} : (s.add w).ext w' cl = s.ext (w ++ w') cl := by unfold CS.add CS.ext; rw [List.append_assoc]
theorem add_ext {s : CS} {w w' : List Nat} {cl : List (Nat × Nat)} : (s.ext w cl).add w' = s.ext (w ++ w') cl := by unfold CS.add CS.ext; rw [List.append_assoc]
theorem ext_ext {s : CS} {w w' : List Nat} {cl cl' : List (Nat × Nat)} : (s.ext w cl).ext w' cl' = s.ext (w ++ w') (cl ++ cl') := by unfold CS.ext; rw [List.append_assoc, List.append_assoc]
theorem ext_nil {s : CS} {w : List Nat} : s.ext w [] = s.add w := by unfold CS.ext CS.add; rw [List.append_nil]
theorem CPre.ext {c : Cm} {s : CS} {w : List Nat} {cl : List (Nat × Nat)} (h : CPre c s) : CPre c (s.ext w cl) := ⟨h.bp, h.tk⟩
theorem ixN_ltG {n c : Nat} (h : c < n) : ixN n (c : Int) = some c := by
  unfold ixN
  simp
  omega
theorem set_mid {P S : List Nat} {a b c d v : Nat} : (P ++ [a, b, c, d] ++ S).set (P.length + 3) v = P ++ [a, b, c, v] ++ S := by
  rw [List.append_assoc, List.append_assoc, List.set_append_right _ _ (by omega), Nat.add_sub_cancel_left]
  rfl
def sp_c_end (C : Cs) : ASp := fun ds M Q _ => ∃ (c : Cm) (chk : Bool) (A : CA) (s : CS) (M0 : Mem), ds = [.r A.P] ∧ M = ccM C c chk A s M0 ∧ s.taken ≤ 60000 ∧ s.mem.length + 16 ≤ 900000 ∧ Q .non (ccM C c chk A (s.add (endW s.taken)) M0)
/-- a statement's words come behind -/
def CSt (C : Cs) (n : Nat) (p : St → Prop) : ASp := fun ds M Q _ => ∃ (c : Cm) (chk : Bool) (A : CA) (s : CS) (M0 : Mem) (h : Sh) (x : St) (hh : Nat), ds = [.r A.P, x.d] ∧ M = ccM C c chk A s M0 ∧ p x ∧ x.ok h n ∧ h.nb = c.bufs.length ∧ CPre c s ∧ s.calls.length ≤ s.mem.length ∧ hh = s.mem.length ∧ hh + (genS (s.gx c chk) s.taken x hh).length ≤ 900000 ∧
  Q .non (ccM C c chk A (s.ext (genS (s.gx c chk) s.taken x hh) (callS (s.gx c chk) s.taken x hh)) M0)
def sp_c_stmt (C : Cs) (n : Nat) : ASp := CSt C n fun _ => True
def sp_c_put (C : Cs) (n : Nat) : ASp := CSt C n fun x => ∃ b i e, x = .put b i e
def sp_c_call (C : Cs) (n : Nat) : ASp := CSt C n fun x => ∃ l p e, x = .call l p e
def sp_c_use (C : Cs) (n : Nat) : ASp := CSt C n fun x => ∃ l i e, x = .use l i e
def sp_c_if (C : Cs) (n : Nat) : ASp := CSt C n fun x => ∃ t a b, x = .ifs t a b
def sp_c_wh (C : Cs) (n : Nat) : ASp := CSt C n fun x => ∃ t a, x = .wh t a
def sp_c_block (C : Cs) (n : Nat) : ASp := fun ds M Q _ => ∃ (c : Cm) (chk : Bool) (A : CA) (s : CS) (M0 : Mem) (h : Sh) (xs : List St) (hh : Nat), ds = [.r A.P, .tup (stsD xs)] ∧ M = ccM C c chk A s M0 ∧ stsOk h xs n ∧ h.nb = c.bufs.length ∧ CPre c s ∧ s.calls.length ≤ s.mem.length ∧ hh = s.mem.length ∧ hh + (genB (s.gx c chk) s.taken xs hh).length ≤ 900000 ∧
  Q .non (ccM C c chk A (s.ext (genB (s.gx c chk) s.taken xs hh) (callB (s.gx c chk) s.taken xs hh)) M0)
section
variable {P : Program} {w : World} {K : PySem.W.Frag} {mg : Str → Option Value} {base : Heap} {C : Cs}
theorem ok_Compiler_add_ending (T : Top w.params K mg) (Z : Txt K mg C) : MCal P w K mg base CX0 2 C.Compiler "add_ending" ["self"] (conSp K (sp_c_end C)) := by
  refine met_A Z.m_Compiler_add_ending sc_Compiler_add_ending (fun _ _ _ _ _ _ us hl => match us, hl with | [_], _ => rfl) (fun ds M Q E h => ?_) (fun f cdv Ar outer s0 H E ds M Q EX hr h => ?_)
  · obtain ⟨c, chk, A, s, M0, rfl, _⟩ := h
    rfl
  · obtain ⟨c, chk, A, s, M0, rfl, rfl, ht, hl, k⟩ := h
    refine ⟨_, (as_cons (as_drop (ps_expr (a_meth (g_meth (ok_Compiler_emit T Z) Z.k_Compiler.cl (hr.mono (by decide)) pass0 (a_var (pv 0)) (aa_cons (a_c (g_cint T.c_LOAD rfl) (fun _ => .int _)) (aa_cons (a_c (g_cint T.c_SPARE rfl) (fun _ => .int _)) (aa_cons (a_c (g_cint T.c_TOP rfl) (fun _ => .int _)) (aa_cons (a_meth0 (g_meth0 (ok_Compiler_caller_offset T Z) Z.k_Compiler.cl (hr.mono (by decide)) pass0 (a_var (pv 0)))) aa_nil))))))))
  (as_cons (as_drop (ps_expr (a_meth (g_meth (ok_Compiler_emit T Z) Z.k_Compiler.cl (hr.mono (by decide)) pass0 (a_var (pv 0)) (aa_cons (a_c (g_cint T.c_CONST rfl) (fun _ => .int _)) (aa_cons a_int (aa_cons (a_fld (K := K) (a_var (pv 0))) (aa_cons a_int aa_nil))))))))
  (as_cons (as_drop (ps_expr (a_meth (g_meth (ok_Compiler_emit T Z) Z.k_Compiler.cl (hr.mono (by decide)) pass0 (a_var (pv 0)) (aa_cons (a_call (g_call (ok_operator_number T Z) (hr.mono (by decide)) (by rfl) pass0 (aa_cons a_str aa_nil))) (aa_cons (a_c (g_cint T.c_TOP rfl) (fun _ => .int _)) (aa_cons (a_c (g_cint T.c_TOP rfl) (fun _ => .int _)) (aa_cons a_int aa_nil))))))))
  (as_one (as_drop (ps_expr (a_meth (g_meth (ok_Compiler_emit T Z) Z.k_Compiler.cl (hr.mono (by decide)) pass0 (a_var (pv 0)) (aa_cons (a_c (g_cint T.c_JUMPTO rfl) (fun _ => .int _)) (aa_cons (a_c (g_cint T.c_SPARE rfl) (fun _ => .int _)) (aa_cons a_int (aa_cons a_int aa_nil)))))))))))), ?_⟩
    have hc := Z.k_Compiler.cl
    have n1 := Z.a_Compiler_taken
    unfold endW at k
    rw [← add_add, ← add_add, ← add_add] at k
    walk_at "rd"
    refine ⟨c, chk, A, s, M0, rfl, rfl, ht, ?_⟩
    walk_at "rd"
    refine ⟨c, chk, A, s, M0, 10, 5, 7, _, rfl, rfl, by omega, ?_⟩
    walk_at "rd"
    refine ⟨c, chk, A, s.add [10, 5, 7, offC s.taken], M0, 1, 1, s.taken, 0, rfl, rfl, by rw [add_len]; show _ + 4 ≤ _; omega, ?_⟩
    walk_at "rd"
    refine ⟨_, rfl, by decide, ?_⟩
    walk_at "rd"
    refine ⟨c, chk, A, (s.add [10, 5, 7, offC s.taken]).add [1, 1, s.taken, 0], M0, 4, 7, 7, 1, rfl, rfl, by rw [add_len, add_len]; show _ + 4 + 4 ≤ _; omega, ?_⟩
    walk_at "rd"
    exact ⟨c, chk, A, ((s.add [10, 5, 7, offC s.taken]).add [1, 1, s.taken, 0]).add [4, 7, 7, 1], M0, 14, 5, 0, 0, rfl, rfl, by rw [add_len, add_len, add_len]; show _ + 4 + 4 + 4 ≤ _; omega, k⟩
theorem bpl_at {c : Cm} {s : CS} {b : Nat} (pre : CPre c s) (hb : b < c.bufs.length) : atI (s.bpl.map natD) (b : Int) = some (natD (s.bpl.getD b 0)) := at_map (by rw [List.getD_eq_getElem?_getD, List.getElem?_eq_getElem (by rw [pre.bp]; exact hb)]; rfl)
theorem ok_Compiler_add_put (T : Top w.params K mg) (Z : Txt K mg C) (n : Nat) : MCal P w K mg base CX0 8 C.Compiler "add_put" ["self", "statement"] (conSp K (sp_c_put C n)) := by
  refine met_A Z.m_Compiler_add_put sc_Compiler_add_put (fun _ _ _ _ _ _ us hl => match us, hl with | [_, _], _ => rfl) (fun ds M Q E h => ?_) (fun f cdv Ar outer s0 H E ds M Q EX hr h => ?_)
  · obtain ⟨c, chk, A, s, M0, h, x, hh, rfl, _⟩ := h
    rfl
  · obtain ⟨c, chk, A, s, M0, h, x, hh, rfl, rfl, ⟨b, i, e, rfl⟩, ok, hnb, pre, hcl, rfl, hl, k⟩ := h
    refine ⟨_, (as_cons (as_set (ps_set (i := 2) sc_Compiler_add_put.nd rfl (by first | exact Or.inl rfl | exact Or.inr rfl) (a_ix (o_ix (K := K)) (a_var (pv 1)) a_int (fun _ _ => rfl))))
  (as_cons (as_drop (ps_expr (a_meth (g_meth (ok_Compiler_add_value T Z 4) Z.k_Compiler.cl (hr.mono (by decide)) pass0 (a_var (pv 0)) (aa_cons (a_ix (o_ix (K := K)) (a_var (pv 1)) a_int (fun _ _ => rfl)) (aa_cons a_int aa_nil))))))
  (as_cons (as_drop (ps_expr (a_meth (g_meth (ok_Compiler_add_check T Z) Z.k_Compiler.cl (hr.mono (by decide)) pass0 (a_var (pv 0)) (aa_cons a_int (aa_cons (a_var (pv 2)) aa_nil))))))
  (as_cons (as_drop (ps_expr (a_meth (g_meth (ok_Compiler_add_value T Z 4) Z.k_Compiler.cl (hr.mono (by decide)) pass0 (a_var (pv 0)) (aa_cons (a_ix (o_ix (K := K)) (a_var (pv 1)) a_int (fun _ _ => rfl)) (aa_cons a_int aa_nil))))))
  (as_one (as_drop (ps_expr (a_meth (g_meth (ok_Compiler_emit T Z) Z.k_Compiler.cl (hr.mono (by decide)) pass0 (a_var (pv 0)) (aa_cons (a_c (g_cint T.c_STORE rfl) (fun _ => .int _)) (aa_cons a_int (aa_cons a_int (aa_cons (a_ix (o_ix (K := K)) (a_fld (K := K) (a_var (pv 0))) (a_var (pv 2)) (fun _ _ => rfl)) aa_nil))))))))))))), ?_⟩
    have hc := Z.k_Compiler.cl
    have n1 := Z.a_Compiler_buffer_places
    have hb : b < c.bufs.length := by rw [← hnb]; exact ok.1
    have ab := bpl_at pre hb
    rw [genS, List.length_append, List.length_append, List.length_append] at hl
    have hl : s.mem.length + ((genE (s.gx c chk) s.taken i 0).length + (chkW (s.gx c chk) 0 b).length + (genE (s.gx c chk) s.taken e 1).length + 4) ≤ 900000 := hl
    rw [genS, callS, ext_nil, ← add_add, ← add_add, ← add_add] at k
    rw [St.d]
    walk_at "rd"
    refine ⟨c, chk, A, s, M0, h, i, 0, rfl, rfl, ok.2.1, hnb, pre, by omega, ?_⟩
    walk_at "rd"
    refine ⟨c, chk, A, s.add (genE (s.gx c chk) s.taken i 0), M0, 0, b, rfl, rfl, hb, by rw [add_len]; show _ + _ + (chkW (s.gx c chk) 0 b).length ≤ _; omega, ?_⟩
    walk_at "rd"
    refine ⟨c, chk, A, (s.add (genE (s.gx c chk) s.taken i 0)).add (chkW (s.gx c chk) 0 b), M0, h, e, 1, rfl, rfl, ok.2.2, hnb, pre.add.add, by rw [add_len, add_len]; show _ + _ + _ + (genE (s.gx c chk) s.taken e 1).length ≤ _; omega, ?_⟩
    walk_at "rd"
    exact ⟨c, chk, A, ((s.add (genE (s.gx c chk) s.taken i 0)).add (chkW (s.gx c chk) 0 b)).add (genE (s.gx c chk) s.taken e 1), M0, 11, 1, 0, _, rfl, rfl, by rw [add_len, add_len, add_len]; omega, k⟩
theorem ok_Compiler_add_call (T : Top w.params K mg) (Z : Txt K mg C) (n : Nat) : MCal P w K mg base CX0 8 C.Compiler "add_call" ["self", "statement"] (conSp K (sp_c_call C n)) := by
  refine met_A Z.m_Compiler_add_call sc_Compiler_add_call (fun _ _ _ _ _ _ us hl => match us, hl with | [_, _], _ => rfl) (fun ds M Q E h => ?_) (fun f cdv Ar outer s0 H E ds M Q EX hr h => ?_)
  · obtain ⟨c, chk, A, s, M0, h, x, hh, rfl, _⟩ := h
    rfl
  · obtain ⟨c, chk, A, s, M0, h, x, hh, rfl, rfl, ⟨l, p, e, rfl⟩, ok, hnb, pre, hcl, rfl, hl, k⟩ := h
    refine ⟨_, (as_cons (as_drop (ps_expr (a_meth (g_meth (ok_Compiler_add_value T Z 4) Z.k_Compiler.cl (hr.mono (by decide)) pass0 (a_var (pv 0)) (aa_cons (a_ix (o_ix (K := K)) (a_var (pv 1)) a_int (fun _ _ => rfl)) (aa_cons (a_c (g_cint T.c_ANSWER rfl) (fun _ => .int _)) aa_nil))))))
  (as_cons (as_drop (ps_expr (a_meth (g_meth (ok_Compiler_emit T Z) Z.k_Compiler.cl (hr.mono (by decide)) pass0 (a_var (pv 0)) (aa_cons (a_c (g_cint T.c_CONST rfl) (fun _ => .int _)) (aa_cons (a_c (g_cint T.c_SPARE rfl) (fun _ => .int _)) (aa_cons (a_op (o_add (K := K)) (a_meth0 (g_meth0 (ok_Compiler_here T Z) Z.k_Compiler.cl (hr.mono (by decide)) pass0 (a_var (pv 0)))) (a_op o_mul a_int (a_c (g_cint T.c_INSTRUCTION_WORDS rfl) (fun _ => .int _)))) (aa_cons a_int aa_nil))))))))
  (as_cons (as_drop (ps_expr (a_bm o_app (pe_bm PySem.F.plainAttrs_list PySem.F.slot_list_append PySem.F.type_list_append mt_append (a_fld (K := K) (a_var (pv 0))) (aa_cons (a_tup (aa_cons (a_meth (g_meth (ok_Compiler_emit T Z) Z.k_Compiler.cl (hr.mono (by decide)) pass0 (a_var (pv 0)) (aa_cons (a_c (g_cint T.c_JUMP rfl) (fun _ => .int _)) (aa_cons a_int (aa_cons a_int (aa_cons a_int aa_nil)))))) (aa_cons (a_ix (o_ix (K := K)) (a_var (pv 1)) a_int (fun _ _ => rfl)) aa_nil))) aa_nil)))))
  (as_one (as_drop (ps_expr (a_meth (g_meth (ok_Compiler_emit T Z) Z.k_Compiler.cl (hr.mono (by decide)) pass0 (a_var (pv 0)) (aa_cons (a_c (g_cint T.c_STORE rfl) (fun _ => .int _)) (aa_cons (a_c (g_cint T.c_ANSWER rfl) (fun _ => .int _)) (aa_cons (a_c (g_cint T.c_TOP rfl) (fun _ => .int _)) (aa_cons (a_meth (g_meth (ok_Compiler_local_offset T Z) Z.k_Compiler.cl (hr.mono (by decide)) pass0 (a_var (pv 0)) (aa_cons (a_ix (o_ix (K := K)) (a_var (pv 1)) a_int (fun _ _ => rfl)) aa_nil))) aa_nil)))))))))))), ?_⟩
    have hc := Z.k_Compiler.cl
    have n1 := Z.a_Compiler_calls
    rw [genS, List.length_append, List.length_append, List.length_append] at hl
    have hl : s.mem.length + ((genE (s.gx c chk) s.taken e 0).length + 4 + 4 + 4) ≤ 900000 := hl
    rw [genS, callS] at k
    generalize hE : genE (s.gx c chk) s.taken e 0 = E at *
    rw [St.d]
    walk_at "rd"
    refine ⟨c, chk, A, s, M0, h, e, 0, rfl, rfl, ok.2.2, hnb, pre, by rw [hE]; omega, ?_⟩
    rw [hE]
    walk_at "rd"
    refine ⟨c, chk, A, s.add E, M0, rfl, rfl, ?_⟩
    walk_at "rd"
    rw [show (((s.add E).mem.length : Nat) : Int) + 2 * 4 = ((s.mem.length + E.length + 8 : Nat) : Int) by rw [add_len]; omega]
    refine ⟨c, chk, A, s.add E, M0, 1, 5, s.mem.length + E.length + 8, 0, rfl, rfl, by rw [add_len]; omega, ?_⟩
    walk_at "rd"
    refine ⟨c, chk, A, (s.add E).add [1, 5, s.mem.length + E.length + 8, 0], M0, 12, 0, 0, 0, rfl, rfl, by rw [add_len, add_len]; show _ + _ + 4 ≤ _; omega, ?_⟩
    have hz : (s.calls.map caD).length < sizeLine := by rw [List.length_map, line_val]; omega
    have hz2 : (((s.add E).add [1, 5, s.mem.length + E.length + 8, 0]).mem.length + 3) = s.mem.length + E.length + 7 := by rw [add_len, add_len]; rfl
    rw [hz2]
    walk_at "rd"
    rw [show s.calls.map caD ++ [D.tup [natD (s.mem.length + E.length + 7), natD p]] = (s.calls ++ [(s.mem.length + E.length + 7, p)]).map caD by rw [List.map_append]; rfl]
    refine ⟨c, chk, A, ((s.add E).add [1, 5, s.mem.length + E.length + 8, 0]).ext [12, 0, 0, 0] [(s.mem.length + E.length + 7, p)], M0, l, rfl, rfl, pre.tk, ?_⟩
    walk_at "rd"
    refine ⟨c, chk, A, ((s.add E).add [1, 5, s.mem.length + E.length + 8, 0]).ext [12, 0, 0, 0] [(s.mem.length + E.length + 7, p)], M0, 11, 0, 7, offL s.taken l, rfl, rfl, by rw [ext_len, add_len, add_len]; show _ + _ + 4 + 4 ≤ _; omega, ?_⟩
    have e9 : (((s.add E).add [1, 5, s.mem.length + E.length + 8, 0]).ext [12, 0, 0, 0] [(s.mem.length + E.length + 7, p)]).add [11, 0, 7, offL s.taken l] = s.ext (E ++ [1, 5, s.mem.length + E.length + 8, 0] ++ [12, 0, 0, 0] ++ [11, 0, 7, offL s.taken l]) [(s.mem.length + E.length + 7, p)] := by
      unfold CS.add CS.ext
      simp only [List.append_assoc]
    rw [e9]
    exact k
theorem ok_Compiler_add_use (T : Top w.params K mg) (Z : Txt K mg C) (n : Nat) : MCal P w K mg base CX0 8 C.Compiler "add_use" ["self", "statement"] (conSp K (sp_c_use C n)) := by
  refine met_A Z.m_Compiler_add_use sc_Compiler_add_use (fun _ _ _ _ _ _ us hl => match us, hl with | [_, _], _ => rfl) (fun ds M Q E h => ?_) (fun f cdv Ar outer s0 H E ds M Q EX hr h => ?_)
  · obtain ⟨c, chk, A, s, M0, h, x, hh, rfl, _⟩ := h
    rfl
  · obtain ⟨c, chk, A, s, M0, h, x, hh, rfl, rfl, ⟨l, i, e, rfl⟩, ok, hnb, pre, hcl, rfl, hl, k⟩ := h
    refine ⟨_, (as_cons (as_drop (ps_expr (a_meth (g_meth (ok_Compiler_add_value T Z 4) Z.k_Compiler.cl (hr.mono (by decide)) pass0 (a_var (pv 0)) (aa_cons (a_ix (o_ix (K := K)) (a_var (pv 1)) a_int (fun _ _ => rfl)) (aa_cons (a_c (g_cint T.c_ANSWER rfl) (fun _ => .int _)) aa_nil))))))
  (as_cons (as_drop (ps_expr (a_meth (g_meth (ok_Compiler_emit T Z) Z.k_Compiler.cl (hr.mono (by decide)) pass0 (a_var (pv 0)) (aa_cons (a_c (g_cint T.c_STORE rfl) (fun _ => .int _)) (aa_cons (a_c (g_cint T.c_TOP rfl) (fun _ => .int _)) (aa_cons (a_c (g_cint T.c_ZERO rfl) (fun _ => .int _)) (aa_cons (a_c (g_cint T.c_TOP_CELL rfl) (fun _ => .int _)) aa_nil))))))))
  (as_cons (as_drop (ps_expr (a_meth (g_meth (ok_Compiler_emit T Z) Z.k_Compiler.cl (hr.mono (by decide)) pass0 (a_var (pv 0)) (aa_cons (a_c (g_cint T.c_USE rfl) (fun _ => .int _)) (aa_cons (a_c (g_cint T.c_ANSWER rfl) (fun _ => .int _)) (aa_cons (a_ix (o_ix (K := K)) (a_var (pv 1)) a_int (fun _ _ => rfl)) (aa_cons a_int aa_nil))))))))
  (as_cons (as_drop (ps_expr (a_meth (g_meth (ok_Compiler_emit T Z) Z.k_Compiler.cl (hr.mono (by decide)) pass0 (a_var (pv 0)) (aa_cons (a_c (g_cint T.c_LOAD rfl) (fun _ => .int _)) (aa_cons (a_c (g_cint T.c_TOP rfl) (fun _ => .int _)) (aa_cons (a_c (g_cint T.c_ZERO rfl) (fun _ => .int _)) (aa_cons (a_c (g_cint T.c_TOP_CELL rfl) (fun _ => .int _)) aa_nil))))))))
  (as_one (as_drop (ps_expr (a_meth (g_meth (ok_Compiler_emit T Z) Z.k_Compiler.cl (hr.mono (by decide)) pass0 (a_var (pv 0)) (aa_cons (a_c (g_cint T.c_STORE rfl) (fun _ => .int _)) (aa_cons (a_c (g_cint T.c_ANSWER rfl) (fun _ => .int _)) (aa_cons (a_c (g_cint T.c_TOP rfl) (fun _ => .int _)) (aa_cons (a_meth (g_meth (ok_Compiler_local_offset T Z) Z.k_Compiler.cl (hr.mono (by decide)) pass0 (a_var (pv 0)) (aa_cons (a_ix (o_ix (K := K)) (a_var (pv 1)) a_int (fun _ _ => rfl)) aa_nil))) aa_nil))))))))))))), ?_⟩
    have hc := Z.k_Compiler.cl
    rw [genS, List.length_append, List.length_append, List.length_append, List.length_append] at hl
    have hl : s.mem.length + ((genE (s.gx c chk) s.taken e 0).length + 4 + 4 + 4 + 4) ≤ 900000 := hl
    rw [genS, callS, ext_nil, ← add_add, ← add_add, ← add_add, ← add_add] at k
    generalize hE : genE (s.gx c chk) s.taken e 0 = E at *
    rw [St.d]
    walk_at "rd"
    refine ⟨c, chk, A, s, M0, h, e, 0, rfl, rfl, ok.2.2, hnb, pre, by rw [hE]; omega, ?_⟩
    rw [hE]
    walk_at "rd"
    refine ⟨c, chk, A, s.add E, M0, 11, 7, 6, 0, rfl, rfl, by rw [add_len]; omega, ?_⟩
    walk_at "rd"
    refine ⟨c, chk, A, (s.add E).add [11, 7, 6, 0], M0, 15, 0, i, 0, rfl, rfl, by rw [add_len, add_len]; show _ + _ + 4 ≤ _; omega, ?_⟩
    walk_at "rd"
    refine ⟨c, chk, A, ((s.add E).add [11, 7, 6, 0]).add [15, 0, i, 0], M0, 10, 7, 6, 0, rfl, rfl, by rw [add_len, add_len, add_len]; show _ + _ + 4 + 4 ≤ _; omega, ?_⟩
    walk_at "rd"
    refine ⟨c, chk, A, (((s.add E).add [11, 7, 6, 0]).add [15, 0, i, 0]).add [10, 7, 6, 0], M0, l, rfl, rfl, pre.tk, ?_⟩
    walk_at "rd"
    exact ⟨c, chk, A, (((s.add E).add [11, 7, 6, 0]).add [15, 0, i, 0]).add [10, 7, 6, 0], M0, 11, 0, 7, offL s.taken l, rfl, rfl, by rw [add_len, add_len, add_len, add_len]; show _ + _ + 4 + 4 + 4 ≤ _; omega, k⟩
theorem ok_add_block_of (T : Top w.params K mg) (Z : Txt K mg C) (n : Nat) (IS : MCal P w K mg base CX0 (3 * n + 9) C.Compiler "add_statement" ["self", "statement"] (conSp K (sp_c_stmt C n))) : MCal P w K mg base CX0 (3 * n + 10) C.Compiler "add_block" ["self", "block"] (conSp K (sp_c_block C n)) := by
  refine met_A (k := 3 * n + 9) Z.m_Compiler_add_block sc_Compiler_add_block (fun _ _ _ _ _ _ us hl => match us, hl with | [_, _], _ => rfl) (fun ds M Q E h => ?_) (fun f cdv Ar outer s0 H E ds M Q EX hr h => ?_)
  · obtain ⟨c, chk, A, s, M0, h, x, hh, rfl, _⟩ := h
    rfl
  · obtain ⟨c, chk, A, s, M0, h, bl, hh, rfl, rfl, ok, hnb, pre, hcl, rfl, hl, k⟩ := h
    refine ⟨_, (as_one (as_for (ps_for PassesOwn.never rfl (ai_of (g_it (K := K) (a_var (pv 1)))) (ag_name (pg_name (i := 2) sc_Compiler_add_block.nd rfl (by first | exact Or.inl rfl | exact Or.inr rfl)))
  (as_one (as_drop (ps_expr (a_meth (g_meth IS Z.k_Compiler.cl (hr.mono (by omega)) pass0 (a_var (pv 0)) (aa_cons (a_var (pv 2)) aa_nil))))))))), ?_⟩
    rw [stsOk_iff] at ok
    rw [stsD_map]
    have hpart : ∀ i, (genB (s.gx c chk) s.taken (bl.take i) s.mem.length).length ≤ (genB (s.gx c chk) s.taken bl s.mem.length).length := fun i => by
      have := genB_app (s.gx c chk) s.taken (ys := bl.drop i) (bl.take i) s.mem.length
      rw [List.take_append_drop] at this
      rw [this, List.length_append]
      omega
    walk_at "rd"
    refine f_map bl (fun i xs M' => ∃ v2, xs = [some (.r A.P), some (.tup (bl.map St.d)), v2] ∧ M' = ccM C c chk A (s.ext (genB (s.gx c chk) s.taken (bl.take i) s.mem.length) (callB (s.gx c chk) s.taken (bl.take i) s.mem.length)) M0) ⟨_, rfl, by
      rw [List.take_zero, genB, callB, ext_nil]; unfold CS.add; rw [List.append_nil]⟩ ?_ ?_
    · rintro i x xs M hx ⟨v2, rfl, rfl⟩
      have hp1 := hpart (i + 1)
      have hcb := callB_len (s.gx c chk) s.taken (bl.take i) s.mem.length
      have e1 : genB (s.gx c chk) s.taken (bl.take (i + 1)) s.mem.length = genB (s.gx c chk) s.taken (bl.take i) s.mem.length ++ genS (s.gx c chk) s.taken x (s.mem.length + (genB (s.gx c chk) s.taken (bl.take i) s.mem.length).length) := by
        rw [List.take_add_one, hx, Option.toList_some, genB_app, genB_one]
      have e2 : callB (s.gx c chk) s.taken (bl.take (i + 1)) s.mem.length = callB (s.gx c chk) s.taken (bl.take i) s.mem.length ++ callS (s.gx c chk) s.taken x (s.mem.length + (genB (s.gx c chk) s.taken (bl.take i) s.mem.length).length) := by
        rw [List.take_add_one, hx, Option.toList_some, callB_app, callB_one]
      rw [e1, List.length_append] at hp1
      rw [e1, e2, ← ext_ext]
      generalize genB (s.gx c chk) s.taken (bl.take i) s.mem.length = G at *
      generalize callB (s.gx c chk) s.taken (bl.take i) s.mem.length = Y at *
      walk_at "rd"
      refine ⟨c, chk, A, s.ext G Y, M0, h, x, s.mem.length + G.length, rfl, rfl, trivial, ok x (List.mem_of_getElem? hx), hnb, pre.ext, ?_, by rw [ext_len], ?_, ?_⟩
      · show (s.calls ++ Y).length ≤ (s.mem ++ G).length
        rw [List.length_append, List.length_append]; omega
      · show s.mem.length + G.length + (genS (s.gx c chk) s.taken x _).length ≤ _
        omega
      walk_at "rd"
      exact ⟨_, rfl, rfl⟩
    · rintro xs M ⟨v2, rfl, rfl⟩
      rw [List.take_length]
      walk_at "rd"
      exact k
end



/-! ### ifs and whiles, all statements -/
section
variable {P : Program} {w : World} {K : PySem.W.Frag} {mg : Str → Option Value} {base : Heap} {C : Cs}
theorem ok_add_if_of (T : Top w.params K mg) (Z : Txt K mg C) (n : Nat) (IB : MCal P w K mg base CX0 (3 * n + 10) C.Compiler "add_block" ["self", "block"] (conSp K (sp_c_block C n))) : MCal P w K mg base CX0 (3 * n + 11) C.Compiler "add_if" ["self", "statement"] (conSp K (sp_c_if C (n + 1))) := by
  refine met_A (k := 3 * n + 10) Z.m_Compiler_add_if sc_Compiler_add_if (fun _ _ _ _ _ _ us hl => match us, hl with | [_, _], _ => rfl) (fun ds M Q E h => ?_) (fun f cdv Ar outer s0 H E ds M Q EX hr h => ?_)
  · obtain ⟨c, chk, A, s, M0, h, x, hh, rfl, _⟩ := h
    rfl
  · obtain ⟨c, chk, A, s, M0, h, x, hh, rfl, rfl, ⟨t, a, b, rfl⟩, ok, hnb, pre, hcl, rfl, hl, k⟩ := h
    refine ⟨_, (as_cons (as_drop (ps_expr (a_meth (g_meth (ok_Compiler_add_value T Z 4) Z.k_Compiler.cl (hr.mono (by omega)) pass0 (a_var (pv 0)) (aa_cons (a_ix (o_ix (K := K)) (a_var (pv 1)) a_int (fun _ _ => rfl)) (aa_cons a_int aa_nil))))))
  (as_cons (as_set (ps_set (i := 2) sc_Compiler_add_if.nd rfl (by first | exact Or.inl rfl | exact Or.inr rfl) (a_meth (g_meth (ok_Compiler_emit T Z) Z.k_Compiler.cl (hr.mono (by omega)) pass0 (a_var (pv 0)) (aa_cons (a_c (g_cint T.c_JUMPZERO rfl) (fun _ => .int _)) (aa_cons a_int (aa_cons a_int (aa_cons a_int aa_nil))))))))
  (as_cons (as_drop (ps_expr (a_meth (g_meth IB Z.k_Compiler.cl (hr.mono (by omega)) pass0 (a_var (pv 0)) (aa_cons (a_ix (o_ix (K := K)) (a_var (pv 1)) a_int (fun _ _ => rfl)) aa_nil)))))
  (as_cons (as_set (ps_set (i := 3) sc_Compiler_add_if.nd rfl (by first | exact Or.inl rfl | exact Or.inr rfl) (a_meth (g_meth (ok_Compiler_emit T Z) Z.k_Compiler.cl (hr.mono (by omega)) pass0 (a_var (pv 0)) (aa_cons (a_c (g_cint T.c_JUMP rfl) (fun _ => .int _)) (aa_cons a_int (aa_cons a_int (aa_cons a_int aa_nil))))))))
  (as_cons (as_asg (ps_asg (a_meth0 (g_meth0 (ok_Compiler_here T Z) Z.k_Compiler.cl (hr.mono (by omega)) pass0 (a_var (pv 0)))) (ag_sub (pg_sub (a_fld (K := K) (a_var (pv 0))) (a_var (pv 2)) set_list))))
  (as_cons (as_drop (ps_expr (a_meth (g_meth IB Z.k_Compiler.cl (hr.mono (by omega)) pass0 (a_var (pv 0)) (aa_cons (a_ix (o_ix (K := K)) (a_var (pv 1)) a_int (fun _ _ => rfl)) aa_nil)))))
  (as_one (as_asg (ps_asg (a_meth0 (g_meth0 (ok_Compiler_here T Z) Z.k_Compiler.cl (hr.mono (by omega)) pass0 (a_var (pv 0)))) (ag_sub (pg_sub (a_fld (K := K) (a_var (pv 0))) (a_var (pv 3)) set_list))))))))))), ?_⟩
    have hc := Z.k_Compiler.cl
    have n1 := Z.a_Compiler_memory
    rw [St.ok] at ok
    obtain ⟨_, okt, ⟨_, oka⟩, ⟨_, okb⟩⟩ := ok
    rw [Nat.add_sub_cancel] at oka okb
    rw [genS] at hl
    rw [genS, callS] at k
    have gx1 : ∀ s' : CS, s'.bpl = s.bpl → s'.ff = s.ff → s'.halt = s.halt → s'.leave = s.leave → s'.gx c chk = s.gx c chk := fun s' h1 h2 h3 h4 => by unfold CS.gx; rw [h1, h2, h3, h4]
    generalize hx : s.gx c chk = X at *
    generalize hE : genE X s.taken t 0 = E at *
    obtain ⟨h1, e1⟩ : ∃ h1, h1 = s.mem.length + E.length + 4 := ⟨_, rfl⟩
    rw [← e1] at hl k
    obtain ⟨A', eA⟩ : ∃ A', A' = genB X s.taken a h1 := ⟨_, rfl⟩
    obtain ⟨cA, ecA⟩ : ∃ cA, cA = callB X s.taken a h1 := ⟨_, rfl⟩
    rw [← eA] at hl k
    rw [← ecA] at k
    obtain ⟨h2, e2⟩ : ∃ h2, h2 = h1 + A'.length + 4 := ⟨_, rfl⟩
    rw [← e2] at hl k
    obtain ⟨B', eB⟩ : ∃ B', B' = genB X s.taken b h2 := ⟨_, rfl⟩
    obtain ⟨cB, ecB⟩ : ∃ cB, cB = callB X s.taken b h2 := ⟨_, rfl⟩
    rw [← eB] at hl k
    rw [← ecB] at k
    have hcA : cA.length ≤ A'.length := by rw [ecA, eA]; exact callB_len X s.taken a h1
    simp only [List.length_append, List.length_cons, List.length_nil] at hl
    have m1 : ((s.add E).add [13, 0, 0, 0]).mem.length = h1 := by rw [add_len, add_len, e1]; rfl
    have m0 : (s.add E).mem.length + 3 = (s.mem ++ E).length + 3 := rfl
    have m2 : (((s.add E).add [13, 0, 0, 0]).ext A' cA).mem.length = h1 + A'.length := by rw [ext_len, m1]
    have m3 : ((((s.add E).add [13, 0, 0, 0]).ext A' cA).add [12, 0, 0, 0]).mem.length = h2 := by rw [add_len, m2, e2]; rfl
    rw [St.d]
    walk_at "rd"
    refine ⟨c, chk, A, s, M0, h, t, 0, rfl, rfl, okt, hnb, pre, by rw [hx, hE]; omega, ?_⟩
    rw [hx, hE]
    walk_at "rd"
    refine ⟨c, chk, A, s.add E, M0, 13, 0, 0, 0, rfl, rfl, by rw [add_len]; omega, ?_⟩
    walk_at "rd"
    refine ⟨c, chk, A, (s.add E).add [13, 0, 0, 0], M0, h, a, h1, rfl, rfl, oka, hnb, pre.add.add, ?_, m1.symm, ?_, ?_⟩
    · rw [m1]; show s.calls.length ≤ h1; omega
    · rw [gx1 ((s.add E).add [13, 0, 0, 0]) rfl rfl rfl rfl]; show h1 + (genB X s.taken a h1).length ≤ _; rw [← eA]; omega
    rw [gx1 ((s.add E).add [13, 0, 0, 0]) rfl rfl rfl rfl, show ((s.add E).add [13, 0, 0, 0]).taken = s.taken from rfl, ← eA, ← ecA]
    walk_at "rd"
    refine ⟨c, chk, A, ((s.add E).add [13, 0, 0, 0]).ext A' cA, M0, 12, 0, 0, 0, rfl, rfl, by rw [m2]; omega, ?_⟩
    rw [m2]
    walk_at "rd"
    refine ⟨c, chk, A, (((s.add E).add [13, 0, 0, 0]).ext A' cA).add [12, 0, 0, 0], M0, rfl, rfl, ?_⟩
    rw [m3]
    have hi1 : ixN ((((((s.add E).add [13, 0, 0, 0]).ext A' cA).add [12, 0, 0, 0]).mem).map natD).length (((s.add E).mem.length + 3 : Nat) : Int) = some ((s.add E).mem.length + 3) := by
      rw [List.length_map, m3]; exact ixN_ltG (by rw [add_len]; omega)
    walk_at "rd"
    have es : ((((((s.add E).add [13, 0, 0, 0]).ext A' cA).add [12, 0, 0, 0]).mem).map natD).set ((s.add E).mem.length + 3) (natD h2) = (s.mem ++ E ++ [13, 0, 0, h2] ++ A' ++ [12, 0, 0, 0]).map natD := by
      rw [← List.map_set]
      congr 1
      show (s.mem ++ E ++ [13, 0, 0, 0] ++ A' ++ [12, 0, 0, 0]).set ((s.mem ++ E).length + 3) h2 = _
      rw [List.append_assoc _ A', set_mid, List.append_assoc _ A']
    rw [show (s.mem ++ E ++ [13, 0, 0, 0] ++ A' ++ [12, 0, 0, 0]) = ((((s.add E).add [13, 0, 0, 0]).ext A' cA).add [12, 0, 0, 0]).mem from rfl, es]
    refine ⟨c, chk, A, s.ext (E ++ [13, 0, 0, h2] ++ A' ++ [12, 0, 0, 0]) cA, M0, h, b, h2, rfl, ?_, okb, hnb, pre.ext, ?_, ?_, ?_, ?_⟩
    · show _ = (A.Mm, Ob.lst ((s.mem ++ (E ++ [13, 0, 0, h2] ++ A' ++ [12, 0, 0, 0])).map natD)) :: _
      simp only [List.append_assoc]
    · rw [ext_len]
      show (s.calls ++ cA).length ≤ _
      simp only [List.length_append, List.length_cons, List.length_nil]
      omega
    · rw [ext_len]
      simp only [List.length_append, List.length_cons, List.length_nil]
      omega
    · rw [gx1 (s.ext (E ++ [13, 0, 0, h2] ++ A' ++ [12, 0, 0, 0]) cA) rfl rfl rfl rfl]; show h2 + (genB X s.taken b h2).length ≤ _; rw [← eB]; omega
    rw [gx1 (s.ext (E ++ [13, 0, 0, h2] ++ A' ++ [12, 0, 0, 0]) cA) rfl rfl rfl rfl, show (s.ext (E ++ [13, 0, 0, h2] ++ A' ++ [12, 0, 0, 0]) cA).taken = s.taken from rfl, ← eB, ← ecB]
    have m4 : ((s.ext (E ++ [13, 0, 0, h2] ++ A' ++ [12, 0, 0, 0]) cA).ext B' cB).mem.length = h2 + B'.length := by
      rw [ext_len, ext_len]
      simp only [List.length_append, List.length_cons, List.length_nil]
      omega
    walk_at "rd"
    refine ⟨c, chk, A, (s.ext (E ++ [13, 0, 0, h2] ++ A' ++ [12, 0, 0, 0]) cA).ext B' cB, M0, rfl, rfl, ?_⟩
    rw [m4]
    have hi2 : ixN ((((s.ext (E ++ [13, 0, 0, h2] ++ A' ++ [12, 0, 0, 0]) cA).ext B' cB).mem).map natD).length ((h1 + A'.length + 3 : Nat) : Int) = some (h1 + A'.length + 3) := by
      rw [List.length_map, m4]; exact ixN_ltG (by omega)
    walk_at "rd"
    have es2 : ((((s.ext (E ++ [13, 0, 0, h2] ++ A' ++ [12, 0, 0, 0]) cA).ext B' cB).mem).map natD).set (h1 + A'.length + 3) (natD (h2 + B'.length)) = (s.mem ++ (E ++ [13, 0, 0, h2] ++ A' ++ [12, 0, 0, h2 + B'.length] ++ B')).map natD := by
      rw [← List.map_set]
      congr 1
      show (s.mem ++ (E ++ [13, 0, 0, h2] ++ A' ++ [12, 0, 0, 0]) ++ B').set (h1 + A'.length + 3) _ = _
      have ep : h1 + A'.length + 3 = (s.mem ++ (E ++ [13, 0, 0, h2] ++ A')).length + 3 := by
        simp only [List.length_append, List.length_cons, List.length_nil]
        omega
      rw [show s.mem ++ (E ++ [13, 0, 0, h2] ++ A' ++ [12, 0, 0, 0]) ++ B' = (s.mem ++ (E ++ [13, 0, 0, h2] ++ A')) ++ [12, 0, 0, 0] ++ B' by simp only [List.append_assoc], ep, set_mid]
      simp only [List.append_assoc]
    unfold CS.ext at k
    rw [← List.append_assoc s.calls] at k
    rw [es2]
    exact k
theorem ok_add_while_of (T : Top w.params K mg) (Z : Txt K mg C) (n : Nat) (IB : MCal P w K mg base CX0 (3 * n + 10) C.Compiler "add_block" ["self", "block"] (conSp K (sp_c_block C n))) : MCal P w K mg base CX0 (3 * n + 11) C.Compiler "add_while" ["self", "statement"] (conSp K (sp_c_wh C (n + 1))) := by
  refine met_A (k := 3 * n + 10) Z.m_Compiler_add_while sc_Compiler_add_while (fun _ _ _ _ _ _ us hl => match us, hl with | [_, _], _ => rfl) (fun ds M Q E h => ?_) (fun f cdv Ar outer s0 H E ds M Q EX hr h => ?_)
  · obtain ⟨c, chk, A, s, M0, h, x, hh, rfl, _⟩ := h
    rfl
  · obtain ⟨c, chk, A, s, M0, h, x, hh, rfl, rfl, ⟨t, a, rfl⟩, ok, hnb, pre, hcl, rfl, hl, k⟩ := h
    refine ⟨_, (as_cons (as_set (ps_set (i := 2) sc_Compiler_add_while.nd rfl (by first | exact Or.inl rfl | exact Or.inr rfl) (a_meth0 (g_meth0 (ok_Compiler_here T Z) Z.k_Compiler.cl (hr.mono (by omega)) pass0 (a_var (pv 0))))))
  (as_cons (as_drop (ps_expr (a_meth (g_meth (ok_Compiler_add_value T Z 4) Z.k_Compiler.cl (hr.mono (by omega)) pass0 (a_var (pv 0)) (aa_cons (a_ix (o_ix (K := K)) (a_var (pv 1)) a_int (fun _ _ => rfl)) (aa_cons a_int aa_nil))))))
  (as_cons (as_set (ps_set (i := 3) sc_Compiler_add_while.nd rfl (by first | exact Or.inl rfl | exact Or.inr rfl) (a_meth (g_meth (ok_Compiler_emit T Z) Z.k_Compiler.cl (hr.mono (by omega)) pass0 (a_var (pv 0)) (aa_cons (a_c (g_cint T.c_JUMPZERO rfl) (fun _ => .int _)) (aa_cons a_int (aa_cons a_int (aa_cons a_int aa_nil))))))))
  (as_cons (as_drop (ps_expr (a_meth (g_meth IB Z.k_Compiler.cl (hr.mono (by omega)) pass0 (a_var (pv 0)) (aa_cons (a_ix (o_ix (K := K)) (a_var (pv 1)) a_int (fun _ _ => rfl)) aa_nil)))))
  (as_cons (as_drop (ps_expr (a_meth (g_meth (ok_Compiler_emit T Z) Z.k_Compiler.cl (hr.mono (by omega)) pass0 (a_var (pv 0)) (aa_cons (a_c (g_cint T.c_JUMP rfl) (fun _ => .int _)) (aa_cons a_int (aa_cons a_int (aa_cons (a_var (pv 2)) aa_nil))))))))
  (as_one (as_asg (ps_asg (a_meth0 (g_meth0 (ok_Compiler_here T Z) Z.k_Compiler.cl (hr.mono (by omega)) pass0 (a_var (pv 0)))) (ag_sub (pg_sub (a_fld (K := K) (a_var (pv 0))) (a_var (pv 3)) set_list)))))))))), ?_⟩
    have hc := Z.k_Compiler.cl
    have n1 := Z.a_Compiler_memory
    rw [St.ok] at ok
    obtain ⟨_, okt, ⟨_, oka⟩⟩ := ok
    rw [Nat.add_sub_cancel] at oka
    rw [genS] at hl
    rw [genS, callS] at k
    have gx1 : ∀ s' : CS, s'.bpl = s.bpl → s'.ff = s.ff → s'.halt = s.halt → s'.leave = s.leave → s'.gx c chk = s.gx c chk := fun s' h1 h2 h3 h4 => by unfold CS.gx; rw [h1, h2, h3, h4]
    generalize hx : s.gx c chk = X at *
    generalize hE : genE X s.taken t 0 = E at *
    obtain ⟨h1, e1⟩ : ∃ h1, h1 = s.mem.length + E.length + 4 := ⟨_, rfl⟩
    rw [← e1] at hl k
    obtain ⟨A', eA⟩ : ∃ A', A' = genB X s.taken a h1 := ⟨_, rfl⟩
    obtain ⟨cA, ecA⟩ : ∃ cA, cA = callB X s.taken a h1 := ⟨_, rfl⟩
    rw [← eA] at hl k
    rw [← ecA] at k
    obtain ⟨h2, e2⟩ : ∃ h2, h2 = h1 + A'.length + 4 := ⟨_, rfl⟩
    rw [← e2] at hl k
    have hcA : cA.length ≤ A'.length := by rw [ecA, eA]; exact callB_len X s.taken a h1
    simp only [List.length_append, List.length_cons, List.length_nil] at hl
    have m1 : ((s.add E).add [13, 0, 0, 0]).mem.length = h1 := by rw [add_len, add_len, e1]; rfl
    have m2 : (((s.add E).add [13, 0, 0, 0]).ext A' cA).mem.length = h1 + A'.length := by rw [ext_len, m1]
    have m3 : ((((s.add E).add [13, 0, 0, 0]).ext A' cA).add [12, 0, 0, s.mem.length]).mem.length = h2 := by rw [add_len, m2, e2]; rfl
    rw [St.d]
    walk_at "rd"
    refine ⟨c, chk, A, s, M0, rfl, rfl, ?_⟩
    walk_at "rd"
    refine ⟨c, chk, A, s, M0, h, t, 0, rfl, rfl, okt, hnb, pre, by rw [hx, hE]; omega, ?_⟩
    rw [hx, hE]
    walk_at "rd"
    refine ⟨c, chk, A, s.add E, M0, 13, 0, 0, 0, rfl, rfl, by rw [add_len]; omega, ?_⟩
    walk_at "rd"
    refine ⟨c, chk, A, (s.add E).add [13, 0, 0, 0], M0, h, a, h1, rfl, rfl, oka, hnb, pre.add.add, ?_, m1.symm, ?_, ?_⟩
    · rw [m1]; show s.calls.length ≤ h1; omega
    · rw [gx1 ((s.add E).add [13, 0, 0, 0]) rfl rfl rfl rfl]; show h1 + (genB X s.taken a h1).length ≤ _; rw [← eA]; omega
    rw [gx1 ((s.add E).add [13, 0, 0, 0]) rfl rfl rfl rfl, show ((s.add E).add [13, 0, 0, 0]).taken = s.taken from rfl, ← eA, ← ecA]
    walk_at "rd"
    refine ⟨c, chk, A, ((s.add E).add [13, 0, 0, 0]).ext A' cA, M0, 12, 0, 0, s.mem.length, rfl, rfl, by rw [m2]; omega, ?_⟩
    walk_at "rd"
    refine ⟨c, chk, A, (((s.add E).add [13, 0, 0, 0]).ext A' cA).add [12, 0, 0, s.mem.length], M0, rfl, rfl, ?_⟩
    rw [m3]
    have hi1 : ixN ((((((s.add E).add [13, 0, 0, 0]).ext A' cA).add [12, 0, 0, s.mem.length]).mem).map natD).length (((s.add E).mem.length + 3 : Nat) : Int) = some ((s.add E).mem.length + 3) := by
      rw [List.length_map, m3]; exact ixN_ltG (by rw [add_len]; omega)
    walk_at "rd"
    have es : ((((((s.add E).add [13, 0, 0, 0]).ext A' cA).add [12, 0, 0, s.mem.length]).mem).map natD).set ((s.add E).mem.length + 3) (natD h2) = (s.mem ++ (E ++ [13, 0, 0, h2] ++ A' ++ [12, 0, 0, s.mem.length])).map natD := by
      rw [← List.map_set]
      congr 1
      show (s.mem ++ E ++ [13, 0, 0, 0] ++ A' ++ [12, 0, 0, s.mem.length]).set ((s.mem ++ E).length + 3) h2 = _
      rw [List.append_assoc _ A', set_mid]
      simp only [List.append_assoc]
    rw [es]
    exact k
theorem ok_add_stmt_of (T : Top w.params K mg) (Z : Txt K mg C) (n : Nat) (II : MCal P w K mg base CX0 (3 * n + 8) C.Compiler "add_if" ["self", "statement"] (conSp K (sp_c_if C n))) (IW : MCal P w K mg base CX0 (3 * n + 8) C.Compiler "add_while" ["self", "statement"] (conSp K (sp_c_wh C n))) : MCal P w K mg base CX0 (3 * n + 9) C.Compiler "add_statement" ["self", "statement"] (conSp K (sp_c_stmt C n)) := by
  refine met_A (k := 3 * n + 8) Z.m_Compiler_add_statement sc_Compiler_add_statement (fun _ _ _ _ _ _ us hl => match us, hl with | [_, _], _ => rfl) (fun ds M Q E h => ?_) (fun f cdv Ar outer s0 H E ds M Q EX hr h => ?_)
  · obtain ⟨c, chk, A, s, M0, h, x, hh, rfl, _⟩ := h
    rfl
  · obtain ⟨c, chk, A, s, M0, h, x, hh, rfl, rfl, _, ok, hnb, pre, hcl, rfl, hl, k⟩ := h
    refine ⟨_, (as_cons (as_set (ps_set (i := 2) sc_Compiler_add_statement.nd rfl (by first | exact Or.inl rfl | exact Or.inr rfl) (a_ix (o_ix (K := K)) (a_var (pv 1)) a_int (fun _ _ => rfl))))
  (as_one (as_if (a_tcmp (o_eq (K := K) (un64 hr)) (a_var (pv 2)) a_str (nomark _))
  (as_cons (as_drop (ps_expr (a_meth (g_meth (ok_Compiler_add_value T Z 4) Z.k_Compiler.cl (hr.mono (by omega)) pass0 (a_var (pv 0)) (aa_cons (a_ix (o_ix (K := K)) (a_var (pv 1)) a_int (fun _ _ => rfl)) (aa_cons (a_c (g_cint T.c_ANSWER rfl) (fun _ => .int _)) aa_nil))))))
    (as_one (as_drop (ps_expr (a_meth (g_meth (ok_Compiler_emit T Z) Z.k_Compiler.cl (hr.mono (by omega)) pass0 (a_var (pv 0)) (aa_cons (a_c (g_cint T.c_STORE rfl) (fun _ => .int _)) (aa_cons (a_c (g_cint T.c_ANSWER rfl) (fun _ => .int _)) (aa_cons (a_c (g_cint T.c_TOP rfl) (fun _ => .int _)) (aa_cons (a_meth (g_meth (ok_Compiler_local_offset T Z) Z.k_Compiler.cl (hr.mono (by omega)) pass0 (a_var (pv 0)) (aa_cons (a_ix (o_ix (K := K)) (a_var (pv 1)) a_int (fun _ _ => rfl)) aa_nil))) aa_nil))))))))))
  (as_one (as_if (a_tcmp (o_eq (K := K) (un64 hr)) (a_var (pv 2)) a_str (nomark _))
    (as_one (as_drop (ps_expr (a_meth (g_meth (ok_Compiler_add_put T Z n) Z.k_Compiler.cl (hr.mono (by omega)) pass0 (a_var (pv 0)) (aa_cons (a_var (pv 1)) aa_nil))))))
    (as_one (as_if (a_tcmp (o_eq (K := K) (un64 hr)) (a_var (pv 2)) a_str (nomark _))
      (as_one (as_drop (ps_expr (a_meth (g_meth (ok_Compiler_add_call T Z n) Z.k_Compiler.cl (hr.mono (by omega)) pass0 (a_var (pv 0)) (aa_cons (a_var (pv 1)) aa_nil))))))
      (as_one (as_if (a_tcmp (o_eq (K := K) (un64 hr)) (a_var (pv 2)) a_str (nomark _))
        (as_one (as_drop (ps_expr (a_meth (g_meth (ok_Compiler_add_use T Z n) Z.k_Compiler.cl (hr.mono (by omega)) pass0 (a_var (pv 0)) (aa_cons (a_var (pv 1)) aa_nil))))))
        (as_one (as_if (a_tcmp (o_eq (K := K) (un64 hr)) (a_var (pv 2)) a_str (nomark _))
          (as_one (as_drop (ps_expr (a_meth (g_meth II Z.k_Compiler.cl (hr.mono (by omega)) pass0 (a_var (pv 0)) (aa_cons (a_var (pv 1)) aa_nil))))))
          (as_one (as_if (a_tcmp (o_eq (K := K) (un64 hr)) (a_var (pv 2)) a_str (nomark _))
            (as_one (as_drop (ps_expr (a_meth (g_meth IW Z.k_Compiler.cl (hr.mono (by omega)) pass0 (a_var (pv 0)) (aa_cons (a_var (pv 1)) aa_nil))))))
            (as_one (as_if (a_tcmp (o_eq (K := K) (un64 hr)) (a_var (pv 2)) a_str (nomark _))
              (as_cons (as_drop (ps_expr (a_meth (g_meth (ok_Compiler_add_value T Z 4) Z.k_Compiler.cl (hr.mono (by omega)) pass0 (a_var (pv 0)) (aa_cons (a_ix (o_ix (K := K)) (a_var (pv 1)) a_int (fun _ _ => rfl)) (aa_cons (a_c (g_cint T.c_ANSWER rfl) (fun _ => .int _)) aa_nil))))))
                (as_one (as_drop (ps_expr (a_meth0 (g_meth0 (ok_Compiler_add_ending T Z) Z.k_Compiler.cl (hr.mono (by omega)) pass0 (a_var (pv 0))))))))
              as_nil))))))))))))))), ?_⟩
    have hc := Z.k_Compiler.cl
    cases x with
    | set l e =>
      rw [genS, List.length_append] at hl
      have hl : s.mem.length + ((genE (s.gx c chk) s.taken e 0).length + 4) ≤ 900000 := hl
      rw [genS, callS, ext_nil, ← add_add] at k
      rw [St.d]
      walk_at "rd"
      refine ⟨c, chk, A, s, M0, h, e, 0, rfl, rfl, ok.2, hnb, pre, by omega, ?_⟩
      walk_at "rd"
      refine ⟨c, chk, A, s.add (genE (s.gx c chk) s.taken e 0), M0, l, rfl, rfl, pre.tk, ?_⟩
      walk_at "rd"
      exact ⟨c, chk, A, s.add (genE (s.gx c chk) s.taken e 0), M0, 11, 0, 7, offL s.taken l, rfl, rfl, by rw [add_len]; omega, k⟩
    | put b i e =>
      rw [St.d]
      walk_at "rd"
      exact ⟨c, chk, A, s, M0, h, .put b i e, s.mem.length, by rw [St.d], rfl, ⟨_, _, _, rfl⟩, ok, hnb, pre, hcl, rfl, hl, k⟩
    | call l p e =>
      rw [St.d]
      walk_at "rd"
      exact ⟨c, chk, A, s, M0, h, .call l p e, s.mem.length, by rw [St.d], rfl, ⟨_, _, _, rfl⟩, ok, hnb, pre, hcl, rfl, hl, k⟩
    | use l i e =>
      rw [St.d]
      walk_at "rd"
      exact ⟨c, chk, A, s, M0, h, .use l i e, s.mem.length, by rw [St.d], rfl, ⟨_, _, _, rfl⟩, ok, hnb, pre, hcl, rfl, hl, k⟩
    | ifs t a b =>
      rw [St.d]
      walk_at "rd"
      exact ⟨c, chk, A, s, M0, h, .ifs t a b, s.mem.length, by rw [St.d], rfl, ⟨_, _, _, rfl⟩, ok, hnb, pre, hcl, rfl, hl, k⟩
    | wh t a =>
      rw [St.d]
      walk_at "rd"
      exact ⟨c, chk, A, s, M0, h, .wh t a, s.mem.length, by rw [St.d], rfl, ⟨_, _, rfl⟩, ok, hnb, pre, hcl, rfl, hl, k⟩
    | ret e =>
      rw [genS, List.length_append] at hl
      have hl : s.mem.length + ((genE (s.gx c chk) s.taken e 0).length + 16) ≤ 900000 := hl
      rw [genS, callS, ext_nil, ← add_add] at k
      rw [St.d]
      walk_at "rd"
      refine ⟨c, chk, A, s, M0, h, e, 0, rfl, rfl, ok, hnb, pre, by omega, ?_⟩
      walk_at "rd"
      exact ⟨c, chk, A, s.add (genE (s.gx c chk) s.taken e 0), M0, rfl, rfl, pre.tk, by rw [add_len]; omega, k⟩
theorem ok_add_stmt (T : Top w.params K mg) (Z : Txt K mg C) : ∀ n, MCal P w K mg base CX0 (3 * n + 9) C.Compiler "add_statement" ["self", "statement"] (conSp K (sp_c_stmt C n))
  | 0 => ok_add_stmt_of T Z 0
    (met_A (k := 7) Z.m_Compiler_add_if sc_Compiler_add_if (fun _ _ _ _ _ _ us hl => match us, hl with | [_, _], _ => rfl) (fun ds M Q E h => by obtain ⟨_, _, _, _, _, _, _, _, _, _, ⟨_, _, _, rfl⟩, ok, _⟩ := h; rw [St.ok] at ok; omega) (fun f cdv Ar outer s0 H E ds M Q EX hr h => by obtain ⟨_, _, _, _, _, _, _, _, _, _, ⟨_, _, _, rfl⟩, ok, _⟩ := h; rw [St.ok] at ok; omega))
    (met_A (k := 7) Z.m_Compiler_add_while sc_Compiler_add_while (fun _ _ _ _ _ _ us hl => match us, hl with | [_, _], _ => rfl) (fun ds M Q E h => by obtain ⟨_, _, _, _, _, _, _, _, _, _, ⟨_, _, rfl⟩, ok, _⟩ := h; rw [St.ok] at ok; omega) (fun f cdv Ar outer s0 H E ds M Q EX hr h => by obtain ⟨_, _, _, _, _, _, _, _, _, _, ⟨_, _, rfl⟩, ok, _⟩ := h; rw [St.ok] at ok; omega))
  | n + 1 => by
    have IB := ok_add_block_of T Z n (ok_add_stmt T Z n)
    exact ok_add_stmt_of T Z (n + 1) (ok_add_if_of T Z n IB) (ok_add_while_of T Z n IB)
theorem ok_add_block (T : Top w.params K mg) (Z : Txt K mg C) (n : Nat) : MCal P w K mg base CX0 (3 * n + 10) C.Compiler "add_block" ["self", "block"] (conSp K (sp_c_block C n)) := ok_add_block_of T Z n (ok_add_stmt T Z n)
end



/-! ### codes -/
abbrev Cd := List Nat × List Nat
abbrev cdD (C : Cs) (x : Cd) : D := .ins C.Code [("memory", .tup (x.1.map natD)), ("entries", .tup (x.2.map natD))]

/-! ### sizes and places of what is made -/
theorem bplOf_app {b : List Nat} : ∀ (xs : List (List Nat)) (n : Nat), bplOf n (xs ++ [b]) = bplOf n xs ++ [n + xs.flatten.length]
  | [], n => by simp [bplOf]
  | x :: xs, n => by
    rw [List.cons_append, bplOf, bplOf, bplOf_app xs, List.cons_append, List.flatten_cons, List.length_append, Nat.add_assoc]
theorem bplOf_len : ∀ (xs : List (List Nat)) (n : Nat), (bplOf n xs).length = xs.length
  | [], n => rfl
  | x :: xs, n => by rw [bplOf, List.length_cons, List.length_cons, bplOf_len xs]
theorem cells_le {c : Cm} {n ex ni : Nat} (ok : c.ok n ex ni) : cellsN c ≤ 4 := by
  refine fold_ub _ 0 4 (by decide) fun y hy => ?_
  unfold depL at hy
  rcases List.mem_cons.mp hy with rfl | hy
  · decide
  · obtain ⟨l, hl, hy⟩ := List.mem_flatten.mp hy
    obtain ⟨p, hp, rfl⟩ := List.mem_map.mp hl
    obtain ⟨l, hl, hy⟩ := List.mem_flatten.mp hy
    obtain ⟨x, hx, rfl⟩ := List.mem_map.mp hl
    obtain ⟨e, he, rfl⟩ := List.mem_map.mp hy
    exact (St.exps_ok (stsAll_ok p.2 n (ok.proc p hp).2.2 x hx) e he).2
theorem flat_le {c : Cm} {n ex ni : Nat} (ok : c.ok n ex ni) : ∀ i, (c.bufs.take i).flatten.length ≤ 8000 := by
  have one : ∀ l : List (List Nat), (∀ b ∈ l, b.length ≤ 1000) → l.flatten.length ≤ 1000 * l.length := by
    intro l
    induction l with
    | nil => intro _; simp
    | cons b l ih =>
      intro h
      have h1 := h b List.mem_cons_self
      have h2 := ih fun b hb => h b (List.mem_cons_of_mem _ hb)
      rw [List.flatten_cons, List.length_append, List.length_cons]
      omega
  intro i
  have := one (c.bufs.take i) fun b hb => (ok.buf b (List.mem_of_mem_take hb)).1.2
  have h2 := ok.nb
  rw [List.length_take] at this
  omega
mutual
theorem callS_in (X : GX) (tk : Nat) {h : Sh} : ∀ (x : St) (n hh : Nat), x.ok h n → ∀ q ∈ callS X tk x hh, hh ≤ q.1 ∧ q.1 < hh + (genS X tk x hh).length ∧ q.2 < h.np
  | .set .., n, hh, k, q, hq => by rw [callS] at hq; cases hq
  | .put .., n, hh, k, q, hq => by rw [callS] at hq; cases hq
  | .call l p e, n, hh, k, q, hq => by
    rw [callS] at hq
    rw [List.mem_singleton.mp hq, genS]
    simp only [List.length_append, List.length_cons, List.length_nil]
    exact ⟨by omega, by omega, k.2.1⟩
  | .use .., n, hh, k, q, hq => by rw [callS] at hq; cases hq
  | .ifs t a b, n, hh, k, q, hq => by
    rw [St.ok] at k
    rw [callS] at hq
    rw [genS]
    simp only [List.length_append, List.length_cons, List.length_nil]
    rcases List.mem_append.mp hq with hq | hq
    · have := callB_in X tk a (n - 1) _ k.2.2.1.2 q hq
      exact ⟨by omega, by omega, this.2.2⟩
    · have := callB_in X tk b (n - 1) _ k.2.2.2.2 q hq
      exact ⟨by omega, by omega, this.2.2⟩
  | .wh t a, n, hh, k, q, hq => by
    rw [St.ok] at k
    rw [callS] at hq
    rw [genS]
    simp only [List.length_append, List.length_cons, List.length_nil]
    have := callB_in X tk a (n - 1) _ k.2.2.2 q hq
    exact ⟨by omega, by omega, this.2.2⟩
  | .ret _, n, hh, k, q, hq => by rw [callS] at hq; cases hq
theorem callB_in (X : GX) (tk : Nat) {h : Sh} : ∀ (xs : List St) (n hh : Nat), stsOk h xs n → ∀ q ∈ callB X tk xs hh, hh ≤ q.1 ∧ q.1 < hh + (genB X tk xs hh).length ∧ q.2 < h.np
  | [], n, hh, k, q, hq => by rw [callB] at hq; cases hq
  | x :: xs, n, hh, k, q, hq => by
    rw [stsOk] at k
    rw [callB] at hq
    rw [genB, List.length_append]
    rcases List.mem_append.mp hq with hq | hq
    · have := callS_in X tk x n hh k.1 q hq
      exact ⟨this.1, by omega, this.2.2⟩
    · have := callB_in X tk xs n _ k.2 q hq
      exact ⟨by omega, by omega, this.2.2⟩
end
theorem procsC_app (c : Cm) (chk : Bool) (ex : Nat) {ys : List (Nat × List St)} : ∀ (xs : List (Nat × List St)) (s : CS) (i : Nat), procsC c chk ex s (xs ++ ys) i = procsC c chk ex (procsC c chk ex s xs i) ys (i + xs.length)
  | [], s, i => rfl
  | x :: xs, s, i => by
    rw [List.cons_append, procsC, procsC_app c chk ex xs, procsC, List.length_cons, show i + 1 + xs.length = i + (xs.length + 1) by omega]
theorem procC_len (c : Cm) (chk : Bool) (s : CS) (p : Nat × List St) (b : Bool) : s.mem.length ≤ (procC c chk s p b).mem.length := by
  unfold procC
  simp only [List.length_append]
  omega
theorem procsC_len (c : Cm) (chk : Bool) (ex : Nat) : ∀ (ps : List (Nat × List St)) (s : CS) (i : Nat), s.mem.length ≤ (procsC c chk ex s ps i).mem.length
  | [], s, i => Nat.le_refl _
  | p :: ps, s, i => Nat.le_trans (procC_len c chk s p _) (procsC_len c chk ex ps _ _)
/-- what holds of a component that is being compiled -/
structure CI (c : Cm) (s : CS) (i : Nat) : Prop where
  bp : s.bpl.length = c.bufs.length
  st : s.starts.length = i
  cl : s.calls.length ≤ s.mem.length
  ca : ∀ q ∈ s.calls, q.1 < s.mem.length ∧ q.2 < c.procs.length
  en : s.ents.length ≤ i
theorem CI.step {c : Cm} {chk : Bool} {s : CS} {i n ex ni : Nat} {p : Nat × List St} {b : Bool} (ok : c.ok n ex ni) (hp : c.procs[i]? = some p) (h : CI c s i) : CI c (procC c chk s p b) (i + 1) := by
  have hk := ok.proc p (List.mem_of_getElem? hp)
  have hcb := callB_len (s.gx c chk) (p.1 + 2) p.2 (s.mem.length + (if b = true then expW (s.gx c chk) else []).length + (begW (s.gx c chk) (p.1 + 2) p.1).length)
  have hci := callB_in (s.gx c chk) (p.1 + 2) p.2 n (s.mem.length + (if b = true then expW (s.gx c chk) else []).length + (begW (s.gx c chk) (p.1 + 2) p.1).length) hk.2.2
  refine ⟨h.bp, ?_, ?_, fun q hq => ?_, ?_⟩
  · show (s.starts ++ [_]).length = _
    rw [List.length_append, h.st]; rfl
  · show (s.calls ++ _).length ≤ _
    unfold procC
    simp only [List.length_append]
    have := h.cl
    omega
  · have hq : q ∈ s.calls ++ callB (s.gx c chk) (p.1 + 2) p.2 (s.mem.length + (if b = true then expW (s.gx c chk) else []).length + (begW (s.gx c chk) (p.1 + 2) p.1).length) := hq
    rcases List.mem_append.mp hq with hq | hq
    · exact ⟨Nat.lt_of_lt_of_le (h.ca q hq).1 (procC_len c chk s p b), (h.ca q hq).2⟩
    · have := hci q hq
      refine ⟨?_, this.2.2⟩
      unfold procC
      simp only [List.length_append]
      omega
  · show (if b = true then s.ents ++ [s.mem.length] else s.ents).length ≤ _
    have := h.en
    split
    · rw [List.length_append]; show _ + 1 ≤ _; omega
    · omega
theorem data_len {c : Cm} {n ex ni : Nat} (ok : c.ok n ex ni) : (dataC c).mem.length ≤ 28005 := by
  have h1 := cells_le ok
  have h2 := flat_le ok c.bufs.length
  rw [List.take_length] at h2
  have h3 := ok.room
  unfold dataC
  simp only [List.length_append, List.length_set, List.length_replicate]
  omega
theorem CI.init {c : Cm} : CI c (exitC (dataC c)) 0 := ⟨bplOf_len _ _, rfl, Nat.zero_le _, fun q hq => (by cases hq), Nat.le_refl _⟩
theorem CI.all {c : Cm} {chk : Bool} {n ex ni e : Nat} (ok : c.ok n ex ni) : ∀ i, i ≤ c.procs.length → CI c (procsC c chk e (exitC (dataC c)) (c.procs.take i) 0) i
  | 0, _ => CI.init
  | i + 1, hi => by
    have hp : c.procs[i]? = some (c.procs[i]'(by omega)) := List.getElem?_eq_getElem _
    rw [List.take_add_one, hp, Option.toList_some, procsC_app]
    exact (CI.all ok i (by omega)).step ok hp
/-! ### in memory -/
abbrev cc0M (C : Cs) (c : Cm) (chk : Bool) (A : CA) (M0 : Mem) : Mem := (A.Ca, .lst []) :: (A.St, .lst []) :: (A.Bp, .lst []) :: (A.En, .lst []) :: (A.Mm, .lst []) :: (A.P, .ins C.Compiler (ccF C c chk A ⟨[], [], [], 0, 0, 0, [], [], 0⟩)) :: M0
def sp_c_init (C : Cs) : ASp := fun ds M Q _ => ∃ (c : Cm) (chk : Bool) (x : Addr) (M0 : Mem), ds = [.r x, Cm.d C c, .bl chk] ∧ M = (x, .ins C.Compiler []) :: M0 ∧ ∀ A : CA, A.P = x → Q .non (cc0M C c chk A M0)
def sp_c_data (C : Cs) : ASp := fun ds M Q _ => ∃ (c : Cm) (chk : Bool) (A : CA) (M0 : Mem) (n ex ni : Nat), ds = [.r A.P] ∧ M = cc0M C c chk A M0 ∧ n ≤ 6 ∧ c.ok n ex ni ∧ (∀ q ∈ c.procs, stsCnt q.2 ≤ 20000) ∧ ∀ a, Q .non (ccM C c chk { A with Mm := a } (dataC c) M0)
def sp_c_exits (C : Cs) : ASp := fun ds M Q _ => ∃ (c : Cm) (chk : Bool) (A : CA) (s : CS) (M0 : Mem), ds = [.r A.P] ∧ M = ccM C c chk A s M0 ∧ s.mem.length ≤ 800000 ∧ Q .non (ccM C c chk A (exitC s) M0)
def sp_c_beg (C : Cs) : ASp := fun ds M Q _ => ∃ (c : Cm) (chk : Bool) (A : CA) (s : CS) (M0 : Mem) (nl : Nat), ds = [.r A.P, natD nl] ∧ M = ccM C c chk A s M0 ∧ s.taken ≤ 60000 ∧ nl ≤ 60000 ∧ s.mem.length + (begW (s.gx c chk) s.taken nl).length ≤ 900000 ∧ Q .non (ccM C c chk A (s.add (begW (s.gx c chk) s.taken nl)) M0)
def sp_c_proc (C : Cs) (n : Nat) : ASp := fun ds M Q _ => ∃ (c : Cm) (chk : Bool) (A : CA) (s : CS) (M0 : Mem) (ex ni i : Nat) (p : Nat × List St) (b : Bool), ds = [.r A.P, natD i, .bl b] ∧ M = ccM C c chk A s M0 ∧ c.ok n ex ni ∧ c.procs[i]? = some p ∧ CI c s i ∧ (procC c chk s p b).mem.length ≤ 900000 ∧ Q .non (ccM C c chk A (procC c chk s p b) M0)
def sp_c_link (C : Cs) : ASp := fun ds M Q _ => ∃ (c : Cm) (chk : Bool) (A : CA) (s : CS) (M0 : Mem) (i : Nat), ds = [.r A.P] ∧ M = ccM C c chk A s M0 ∧ CI c s i ∧ i = c.procs.length ∧ s.mem.length ≤ 900000 ∧ Q .non (ccM C c chk A { s with mem := linkC s } M0)
theorem begW_snoc {X : GX} {tk i : Nat} {W : List Nat} : W ++ ((List.range (i + 1)).map fun i => [11, 6, 7, offL tk (1 + i)]).flatten = W ++ ((List.range i).map fun i => [11, 6, 7, offL tk (1 + i)]).flatten ++ [11, 6, 7, offL tk (1 + i)] := by
  rw [List.range_succ, List.map_append, List.flatten_append, List.append_assoc]
  simp
theorem flat4_len {tk : Nat} : ∀ i, ((List.range i).map fun i => [11, 6, 7, offL tk (1 + i)]).flatten.length = 4 * i
  | 0 => rfl
  | i + 1 => by
    rw [List.range_succ, List.map_append, List.flatten_append, List.length_append, flat4_len i]
    simp
    omega
section
variable {P : Program} {w : World} {K : PySem.W.Frag} {mg : Str → Option Value} {base : Heap} {C : Cs}
theorem ok_Compiler_init (T : Top w.params K mg) (Z : Txt K mg C) : MCal P w K mg base (HX P w) 1 C.Compiler "__init__" ["self", "component", "checked"] (conSp K (sp_c_init C)) := by
  refine met_AX Z.m_Compiler_init sc_Compiler_init (fun _ _ _ _ _ _ us hl => match us, hl with | [_, _, _], _ => rfl) (fun ds M Q E h => ?_) (fun f cdv Ar outer s0 H E ds M Q EX hr h => ?_)
  · obtain ⟨c, chk, x, M0, rfl, _⟩ := h
    rfl
  · obtain ⟨c, chk, x, M0, rfl, rfl, k⟩ := h
    refine ⟨_, (as_cons (as_fld (K := K) (ps_fld (a_var (pv 0)) (a_var (pv 1)) rfl))
  (as_cons (as_fld (K := K) (ps_fld (a_var (pv 0)) (a_var (pv 2)) rfl))
  (as_cons (as_fld (K := K) (ps_fld (a_var (pv 0)) (a_lstO aa_nil) rfl))
  (as_cons (as_fld (K := K) (ps_fld (a_var (pv 0)) (a_lstO aa_nil) rfl))
  (as_cons (as_fld (K := K) (ps_fld (a_var (pv 0)) (a_lstO aa_nil) rfl))
  (as_cons (as_fld (K := K) (ps_fld (a_var (pv 0)) a_int rfl))
  (as_cons (as_fld (K := K) (ps_fld (a_var (pv 0)) a_int rfl))
  (as_cons (as_fld (K := K) (ps_fld (a_var (pv 0)) a_int rfl))
  (as_cons (as_fld (K := K) (ps_fld (a_var (pv 0)) (a_lstO aa_nil) rfl))
  (as_cons (as_fld (K := K) (ps_fld (a_var (pv 0)) (a_lstO aa_nil) rfl))
  (as_one (as_fld (K := K) (ps_fld (a_var (pv 0)) a_int rfl))))))))))))), ?_⟩
    have hc := Z.k_Compiler.cl
    have n1 := Z.a_Compiler_component
    have n2 := Z.a_Compiler_checked
    have n3 := Z.a_Compiler_memory
    have n4 := Z.a_Compiler_entries
    have n5 := Z.a_Compiler_buffer_places
    have n6 := Z.a_Compiler_first_frame
    have n7 := Z.a_Compiler_halt_place
    have n8 := Z.a_Compiler_leave_place
    have n9 := Z.a_Compiler_starts
    have n10 := Z.a_Compiler_calls
    have n11 := Z.a_Compiler_taken
    walk_at "rd"
    intro Mm
    walk_at "rd"
    intro En
    walk_at "rd"
    intro Bp
    walk_at "rd"
    intro St
    walk_at "rd"
    intro Ca
    walk_at "rd"
    exact k ⟨x, Mm, En, Bp, St, Ca⟩ rfl
theorem ok_Compiler_add_data (T : Top w.params K mg) (Z : Txt K mg C) : MCal P w K mg base CX0 10 C.Compiler "add_data" ["self"] (conSp K (sp_c_data C)) := by
  refine met_A Z.m_Compiler_add_data sc_Compiler_add_data (fun _ _ _ _ _ _ us hl => match us, hl with | [_], _ => rfl) (fun ds M Q E h => ?_) (fun f cdv Ar outer s0 H E ds M Q EX hr h => ?_)
  · obtain ⟨c, chk, A, M0, n, ex, ni, rfl, _⟩ := h
    rfl
  · obtain ⟨c, chk, A, M0, n, ex, ni, rfl, rfl, hn, ok, hcn, k⟩ := h
    refine ⟨_, (as_cons (as_fld (K := K) (ps_fld (a_var (pv 0)) (a_op (o_repO (K := K)) (a_lst (aa_cons a_int aa_nil)) (a_op (o_add (K := K)) (a_op (o_add (K := K)) (a_c (g_cint T.c_TOP_CELL rfl) (fun _ => .int _)) a_int) (a_call (g_call (ok_cells_needed T Z) (hr.mono (by decide)) (by rfl) pass0 (aa_cons (a_fld (K := K) (a_var (pv 0))) aa_nil))))) rfl))
  (as_cons (as_for (ps_for PassesOwn.never rfl (ai_of (g_it (K := K) (a_fld (K := K) (a_fld (K := K) (a_var (pv 0)))))) (ag_name (pg_name (i := 1) sc_Compiler_add_data.nd rfl (by first | exact Or.inl rfl | exact Or.inr rfl)))
  (as_cons (as_drop (ps_expr (a_bm o_app (pe_bm PySem.F.plainAttrs_list PySem.F.slot_list_append PySem.F.type_list_append mt_append (a_fld (K := K) (a_var (pv 0))) (aa_cons (a_meth0 (g_meth0 (ok_Compiler_here T Z) Z.k_Compiler.cl (hr.mono (by decide)) pass0 (a_var (pv 0)))) aa_nil)))))
    (as_one (as_drop (ps_expr (a_bm o_extT (pe_bm PySem.F.plainAttrs_list PySem.F.slot_list_extend PySem.F.type_list_extend mt_extT (a_fld (K := K) (a_var (pv 0))) (aa_cons (a_var (pv 1)) aa_nil)))))))))
  (as_cons (as_fld (K := K) (ps_fld (a_var (pv 0)) (a_meth0 (g_meth0 (ok_Compiler_here T Z) Z.k_Compiler.cl (hr.mono (by decide)) pass0 (a_var (pv 0)))) rfl))
  (as_cons (as_asg (ps_asg (a_fld (K := K) (a_var (pv 0))) (ag_sub (pg_sub (a_fld (K := K) (a_var (pv 0))) (a_c (g_cint T.c_TOP_CELL rfl) (fun _ => .int _)) set_list))))
  (as_one (as_drop (ps_expr (a_bm o_ext (pe_bm PySem.F.plainAttrs_list PySem.F.slot_list_extend PySem.F.type_list_extend mt_extend (a_fld (K := K) (a_var (pv 0))) (aa_cons (a_op (o_rep (K := K)) (a_lst (aa_cons a_int aa_nil)) (a_fld (K := K) (a_fld (K := K) (a_var (pv 0))))) aa_nil)))))))))), ?_⟩
    have hc := Z.k_Compiler.cl
    have hc2 := Z.k_Component.cl
    have n1 := Z.a_Compiler_component
    have n3 := Z.a_Compiler_memory
    have n5 := Z.a_Compiler_buffer_places
    have n6 := Z.a_Compiler_first_frame
    have m1 := Z.a_Component_room
    have m2 := Z.a_Component_buffers
    have hce := cells_le ok
    have hfl := flat_le ok
    have hrm := ok.room
    have hnb := ok.nb
    walk_at "rd"
    refine ⟨c, n, ex, ni, rfl, hn, ok, hcn, ?_⟩
    walk_at "r0"
    intro a
    walk_at "r0"
    refine Nx.fz (Fz.drop (.tl (.tl (.tl (.tl (.tl .hd)))))) ?_
    rw [show ((0 : Int) + 1 + (cellsN c : Int)).toNat = 1 + cellsN c by omega]
    have kk := k a
    unfold dataC at kk
    dsimp only at kk
    generalize hN : 1 + cellsN c = N at kk ⊢
    (try walk_at "st")
    walk_at "rd"
    refine f_map c.bufs (fun i xs M' => ∃ v1, xs = [some (.r A.P), v1] ∧ M' = ccM C c chk { A with Mm := a } ⟨List.replicate N 0 ++ (c.bufs.take i).flatten, [], bplOf N (c.bufs.take i), 0, 0, 0, [], [], 0⟩ M0) ⟨_, rfl, by simp [bplOf]⟩ ?_ ?_
    · rintro i b xs M hb ⟨v1, rfl, rfl⟩
      have hil := (List.getElem?_eq_some_iff.mp hb).1
      have hbl := (ok.buf b (List.mem_of_getElem? hb)).1
      have hfi := hfl i
      have hz : ((bplOf N (c.bufs.take i)).map natD).length < sizeLine := by rw [List.length_map, bplOf_len, List.length_take, line_val]; omega
      have eb : bplOf N (c.bufs.take (i + 1)) = bplOf N (c.bufs.take i) ++ [(List.replicate N 0 ++ (c.bufs.take i).flatten).length] := by
        rw [List.take_add_one, hb, Option.toList_some, bplOf_app, List.length_append, List.length_replicate]
      have ef : (c.bufs.take (i + 1)).flatten = (c.bufs.take i).flatten ++ b := by
        rw [List.take_add_one, hb, Option.toList_some, List.flatten_append, List.flatten_singleton]
      rw [eb, ef]
      walk_at "rd"
      refine ⟨c, chk, { A with Mm := a }, _, M0, rfl, rfl, ?_⟩
      walk_at "rd"
      refine .mk .hd (by rw [List.length_map, List.length_map, List.length_append, List.length_replicate, line_val]; omega) ?_
      walk_at "rd"
      refine ⟨_, rfl, ?_⟩
      unfold ccM
      rw [List.map_append (l₁ := bplOf N (c.bufs.take i)), ← List.append_assoc, List.map_append (l₂ := b)]
      rfl
    · rintro xs M ⟨v1, rfl, rfl⟩
      rw [List.take_length]
      have hf2 := hfl c.bufs.length
      rw [List.take_length] at hf2
      have hm1 : 1 ≤ (List.replicate N 0 ++ c.bufs.flatten).length := by rw [List.length_append, List.length_replicate]; omega
      have hm2 : (List.replicate N 0 ++ c.bufs.flatten).length ≤ 8005 := by rw [List.length_append, List.length_replicate]; omega
      generalize List.replicate N 0 ++ c.bufs.flatten = m at kk hm1 hm2 ⊢
      walk_at "rd"
      refine ⟨c, chk, { A with Mm := a }, _, M0, rfl, rfl, ?_⟩
      have hi0 : ixN (m.map natD).length 0 = some 0 := by
        have := ixN_ltG (n := (m.map natD).length) (c := 0) (by rw [List.length_map]; omega)
        exact this
      walk_at "rd"
      rw [← List.map_set]
      refine .mk .hd (.inl rfl) (by rw [List.length_map, List.length_set, List.length_replicate, line_val, Int.toNat_natCast]; omega) ?_
      walk_at "rd"
      rw [Int.toNat_natCast, show (m.set 0 m.length).map natD ++ List.replicate c.room (D.int 0) = (m.set 0 m.length ++ List.replicate c.room 0).map natD by rw [List.map_append, List.map_replicate]; rfl]
      exact kk
theorem ok_Compiler_add_exits (T : Top w.params K mg) (Z : Txt K mg C) : MCal P w K mg base CX0 2 C.Compiler "add_exits" ["self"] (conSp K (sp_c_exits C)) := by
  refine met_A Z.m_Compiler_add_exits sc_Compiler_add_exits (fun _ _ _ _ _ _ us hl => match us, hl with | [_], _ => rfl) (fun ds M Q E h => ?_) (fun f cdv Ar outer s0 H E ds M Q EX hr h => ?_)
  · obtain ⟨c, chk, A, s, M0, rfl, _⟩ := h
    rfl
  · obtain ⟨c, chk, A, s, M0, rfl, rfl, hl, k⟩ := h
    refine ⟨_, (as_cons (as_fld (K := K) (ps_fld (a_var (pv 0)) (a_meth0 (g_meth0 (ok_Compiler_here T Z) Z.k_Compiler.cl (hr.mono (by decide)) pass0 (a_var (pv 0)))) rfl))
  (as_cons (as_drop (ps_expr (a_meth (g_meth (ok_Compiler_emit T Z) Z.k_Compiler.cl (hr.mono (by decide)) pass0 (a_var (pv 0)) (aa_cons (a_c (g_cint T.c_HALT rfl) (fun _ => .int _)) (aa_cons a_int (aa_cons a_int (aa_cons a_int aa_nil))))))))
  (as_cons (as_fld (K := K) (ps_fld (a_var (pv 0)) (a_meth0 (g_meth0 (ok_Compiler_here T Z) Z.k_Compiler.cl (hr.mono (by decide)) pass0 (a_var (pv 0)))) rfl))
  (as_cons (as_drop (ps_expr (a_meth (g_meth (ok_Compiler_emit T Z) Z.k_Compiler.cl (hr.mono (by decide)) pass0 (a_var (pv 0)) (aa_cons (a_c (g_cint T.c_STORE rfl) (fun _ => .int _)) (aa_cons (a_c (g_cint T.c_TOP rfl) (fun _ => .int _)) (aa_cons (a_c (g_cint T.c_ZERO rfl) (fun _ => .int _)) (aa_cons (a_c (g_cint T.c_TOP_CELL rfl) (fun _ => .int _)) aa_nil))))))))
  (as_one (as_drop (ps_expr (a_meth (g_meth (ok_Compiler_emit T Z) Z.k_Compiler.cl (hr.mono (by decide)) pass0 (a_var (pv 0)) (aa_cons (a_c (g_cint T.c_LEAVE rfl) (fun _ => .int _)) (aa_cons (a_c (g_cint T.c_ANSWER rfl) (fun _ => .int _)) (aa_cons a_int (aa_cons a_int aa_nil))))))))))))), ?_⟩
    have hc := Z.k_Compiler.cl
    have n7 := Z.a_Compiler_halt_place
    have n8 := Z.a_Compiler_leave_place
    walk_at "rd"
    refine ⟨c, chk, A, s, M0, rfl, rfl, ?_⟩
    walk_at "rd"
    refine ⟨c, chk, A, { s with halt := s.mem.length }, M0, 0, 0, 0, 0, rfl, rfl, by show s.mem.length ≤ _; omega, ?_⟩
    walk_at "rd"
    refine ⟨c, chk, A, { s with halt := s.mem.length, mem := s.mem ++ [0, 0, 0, 0] }, M0, rfl, rfl, ?_⟩
    rw [show ({ s with halt := s.mem.length, mem := s.mem ++ [0, 0, 0, 0] } : CS).mem.length = s.mem.length + 4 by show (s.mem ++ [0, 0, 0, 0]).length = _; rw [List.length_append]; rfl]
    walk_at "rd"
    refine ⟨c, chk, A, { s with halt := s.mem.length, leave := s.mem.length + 4, mem := s.mem ++ [0, 0, 0, 0] }, M0, 11, 7, 6, 0, rfl, rfl, by show (s.mem ++ [0, 0, 0, 0]).length ≤ _; rw [List.length_append]; show _ + 4 ≤ _; omega, ?_⟩
    walk_at "rd"
    exact ⟨c, chk, A, { s with halt := s.mem.length, leave := s.mem.length + 4, mem := s.mem ++ [0, 0, 0, 0] ++ [11, 7, 6, 0] }, M0, 16, 0, 0, 0, rfl, rfl, by show (s.mem ++ [0, 0, 0, 0] ++ [11, 7, 6, 0]).length ≤ _; rw [List.length_append, List.length_append]; show _ + 4 + 4 ≤ _; omega, k⟩
theorem ok_Compiler_add_beginning (T : Top w.params K mg) (Z : Txt K mg C) : MCal P w K mg base CX0 2 C.Compiler "add_beginning" ["self", "local_count"] (conSp K (sp_c_beg C)) := by
  refine met_A Z.m_Compiler_add_beginning sc_Compiler_add_beginning (fun _ _ _ _ _ _ us hl => match us, hl with | [_, _], _ => rfl) (fun ds M Q E h => ?_) (fun f cdv Ar outer s0 H E ds M Q EX hr h => ?_)
  · obtain ⟨c, chk, A, s, M0, nl, rfl, _⟩ := h
    rfl
  · obtain ⟨c, chk, A, s, M0, nl, rfl, rfl, ht, hnl, hl, k⟩ := h
    refine ⟨_, (as_cons (as_set (ps_set (i := 2) sc_Compiler_add_beginning.nd rfl (by first | exact Or.inl rfl | exact Or.inr rfl) (a_fld (K := K) (a_fld (K := K) (a_var (pv 0))))))
  (as_cons (as_set (ps_set (i := 3) sc_Compiler_add_beginning.nd rfl (by first | exact Or.inl rfl | exact Or.inr rfl) (a_ifExp (a_tcmp o_le (a_fld (K := K) (a_var (pv 0))) (a_var (pv 2)) (nomark _)) (a_op (o_add (K := K)) (a_op o_sub (a_op (o_add (K := K)) (a_fld (K := K) (a_var (pv 0))) (a_var (pv 2))) (a_fld (K := K) (a_var (pv 0)))) a_int) a_int)))
  (as_cons (as_drop (ps_expr (a_meth (g_meth (ok_Compiler_emit T Z) Z.k_Compiler.cl (hr.mono (by decide)) pass0 (a_var (pv 0)) (aa_cons (a_c (g_cint T.c_CONST rfl) (fun _ => .int _)) (aa_cons a_int (aa_cons (a_var (pv 3)) (aa_cons a_int aa_nil))))))))
  (as_cons (as_drop (ps_expr (a_meth (g_meth (ok_Compiler_emit T Z) Z.k_Compiler.cl (hr.mono (by decide)) pass0 (a_var (pv 0)) (aa_cons (a_call (g_call (ok_operator_number T Z) (hr.mono (by decide)) (by rfl) pass0 (aa_cons a_str aa_nil))) (aa_cons a_int (aa_cons (a_c (g_cint T.c_TOP rfl) (fun _ => .int _)) (aa_cons a_int aa_nil))))))))
  (as_cons (as_drop (ps_expr (a_meth (g_meth (ok_Compiler_emit T Z) Z.k_Compiler.cl (hr.mono (by decide)) pass0 (a_var (pv 0)) (aa_cons (a_c (g_cint T.c_JUMPZERO rfl) (fun _ => .int _)) (aa_cons a_int (aa_cons a_int (aa_cons (a_fld (K := K) (a_var (pv 0))) aa_nil))))))))
  (as_cons (as_drop (ps_expr (a_meth (g_meth (ok_Compiler_emit T Z) Z.k_Compiler.cl (hr.mono (by decide)) pass0 (a_var (pv 0)) (aa_cons (a_c (g_cint T.c_CONST rfl) (fun _ => .int _)) (aa_cons a_int (aa_cons (a_fld (K := K) (a_var (pv 0))) (aa_cons a_int aa_nil))))))))
  (as_cons (as_drop (ps_expr (a_meth (g_meth (ok_Compiler_emit T Z) Z.k_Compiler.cl (hr.mono (by decide)) pass0 (a_var (pv 0)) (aa_cons (a_call (g_call (ok_operator_number T Z) (hr.mono (by decide)) (by rfl) pass0 (aa_cons a_str aa_nil))) (aa_cons (a_c (g_cint T.c_TOP rfl) (fun _ => .int _)) (aa_cons (a_c (g_cint T.c_TOP rfl) (fun _ => .int _)) (aa_cons a_int aa_nil))))))))
  (as_cons (as_drop (ps_expr (a_meth (g_meth (ok_Compiler_emit T Z) Z.k_Compiler.cl (hr.mono (by decide)) pass0 (a_var (pv 0)) (aa_cons (a_c (g_cint T.c_STORE rfl) (fun _ => .int _)) (aa_cons (a_c (g_cint T.c_SPARE rfl) (fun _ => .int _)) (aa_cons (a_c (g_cint T.c_TOP rfl) (fun _ => .int _)) (aa_cons (a_meth0 (g_meth0 (ok_Compiler_caller_offset T Z) Z.k_Compiler.cl (hr.mono (by decide)) pass0 (a_var (pv 0)))) aa_nil))))))))
  (as_cons (as_drop (ps_expr (a_meth (g_meth (ok_Compiler_emit T Z) Z.k_Compiler.cl (hr.mono (by decide)) pass0 (a_var (pv 0)) (aa_cons (a_c (g_cint T.c_STORE rfl) (fun _ => .int _)) (aa_cons (a_c (g_cint T.c_ANSWER rfl) (fun _ => .int _)) (aa_cons (a_c (g_cint T.c_TOP rfl) (fun _ => .int _)) (aa_cons (a_meth (g_meth (ok_Compiler_local_offset T Z) Z.k_Compiler.cl (hr.mono (by decide)) pass0 (a_var (pv 0)) (aa_cons a_int aa_nil))) aa_nil))))))))
  (as_one (as_for (ps_for PassesOwn.never rfl (ai_r2 (pi_range2 rfl T.b_range (aa_cons a_int (aa_cons (a_var (pv 1)) aa_nil)))) (ag_name (pg_name (i := 4) sc_Compiler_add_beginning.nd rfl (by first | exact Or.inl rfl | exact Or.inr rfl)))
  (as_one (as_drop (ps_expr (a_meth (g_meth (ok_Compiler_emit T Z) Z.k_Compiler.cl (hr.mono (by decide)) pass0 (a_var (pv 0)) (aa_cons (a_c (g_cint T.c_STORE rfl) (fun _ => .int _)) (aa_cons (a_c (g_cint T.c_ZERO rfl) (fun _ => .int _)) (aa_cons (a_c (g_cint T.c_TOP rfl) (fun _ => .int _)) (aa_cons (a_meth (g_meth (ok_Compiler_local_offset T Z) Z.k_Compiler.cl (hr.mono (by decide)) pass0 (a_var (pv 0)) (aa_cons (a_var (pv 4)) aa_nil))) aa_nil))))))))))))))))))))), ?_⟩
    have hc := Z.k_Compiler.cl
    have hc2 := Z.k_Component.cl
    have n1 := Z.a_Compiler_component
    have n6 := Z.a_Compiler_first_frame
    have n7 := Z.a_Compiler_halt_place
    have n11 := Z.a_Compiler_taken
    have m1 := Z.a_Component_room
    unfold begW at hl k
    dsimp only [CS.gx] at hl k
    rw [List.length_append, List.length_append, List.length_append, List.length_append, List.length_append, List.length_append, List.length_append, flat4_len] at hl
    have hl : s.mem.length + (4 + 4 + 4 + 4 + 4 + 4 + 4 + 4 * (nl - 1)) ≤ 900000 := hl
    obtain ⟨lim, elim, k⟩ : ∃ lim, (lim = if s.taken ≤ c.room then s.ff + c.room - s.taken + 1 else 0) ∧ Q .non (ccM C c chk A (s.add ([1, 1, lim, 0] ++ [8, 1, 7, 1] ++ [13, 1, 0, s.halt] ++ [1, 1, s.taken, 0] ++ [3, 7, 7, 1] ++ [11, 5, 7, offC s.taken] ++ [11, 0, 7, offL s.taken 0] ++ ((List.range (nl - 1)).map fun i => [11, 6, 7, offL s.taken (1 + i)]).flatten)) M0) := ⟨_, rfl, k⟩
    walk_at "rd"
    refine G.i_d (fun q => ?_) (fun q => ?_)
    all_goals
      first
        | (rw [if_pos (by omega)] at elim
           walk_at "rd"
           rw [show (s.ff : Int) + (c.room : Int) - (s.taken : Int) + 1 = ((lim : Nat) : Int) by omega])
        | (rw [if_neg (by omega)] at elim
           walk_at "rd")
      refine ⟨c, chk, A, s, M0, 1, 1, lim, 0, (by first | rfl | (rw [elim]; rfl)), rfl, by omega, ?_⟩
      walk_at "rd"
      refine ⟨_, rfl, by decide, ?_⟩
      walk_at "rd"
      refine ⟨c, chk, A, s.add [1, 1, lim, 0], M0, 8, 1, 7, 1, rfl, rfl, by rw [add_len]; show _ + 4 ≤ _; omega, ?_⟩
      walk_at "rd"
      refine ⟨c, chk, A, (s.add [1, 1, lim, 0]).add [8, 1, 7, 1], M0, 13, 1, 0, s.halt, rfl, rfl, by rw [add_len, add_len]; show _ + 4 + 4 ≤ _; omega, ?_⟩
      walk_at "rd"
      refine ⟨c, chk, A, ((s.add [1, 1, lim, 0]).add [8, 1, 7, 1]).add [13, 1, 0, s.halt], M0, 1, 1, s.taken, 0, rfl, rfl, by rw [add_len, add_len, add_len]; show _ + 4 + 4 + 4 ≤ _; omega, ?_⟩
      walk_at "rd"
      refine ⟨_, rfl, by decide, ?_⟩
      walk_at "rd"
      refine ⟨c, chk, A, (((s.add [1, 1, lim, 0]).add [8, 1, 7, 1]).add [13, 1, 0, s.halt]).add [1, 1, s.taken, 0], M0, 3, 7, 7, 1, rfl, rfl, by rw [add_len, add_len, add_len, add_len]; show _ + 4 + 4 + 4 + 4 ≤ _; omega, ?_⟩
      walk_at "rd"
      refine ⟨c, chk, A, ((((s.add [1, 1, lim, 0]).add [8, 1, 7, 1]).add [13, 1, 0, s.halt]).add [1, 1, s.taken, 0]).add [3, 7, 7, 1], M0, rfl, rfl, ht, ?_⟩
      walk_at "rd"
      refine ⟨c, chk, A, ((((s.add [1, 1, lim, 0]).add [8, 1, 7, 1]).add [13, 1, 0, s.halt]).add [1, 1, s.taken, 0]).add [3, 7, 7, 1], M0, 11, 5, 7, offC s.taken, rfl, rfl, by rw [add_len, add_len, add_len, add_len, add_len]; show _ + 4 + 4 + 4 + 4 + 4 ≤ _; omega, ?_⟩
      walk_at "rd"
      refine ⟨c, chk, A, (((((s.add [1, 1, lim, 0]).add [8, 1, 7, 1]).add [13, 1, 0, s.halt]).add [1, 1, s.taken, 0]).add [3, 7, 7, 1]).add [11, 5, 7, offC s.taken], M0, 0, rfl, rfl, ht, ?_⟩
      walk_at "rd"
      refine ⟨c, chk, A, (((((s.add [1, 1, lim, 0]).add [8, 1, 7, 1]).add [13, 1, 0, s.halt]).add [1, 1, s.taken, 0]).add [3, 7, 7, 1]).add [11, 5, 7, offC s.taken], M0, 11, 0, 7, offL s.taken 0, rfl, rfl, by rw [add_len, add_len, add_len, add_len, add_len, add_len]; show _ + 4 + 4 + 4 + 4 + 4 + 4 ≤ _; omega, ?_⟩
      rw [show ((((((s.add [1, 1, lim, 0]).add [8, 1, 7, 1]).add [13, 1, 0, s.halt]).add [1, 1, s.taken, 0]).add [3, 7, 7, 1]).add [11, 5, 7, offC s.taken]).add [11, 0, 7, offL s.taken 0] = s.add ([1, 1, lim, 0] ++ [8, 1, 7, 1] ++ [13, 1, 0, s.halt] ++ [1, 1, s.taken, 0] ++ [3, 7, 7, 1] ++ [11, 5, 7, offC s.taken] ++ [11, 0, 7, offL s.taken 0]) by unfold CS.add; simp only [List.append_assoc]]
      have hW : ([1, 1, lim, 0] ++ [8, 1, 7, 1] ++ [13, 1, 0, s.halt] ++ [1, 1, s.taken, 0] ++ [3, 7, 7, 1] ++ [11, 5, 7, offC s.taken] ++ [11, 0, 7, offL s.taken 0]).length = 28 := rfl
      generalize [1, 1, lim, 0] ++ [8, 1, 7, 1] ++ [13, 1, 0, s.halt] ++ [1, 1, s.taken, 0] ++ [3, 7, 7, 1] ++ [11, 5, 7, offC s.taken] ++ [11, 0, 7, offL s.taken 0] = W at k hW ⊢
      walk_at "rd"
      refine f_rng (fun i xs M' => ∃ v4, xs = [some (.r A.P), some (natD nl), some (natD c.room), some (natD lim), v4] ∧ M' = ccM C c chk A (s.add (W ++ ((List.range i).map fun i => [11, 6, 7, offL s.taken (1 + i)]).flatten)) M0) ⟨_, (by first | rfl | (rw [elim]; rfl)), by simp⟩ ?_ ?_
      · rintro i xs M hi ⟨v4, rfl, rfl⟩
        have hi : i < nl - 1 := by omega
        rw [begW_snoc (X := s.gx c chk), ← add_add (s := s) (a := W ++ ((List.range i).map fun i => [11, 6, 7, offL s.taken (1 + i)]).flatten)]
        have hfl := flat4_len (tk := s.taken) i
        generalize ((List.range i).map fun i => [11, 6, 7, offL s.taken (1 + i)]).flatten = V at *
        walk_at "rd"
        refine ⟨c, chk, A, s.add (W ++ V), M0, 1 + i, by simp, rfl, ht, ?_⟩
        walk_at "rd"
        refine ⟨c, chk, A, s.add (W ++ V), M0, 11, 6, 7, offL s.taken (1 + i), rfl, rfl, by rw [add_len, List.length_append]; omega, ?_⟩
        walk_at "rd"
        exact ⟨_, rfl, rfl⟩
      · rintro xs M ⟨v4, rfl, rfl⟩
        rw [show ((nl : Int) - 1).toNat = nl - 1 by omega]
        walk_at "rd"
        exact k
end



/-! ### procedures, links, the whole -/
theorem procC_eq {c : Cm} {chk : Bool} {s : CS} {p : Nat × List St} {b : Bool} {e G : List Nat} {Y : List (Nat × Nat)} (he : (if b = true then expW (s.gx c chk) else []) = e)
    (hG : genB (s.gx c chk) (p.1 + 2) p.2 (s.mem.length + e.length + (begW (s.gx c chk) (p.1 + 2) p.1).length) = G) (hY : callB (s.gx c chk) (p.1 + 2) p.2 (s.mem.length + e.length + (begW (s.gx c chk) (p.1 + 2) p.1).length) = Y) :
    procC c chk s p b = { s with taken := p.1 + 2, ents := if b = true then s.ents ++ [s.mem.length] else s.ents, starts := s.starts ++ [s.mem.length + e.length], mem := s.mem ++ e ++ begW (s.gx c chk) (p.1 + 2) p.1 ++ G ++ [1, 0, 0, 0] ++ endW (p.1 + 2), calls := s.calls ++ Y } := by
  subst he hG hY
  rfl
theorem link_len {st : List Nat} : ∀ (l : List (Nat × Nat)) (m : List Nat), (l.foldl (fun m q => m.set q.1 (st.getD q.2 0)) m).length = m.length
  | [], m => rfl
  | q :: l, m => by rw [List.foldl_cons, link_len l, List.length_set]
def sp_comp (C : Cs) (n : Nat) (K : PySem.W.Frag) : ASp := fun ds M Q E => ∃ (c : Cm) (e ni : Nat) (ex : Nat) (chk : Bool), ds = [Cm.d C c, natD ex, .bl chk] ∧ n ≤ 6 ∧ c.ok n e ni ∧ (∀ q ∈ c.procs, stsCnt q.2 ≤ 20000) ∧ (compS c ex chk).mem.length ≤ 800000 ∧
  ((compS c ex chk).mem.length ≤ 60000 → Q (cdD C (compC c ex chk)) M) ∧ (60000 < (compS c ex chk).mem.length → ∀ M', Gone K M' M → E C.TooLarge [("what", .str "memory")] M')
def sp_Co_initG (C : Cs) : ASp := fun ds M Q _ => ∃ (x : Addr) (M0 : Mem) (c : Cd) (y1 y2 : D), ds = [.r x, y1, y2] ∧ M = (x, .ins C.Code []) :: M0 ∧ Sq M y1 (c.1.map natD) ∧ Sq M y2 (c.2.map natD) ∧ c.1.length ≤ 1000000 ∧ c.2.length ≤ 1000 ∧
  (∀ fs, Sq ((x, .ins C.Code fs) :: M0) y2 (c.2.map natD)) ∧ Q .non ((x, .ins C.Code [("memory", .tup (c.1.map natD)), ("entries", .tup (c.2.map natD))]) :: M0)
section
variable {P : Program} {w : World} {K : PySem.W.Frag} {mg : Str → Option Value} {base : Heap} {C : Cs}
theorem ok_TooLarge_init (T : Top w.params K mg) (Z : Txt K mg C) : MCal P w K mg base CX0 1 C.TooLarge "__init__" ["self", "what"] (spExI C.TooLarge "what") := by
  refine met_ok Z.m_TooLarge_init sc_TooLarge_init (fun _ _ _ _ _ _ us hl => match us, hl with | [_, _], _ => rfl) (fun vs H Q E h => ?_) (fun f cdv A outer s H vs Q E hr h => ?_)
  · obtain ⟨a, v, rfl, _⟩ := h
    rfl
  · refine ⟨_, (pss_cons (ps_expr (pe_binit (K := K) rfl Z.b_BlameError Z.n_BlameError (by rfl) (pa_cons (pv 0) (pa_cons (pe_joined (PJ.cons pe_str (PJ.cons (pe_fmt (pv 1)) PJ.nil))) pa_nil))))
  (pss_one (ost_K (ps_ost (pv 0) (pv 1))))), ?_⟩
    exact exinit_reads Z.e_TooLarge Z.a_TooLarge_what h fun a v H R hv k => fmt2 (by decide) hv k
theorem ok_Code_initG (T : Top w.params K mg) (Z : Txt K mg C) : MCal P w K mg base (HX P w) 1 C.Code "__init__" ["self", "memory", "entries"] (conSp K (sp_Co_initG C)) := by
  refine met_AX Z.m_Code_init sc_Code_init (fun _ _ _ _ _ _ us hl => match us, hl with | [_, _, _], _ => rfl) (fun ds M Q E h => ?_) (fun f cdv Ar outer s0 H E ds M Q EX hr h => ?_)
  · obtain ⟨x, M0, c, y1, y2, rfl, _⟩ := h
    rfl
  · obtain ⟨x, M0, c, y1, y2, rfl, rfl, q1, q2, h1, h2, q3, k⟩ := h
    refine ⟨_, (as_cons (as_fld (K := K) (ps_fld (a_var (pv 0)) (a_callTy (o_tup (K := K)) (by rfl) T.b_tuple (by decide +kernel) (aa_cons (a_var (pv 1)) aa_nil)) rfl))
  (as_one (as_fld (K := K) (ps_fld (a_var (pv 0)) (a_callTy (o_tup (K := K)) (by rfl) T.b_tuple (by decide +kernel) (aa_cons (a_var (pv 2)) aa_nil)) rfl)))), ?_⟩
    have hc := Z.k_Code.cl
    have n1 := Z.a_Code_memory
    have n2 := Z.a_Code_entries
    have hz1 : (c.1.map natD).length < sizeLine := by rw [List.length_map, line_val]; omega
    have hz2 : (c.2.map natD).length < sizeLine := by rw [List.length_map, line_val]; omega
    walk_at "rd"
    have q4 := q3 [("memory", .tup (c.1.map natD))]
    walk_at "rd"
    exact k
theorem ok_Compiler_add_procedure (T : Top w.params K mg) (Z : Txt K mg C) (n : Nat) : MCal P w K mg base CX0 (3 * n + 11) C.Compiler "add_procedure" ["self", "number", "is_exported"] (conSp K (sp_c_proc C n)) := by
  refine met_A (k := 3 * n + 10) Z.m_Compiler_add_procedure sc_Compiler_add_procedure (fun _ _ _ _ _ _ us hl => match us, hl with | [_, _, _], _ => rfl) (fun ds M Q E h => ?_) (fun f cdv Ar outer s0 H E ds M Q EX hr h => ?_)
  · obtain ⟨c, chk, A, s, M0, ex, ni, i, p, b, rfl, _⟩ := h
    rfl
  · obtain ⟨c, chk, A, s, M0, ex, ni, i, p, b, rfl, rfl, ok, hp, ci, hl, k⟩ := h
    refine ⟨_, (as_cons (as_set (ps_set (i := 3) sc_Compiler_add_procedure.nd rfl (by first | exact Or.inl rfl | exact Or.inr rfl) (a_ix (o_ix (K := K)) (a_fld (K := K) (a_fld (K := K) (a_var (pv 0)))) (a_var (pv 1)) (fun _ _ => rfl))))
  (as_cons (as_fld (K := K) (ps_fld (a_var (pv 0)) (a_call (g_call (ok_room_of T) (hr.mono (by omega)) (by rfl) pass0 (aa_cons (a_var (pv 3)) aa_nil))) rfl))
  (as_cut (as_if (a_truth (K := K) (a_var (pv 2)) (by intro _; rfl))
  (as_cons (as_drop (ps_expr (a_bm o_app (pe_bm PySem.F.plainAttrs_list PySem.F.slot_list_append PySem.F.type_list_append mt_append (a_fld (K := K) (a_var (pv 0))) (aa_cons (a_meth0 (g_meth0 (ok_Compiler_here T Z) Z.k_Compiler.cl (hr.mono (by omega)) pass0 (a_var (pv 0)))) aa_nil)))))
    (as_cons (as_drop (ps_expr (a_meth (g_meth (ok_Compiler_emit T Z) Z.k_Compiler.cl (hr.mono (by omega)) pass0 (a_var (pv 0)) (aa_cons (a_c (g_cint T.c_LOAD rfl) (fun _ => .int _)) (aa_cons (a_c (g_cint T.c_TOP rfl) (fun _ => .int _)) (aa_cons (a_c (g_cint T.c_ZERO rfl) (fun _ => .int _)) (aa_cons (a_c (g_cint T.c_TOP_CELL rfl) (fun _ => .int _)) aa_nil))))))))
    (as_one (as_drop (ps_expr (a_meth (g_meth (ok_Compiler_emit T Z) Z.k_Compiler.cl (hr.mono (by omega)) pass0 (a_var (pv 0)) (aa_cons (a_c (g_cint T.c_CONST rfl) (fun _ => .int _)) (aa_cons (a_c (g_cint T.c_SPARE rfl) (fun _ => .int _)) (aa_cons (a_fld (K := K) (a_var (pv 0))) (aa_cons a_int aa_nil)))))))))))
  as_nil)
  (as_cons (as_drop (ps_expr (a_bm o_app (pe_bm PySem.F.plainAttrs_list PySem.F.slot_list_append PySem.F.type_list_append mt_append (a_fld (K := K) (a_var (pv 0))) (aa_cons (a_meth0 (g_meth0 (ok_Compiler_here T Z) Z.k_Compiler.cl (hr.mono (by omega)) pass0 (a_var (pv 0)))) aa_nil)))))
  (as_cons (as_drop (ps_expr (a_meth (g_meth (ok_Compiler_add_beginning T Z) Z.k_Compiler.cl (hr.mono (by omega)) pass0 (a_var (pv 0)) (aa_cons (a_ix (o_ix (K := K)) (a_var (pv 3)) a_int (fun _ _ => rfl)) aa_nil)))))
  (as_cons (as_drop (ps_expr (a_meth (g_meth (ok_add_block T Z n) Z.k_Compiler.cl (hr.mono (by omega)) pass0 (a_var (pv 0)) (aa_cons (a_ix (o_ix (K := K)) (a_var (pv 3)) a_int (fun _ _ => rfl)) aa_nil)))))
  (as_cons (as_drop (ps_expr (a_meth (g_meth (ok_Compiler_emit T Z) Z.k_Compiler.cl (hr.mono (by omega)) pass0 (a_var (pv 0)) (aa_cons (a_c (g_cint T.c_CONST rfl) (fun _ => .int _)) (aa_cons (a_c (g_cint T.c_ANSWER rfl) (fun _ => .int _)) (aa_cons a_int (aa_cons a_int aa_nil))))))))
  (as_one (as_drop (ps_expr (a_meth0 (g_meth0 (ok_Compiler_add_ending T Z) Z.k_Compiler.cl (hr.mono (by omega)) pass0 (a_var (pv 0)))))))))))))), ?_⟩
    have hc := Z.k_Compiler.cl
    have hc2 := Z.k_Component.cl
    have n1 := Z.a_Compiler_component
    have n4 := Z.a_Compiler_entries
    have n8 := Z.a_Compiler_leave_place
    have n9 := Z.a_Compiler_starts
    have n11 := Z.a_Compiler_taken
    have m3 := Z.a_Component_procedures
    have hil := (List.getElem?_eq_some_iff.mp hp).1
    have hnp := ok.np
    obtain ⟨hp1, hpl, hps⟩ := ok.proc p (List.mem_of_getElem? hp)
    have ap : atI (c.procs.map procD) (i : Int) = some (procD p) := at_map hp
    obtain ⟨e, he⟩ : ∃ e, (if b = true then expW (s.gx c chk) else []) = e := ⟨_, rfl⟩
    have hel : e.length ≤ 8 := by rw [← he]; split <;> simp [expW]
    obtain ⟨G, hG⟩ : ∃ G, genB (s.gx c chk) (p.1 + 2) p.2 (s.mem.length + e.length + (begW (s.gx c chk) (p.1 + 2) p.1).length) = G := ⟨_, rfl⟩
    obtain ⟨Y, hY⟩ : ∃ Y, callB (s.gx c chk) (p.1 + 2) p.2 (s.mem.length + e.length + (begW (s.gx c chk) (p.1 + 2) p.1).length) = Y := ⟨_, rfl⟩
    rw [procC_eq he hG hY] at hl k
    obtain ⟨Bg, hB⟩ : ∃ Bg, begW (s.gx c chk) (p.1 + 2) p.1 = Bg := ⟨_, rfl⟩
    rw [hB] at hl k hG hY
    have hl : (s.mem ++ e ++ Bg ++ G ++ [1, 0, 0, 0] ++ endW (p.1 + 2)).length ≤ 900000 := hl
    simp only [List.length_append] at hl
    have hl : s.mem.length + e.length + Bg.length + G.length + 4 + 16 ≤ 900000 := hl
    have hz1 : (s.ents.map natD).length < sizeLine := by rw [List.length_map, line_val]; have := ci.en; omega
    have hz2 : (s.starts.map natD).length < sizeLine := by rw [List.length_map, line_val]; have := ci.st; omega
    walk_at "rd"
    refine ⟨p.1, .tup (p.2.map St.d), rfl, ?_⟩
    walk_at "rd"
    refine s_cut (fun xs M' => xs = [some (.r A.P), some (natD i), some (.bl b), some (procD p)] ∧ M' = ccM C c chk A { s with taken := p.1 + 2, ents := if b = true then s.ents ++ [s.mem.length] else s.ents, mem := s.mem ++ e } M0) ?_ ?_
    · cases b with
      | false =>
        walk_at "rd"
        refine ⟨rfl, ?_⟩
        rw [← he]
        unfold ccM
        rw [if_neg Bool.false_ne_true, if_neg Bool.false_ne_true, List.append_nil]
      | true =>
        walk_at "rd"
        refine ⟨c, chk, A, { s with taken := p.1 + 2 }, M0, rfl, rfl, ?_⟩
        walk_at "rd"
        rw [show s.ents.map natD ++ [natD s.mem.length] = (s.ents ++ [s.mem.length]).map natD by rw [List.map_append]; rfl]
        refine ⟨c, chk, A, { s with taken := p.1 + 2, ents := s.ents ++ [s.mem.length] }, M0, 10, 7, 6, 0, rfl, rfl, by show s.mem.length ≤ _; omega, ?_⟩
        walk_at "rd"
        refine ⟨c, chk, A, { s with taken := p.1 + 2, ents := s.ents ++ [s.mem.length], mem := s.mem ++ [10, 7, 6, 0] }, M0, 1, 5, s.leave, 0, rfl, rfl, by show (s.mem ++ [10, 7, 6, 0]).length ≤ _; rw [List.length_append]; show _ + 4 ≤ _; omega, ?_⟩
        walk_at "rd"
        refine ⟨rfl, ?_⟩
        rw [← he]
        unfold ccM
        rw [if_pos rfl, if_pos rfl]
        unfold expW
        rw [← List.append_assoc]
        rfl
    rintro xs M ⟨rfl, rfl⟩
    obtain ⟨s1, hs1⟩ : ∃ s1 : CS, s1 = { s with taken := p.1 + 2, ents := if b = true then s.ents ++ [s.mem.length] else s.ents, mem := s.mem ++ e } := ⟨_, rfl⟩
    have k1 : s1.starts = s.starts := by rw [hs1]
    have k2 : s1.mem.length = s.mem.length + e.length := by rw [hs1]; show (s.mem ++ e).length = _; rw [List.length_append]
    have k3 : s1.gx c chk = s.gx c chk := by rw [hs1]; rfl
    have k4 : s1.taken = p.1 + 2 := by rw [hs1]
    have k5 : s1.calls = s.calls := by rw [hs1]
    have k6 : s1.bpl = s.bpl := by rw [hs1]
    rw [← hs1]
    rw [show ({ s with taken := p.1 + 2, ents := if b = true then s.ents ++ [s.mem.length] else s.ents, starts := s.starts ++ [s.mem.length + e.length], mem := s.mem ++ e ++ Bg ++ G ++ [1, 0, 0, 0] ++ endW (p.1 + 2), calls := s.calls ++ Y } : CS) = { s1 with starts := s1.starts ++ [s1.mem.length], mem := s1.mem ++ Bg ++ G ++ [1, 0, 0, 0] ++ endW (p.1 + 2), calls := s1.calls ++ Y } by rw [k2, hs1]] at k
    have hz2 : (s1.starts.map natD).length < sizeLine := by rw [k1]; exact hz2
    walk_at "rd"
    refine ⟨c, chk, A, s1, M0, rfl, rfl, ?_⟩
    walk_at "rd"
    rw [show s1.starts.map natD ++ [natD s1.mem.length] = (s1.starts ++ [s1.mem.length]).map natD by rw [List.map_append]; rfl]
    obtain ⟨s2, hs2⟩ : ∃ s2 : CS, s2 = { s1 with starts := s1.starts ++ [s1.mem.length] } := ⟨_, rfl⟩
    have j2 : s2.mem.length = s.mem.length + e.length := by rw [hs2]; exact k2
    have j3 : s2.gx c chk = s.gx c chk := by rw [hs2]; exact k3
    have j4 : s2.taken = p.1 + 2 := by rw [hs2]; exact k4
    have j5 : s2.calls = s.calls := by rw [hs2]; exact k5
    have j6 : s2.bpl = s.bpl := by rw [hs2]; exact k6
    have jB : begW (s2.gx c chk) s2.taken p.1 = Bg := by rw [j3, j4, hB]
    rw [show ({ s1 with starts := s1.starts ++ [s1.mem.length], mem := s1.mem ++ Bg ++ G ++ [1, 0, 0, 0] ++ endW (p.1 + 2), calls := s1.calls ++ Y } : CS) = ((((s2.add Bg).ext G Y).add [1, 0, 0, 0]).add (endW s2.taken)) by rw [j4, hs2]] at k
    refine ⟨c, chk, A, s2, M0, p.1, rfl, by rw [hs2], by rw [j4]; omega, by omega, by rw [jB, j2]; omega, ?_⟩
    rw [jB]
    walk_at "rd"
    refine ⟨c, chk, A, s2.add Bg, M0, _, p.2, s.mem.length + e.length + Bg.length, by rw [stsD_map], rfl, hps, rfl, ⟨by show s2.bpl.length = _; rw [j6]; exact ci.bp, by show s2.taken ≤ _; rw [j4]; omega⟩, ?_, by rw [add_len, j2], ?_, ?_⟩
    · show s2.calls.length ≤ _
      rw [j5, add_len, j2]
      have := ci.cl
      omega
    · show _ + (genB (s2.gx c chk) s2.taken p.2 _).length ≤ _
      rw [j3, j4, hG]
      omega
    rw [show (s2.add Bg).gx c chk = s2.gx c chk from rfl, show (s2.add Bg).taken = s2.taken from rfl, j3, j4, hG, hY]
    walk_at "rd"
    refine ⟨c, chk, A, (s2.add Bg).ext G Y, M0, 1, 0, 0, 0, rfl, rfl, by rw [ext_len, add_len, j2]; omega, ?_⟩
    walk_at "rd"
    exact ⟨c, chk, A, ((s2.add Bg).ext G Y).add [1, 0, 0, 0], M0, rfl, rfl, by show s2.taken ≤ _; rw [j4]; omega, by rw [add_len, ext_len, add_len, j2]; show _ + _ + _ + _ + 4 + 16 ≤ _; omega, k⟩
theorem ok_Compiler_link_calls (T : Top w.params K mg) (Z : Txt K mg C) : MCal P w K mg base CX0 1 C.Compiler "link_calls" ["self"] (conSp K (sp_c_link C)) := by
  refine met_A Z.m_Compiler_link_calls sc_Compiler_link_calls (fun _ _ _ _ _ _ us hl => match us, hl with | [_], _ => rfl) (fun ds M Q E h => ?_) (fun f cdv Ar outer s0 H E ds M Q EX hr h => ?_)
  · obtain ⟨c, chk, A, s, M0, i, rfl, _⟩ := h
    rfl
  · obtain ⟨c, chk, A, s, M0, i, rfl, rfl, ci, rfl, hl, k⟩ := h
    refine ⟨_, (as_one (as_forO (ps_for PassesOwn.never rfl (ai_ofO (g_it (K := K) (a_fld (K := K) (a_var (pv 0))))) (ag_tup (K := K) (n := 2) rfl (ags_cons (ag_name (pg_name (i := 1) sc_Compiler_link_calls.nd rfl (by first | exact Or.inl rfl | exact Or.inr rfl))) (ags_cons (ag_name (pg_name (i := 2) sc_Compiler_link_calls.nd rfl (by first | exact Or.inl rfl | exact Or.inr rfl))) ags_nil)))
  (as_one (as_asg (ps_asg (a_ix (o_ix (K := K)) (a_fld (K := K) (a_var (pv 0))) (a_var (pv 2)) (fun _ _ => rfl)) (ag_sub (pg_sub (a_fld (K := K) (a_var (pv 0))) (a_var (pv 1)) set_list)))))))), ?_⟩
    have hc := Z.k_Compiler.cl
    have n3 := Z.a_Compiler_memory
    have n9 := Z.a_Compiler_starts
    have n10 := Z.a_Compiler_calls
    walk_at "rd"
    refine f_allO (fun i xs M' => ∃ v1 v2, xs = [some (.r A.P), v1, v2] ∧ M' = ccM C c chk A { s with mem := (s.calls.take i).foldl (fun m q => m.set q.1 (s.starts.getD q.2 0)) s.mem } M0) ⟨_, _, rfl, rfl⟩ (fun i xs M ⟨v1, v2, _, e⟩ => by rw [e]; exact ⟨_, .tl .hd⟩) ?_ ?_
    · rintro i d xs M hd ⟨v1, v2, rfl, rfl⟩
      obtain ⟨q, hq, rfl⟩ := map_get hd
      obtain ⟨h1, h2⟩ := ci.ca q (List.mem_of_getElem? hq)
      have e1 : (s.calls.take (i + 1)).foldl (fun m q => m.set q.1 (s.starts.getD q.2 0)) s.mem = ((s.calls.take i).foldl (fun m q => m.set q.1 (s.starts.getD q.2 0)) s.mem).set q.1 (s.starts.getD q.2 0) := by
        rw [List.take_add_one, hq, Option.toList_some, List.foldl_append]; rfl
      have hml := link_len (st := s.starts) (s.calls.take i) s.mem
      rw [e1]
      generalize (s.calls.take i).foldl (fun m q => m.set q.1 (s.starts.getD q.2 0)) s.mem = m at hml ⊢
      have ast : atI (s.starts.map natD) (q.2 : Int) = some (natD (s.starts.getD q.2 0)) := at_map (by rw [List.getD_eq_getElem?_getD, List.getElem?_eq_getElem (by rw [ci.st]; exact h2)]; rfl)
      have hix : ixN (m.map natD).length (q.1 : Int) = some q.1 := ixN_ltG (by rw [List.length_map, hml]; exact h1)
      walk_at "rd"
      rw [← List.map_set]
      exact ⟨_, _, rfl, rfl⟩
    · rintro xs M ⟨v1, v2, rfl, rfl⟩
      rw [List.length_map, List.take_length]
      walk_at "rd"
      exact k
theorem gone6 {C : Cs} {c : Cm} {chk : Bool} {A : CA} {s : CS} {M0 : Mem} : Gone K (ccM C c chk A s M0) M0 := (Gone.refl).hd.hd.hd.hd.hd.hd
theorem ok_compile_component (T : Top w.params K mg) (Z : Txt K mg C) (n : Nat) : CalD P w K mg base (HX P w) (3 * n + 12) "compile_component" 2 ["component", "exported", "checked"] [("checked", .bl false)] (conSp K (sp_comp C n K)) := by
  refine def_AXD (k := 3 * n + 11) T.f_compile_component sc_compile_component 2 (by simp) rfl (fun D doc pm an cdv ct us ks h1 h2 => ?_) (fun kV doc pm an cdv ct us ws h1 h2 => ?_) (fun ds M Q E h => ?_) (fun f cdv Ar outer s0 H E ds M Q EX hr h => ?_)
  · match us, ks, h1, h2 with
    | [a, b], [u], _, _ => exact ⟨_, _, _, _, _, _, rfl, rfl, rfl⟩
  · match us, ws, h1, h2 with
    | [a, b], [u], _, _ => rfl
  · obtain ⟨c, e, ni, ex, chk, rfl, _⟩ := h
    rfl
  · obtain ⟨c, e, ni, ex, chk, rfl, hn, ok, hcn, hsz, k1, k2⟩ := h
    refine ⟨_, (as_cons (as_set (ps_set (i := 3) sc_compile_component.nd rfl (by first | exact Or.inl rfl | exact Or.inr rfl) (a_mk finIO_ok (g_makeX Z.k_Compiler (ok_Compiler_init T Z) (hr.mono (by omega)) (by rfl) Z.n_Compiler (takesE rfl rfl rfl rfl) (aa_cons (a_var (pv 0)) (aa_cons (a_var (pv 2)) aa_nil))))))
  (as_cons (as_drop (ps_expr (a_meth0 (g_meth0 (ok_Compiler_add_data T Z) Z.k_Compiler.cl (hr.mono (by omega)) pass0 (a_var (pv 3))))))
  (as_cons (as_drop (ps_expr (a_meth0 (g_meth0 (ok_Compiler_add_exits T Z) Z.k_Compiler.cl (hr.mono (by omega)) pass0 (a_var (pv 3))))))
  (as_cons (as_for (ps_for (passes_of rfl) rfl (ai_r1 (pi_range1 rfl T.b_range (aa_cons (a_callB (o_len (K := K)) (by rfl) T.b_len PySem.boot_len (aa_cons (a_fld (K := K) (a_var (pv 0))) aa_nil)) aa_nil))) (ag_name (pg_name (i := 4) sc_compile_component.nd rfl (by first | exact Or.inl rfl | exact Or.inr rfl)))
  (as_one (as_drop (ps_expr (a_meth (g_meth (ok_Compiler_add_procedure T Z n) Z.k_Compiler.cl (hr.mono (by omega)) pass0 (a_var (pv 3)) (aa_cons (a_var (pv 4)) (aa_cons (a_cmp o_lt (a_var (pv 4)) (a_var (pv 1)) (nomark _)) aa_nil)))))))))
  (as_cons (as_drop (ps_expr (a_meth0 (g_meth0 (ok_Compiler_link_calls T Z) Z.k_Compiler.cl (hr.mono (by omega)) pass0 (a_var (pv 3))))))
  (as_cons (as_if (a_tcmp o_gt (a_callB (o_len (K := K)) (by rfl) T.b_len PySem.boot_len (aa_cons (a_fld (K := K) (a_var (pv 3))) aa_nil)) (a_c (g_cint T.c_MOST_MEMORY rfl) (fun _ => .int _)) (nomark _))
  (as_one (as_raise (g_raiseN rfl (takesE rfl rfl rfl rfl) (g_mkexN Z.n_TooLarge Z.e_TooLarge (ok_TooLarge_init T Z) (hr.mono (by omega)) (by rfl) (aa_cons a_str aa_nil)))))
  as_nil)
  (as_one (as_ret (ps_ret (a_mk finID_ok (g_makeX Z.k_Code (ok_Code_initG T Z) (hr.mono (by omega)) (by rfl) Z.n_Code (takesE rfl rfl rfl rfl) (aa_cons (a_fld (K := K) (a_var (pv 3))) (aa_cons (a_fld (K := K) (a_var (pv 3))) aa_nil))))))))))))), ?_⟩
    have hc := Z.k_Compiler.cl
    have hc2 := Z.k_Component.cl
    have n3 := Z.a_Compiler_memory
    have n4 := Z.a_Compiler_entries
    have m3 := Z.a_Component_procedures
    have hnp := ok.np
    have hdl := data_len ok
    walk_at "rd"
    intro x
    refine ⟨c, chk, x, _, rfl, rfl, fun A hA => ?_⟩
    subst hA
    refine ⟨rfl, ?_⟩
    walk_at "rd"
    refine ⟨c, chk, A, _, n, e, ni, rfl, rfl, hn, ok, hcn, fun a => ?_⟩
    walk_at "rd"
    refine ⟨c, chk, { A with Mm := a }, dataC c, M, rfl, rfl, by omega, ?_⟩
    walk_at "rd"
    refine f_rng (fun i xs M' => ∃ v3, xs = [some (Cm.d C c), some (natD ex), some (.bl chk), some (.r A.P), v3] ∧ M' = ccM C c chk { A with Mm := a } (procsC c chk ex (exitC (dataC c)) (c.procs.take i) 0) M) ⟨_, rfl, rfl⟩ ?_ ?_
    · rintro i xs M' hi ⟨v3, rfl, rfl⟩
      have hi : i < c.procs.length := by rw [List.length_map] at hi; omega
      have hp : c.procs[i]? = some c.procs[i] := List.getElem?_eq_getElem hi
      have ci := CI.all (c := c) (chk := chk) (e := ex) ok i (by omega)
      have e1 : procsC c chk ex (exitC (dataC c)) (c.procs.take (i + 1)) 0 = procC c chk (procsC c chk ex (exitC (dataC c)) (c.procs.take i) 0) c.procs[i] (decide (i < ex)) := by
        rw [List.take_add_one, hp, Option.toList_some, procsC_app, procsC, procsC, List.length_take, Nat.min_eq_left (by omega), Nat.zero_add]
      have e2 : (procsC c chk ex (exitC (dataC c)) (c.procs.take (i + 1)) 0).mem.length ≤ (compS c ex chk).mem.length := by
        unfold compS
        have := procsC_app c chk ex (ys := c.procs.drop (i + 1)) (c.procs.take (i + 1)) (exitC (dataC c)) 0
        rw [List.take_append_drop] at this
        rw [this]
        exact procsC_len c chk ex _ _ _
      rw [e1] at e2
      rw [e1]
      walk_at "rd"
      refine ⟨c, chk, { A with Mm := a }, _, M, e, ni, i, c.procs[i], decide (i < ex), ?_, rfl, ok, hp, ci, by omega, ?_⟩
      · rw [show decide ((i : Int) < (ex : Int)) = decide (i < ex) from dec_congr ⟨fun q => by omega, fun q => by omega⟩]
      walk_at "rd"
      exact ⟨_, rfl, rfl⟩
    · rintro xs M' ⟨v3, rfl, rfl⟩
      have ci := CI.all (c := c) (chk := chk) (e := ex) ok c.procs.length (Nat.le_refl _)
      rw [List.take_length] at ci
      rw [List.length_map, Int.toNat_natCast, List.take_length]
      change CI c (compS c ex chk) _ at ci
      rw [show procsC c chk ex (exitC (dataC c)) c.procs 0 = compS c ex chk from rfl]
      have hll : (linkC (compS c ex chk)).length = (compS c ex chk).mem.length := link_len _ _
      have hce : compC c ex chk = (linkC (compS c ex chk), (compS c ex chk).ents) := rfl
      have hen : (compS c ex chk).ents.length ≤ 9 := by have := ci.en; omega
      rw [hce] at k1
      generalize compS c ex chk = s at *
      walk_at "rd"
      refine ⟨c, chk, { A with Mm := a }, s, M, _, rfl, rfl, ci, rfl, by omega, ?_⟩
      generalize linkC s = m at *
      walk_at "rd"
      rw [List.length_map]
      refine G.i_d (fun q => ?_) (fun q => ?_)
      all_goals dsimp only at q
      · walk_at "rd"
        exact ⟨_, rfl, show ("memory" : Str).length ≤ 1000 by decide, k2 (by omega) _ gone6⟩
      · walk_at "re"
        intro y
        refine ⟨y, _, (m, s.ents), .r a, .r A.En, rfl, rfl, .o (.tl .hd), .o (.tl (.tl (.tl (.tl (.tl .hd))))), by show m.length ≤ _; omega, by show s.ents.length ≤ _; omega, fun fs => .o (.tl (.tl (.tl (.tl (.tl .hd))))), ?_⟩
        refine ⟨rfl, _, _, .hd, ?_⟩
        exact .fz (gone6 _) (k1 (by omega))
end


/-! ### how large, which words -/
def Ex.wt : Ex → Nat
  | .num _ => 0
  | .loc _ => 0
  | .get _ e => 1 + e.wt
  | .op _ a b => 1 + a.wt + b.wt
mutual
def St.wt : St → Nat
  | .set _ e => 1 + e.wt
  | .put _ i e => 1 + i.wt + e.wt
  | .call _ _ e => 1 + e.wt
  | .use _ _ e => 1 + e.wt
  | .ifs t a b => 1 + t.wt + stsWt a + stsWt b
  | .wh t a => 1 + t.wt + stsWt a
  | .ret e => 1 + e.wt
def stsWt : List St → Nat
  | [] => 0
  | x :: xs => x.wt + stsWt xs
end
theorem stsWt_app {ys : List St} : ∀ xs : List St, stsWt (xs ++ ys) = stsWt xs + stsWt ys
  | [] => by simp [stsWt]
  | x :: xs => by rw [List.cons_append, stsWt, stsWt, stsWt_app xs]; omega
mutual
theorem cnt_wt : ∀ x : St, x.cnt ≤ x.wt
  | .set .. => by rw [St.cnt, St.wt]; omega
  | .put .. => by rw [St.cnt, St.wt]; omega
  | .call .. => by rw [St.cnt, St.wt]; omega
  | .use .. => by rw [St.cnt, St.wt]; omega
  | .ifs t a b => by rw [St.cnt, St.wt]; have := stsCnt_wt a; have := stsCnt_wt b; omega
  | .wh t a => by rw [St.cnt, St.wt]; have := stsCnt_wt a; omega
  | .ret .. => by rw [St.cnt, St.wt]; omega
theorem stsCnt_wt : ∀ xs : List St, stsCnt xs ≤ stsWt xs
  | [] => by rw [stsCnt, stsWt]; omega
  | x :: xs => by rw [stsCnt, stsWt]; have := cnt_wt x; have := stsCnt_wt xs; omega
end
theorem chkW_len (x : GX) (r b : Nat) : (chkW x r b).length ≤ 12 := by unfold chkW; split <;> simp
theorem genE_len (x : GX) (tk : Nat) : ∀ (e : Ex) (g : Nat), (genE x tk e g).length ≤ 20 * e.wt + 4
  | .num _, g => by rw [genE, Ex.wt]; simp
  | .loc _, g => by rw [genE, Ex.wt]; simp
  | .get b e, g => by
    rw [genE, Ex.wt]
    have := genE_len x tk e g
    have := chkW_len x (min g 4) b
    simp only [List.length_append, List.length_cons, List.length_nil]
    omega
  | .op z a b, g => by
    rw [genE, Ex.wt]
    have := genE_len x tk a g
    have := genE_len x tk b (g + 1)
    split <;> simp only [List.length_append, List.length_cons, List.length_nil] <;> omega
mutual
theorem genS_len (x : GX) (tk : Nat) : ∀ (s : St) (h : Nat), (genS x tk s h).length ≤ 24 * s.wt
  | .set l e, h => by
    rw [genS, St.wt]
    have := genE_len x tk e 0
    simp only [List.length_append, List.length_cons, List.length_nil]
    omega
  | .put b i e, h => by
    rw [genS, St.wt]
    have := genE_len x tk i 0
    have := genE_len x tk e 1
    have := chkW_len x 0 b
    simp only [List.length_append, List.length_cons, List.length_nil]
    omega
  | .call l p e, h => by
    rw [genS, St.wt]
    have := genE_len x tk e 0
    simp only [List.length_append, List.length_cons, List.length_nil]
    omega
  | .use l p e, h => by
    rw [genS, St.wt]
    have := genE_len x tk e 0
    simp only [List.length_append, List.length_cons, List.length_nil]
    omega
  | .ifs t a b, h => by
    rw [genS, St.wt]
    have := genE_len x tk t 0
    have := genB_len x tk a (h + (genE x tk t 0).length + 4)
    have := genB_len x tk b (h + (genE x tk t 0).length + 4 + (genB x tk a (h + (genE x tk t 0).length + 4)).length + 4)
    simp only [List.length_append, List.length_cons, List.length_nil]
    omega
  | .wh t a, h => by
    rw [genS, St.wt]
    have := genE_len x tk t 0
    have := genB_len x tk a (h + (genE x tk t 0).length + 4)
    simp only [List.length_append, List.length_cons, List.length_nil]
    omega
  | .ret e, h => by
    rw [genS, St.wt]
    have := genE_len x tk e 0
    unfold endW
    simp only [List.length_append, List.length_cons, List.length_nil]
    omega
theorem genB_len (x : GX) (tk : Nat) : ∀ (ss : List St) (h : Nat), (genB x tk ss h).length ≤ 24 * stsWt ss
  | [], h => by rw [genB]; simp
  | s :: ss, h => by
    rw [genB, stsWt, List.length_append]
    have := genS_len x tk s h
    have := genB_len x tk ss (h + (genS x tk s h).length)
    omega
end
theorem begW_len (x : GX) (tk nl : Nat) : (begW x tk nl).length = 28 + 4 * (nl - 1) := by
  unfold begW
  rw [List.length_append, flat4_len]
  simp only [List.length_append, List.length_cons, List.length_nil]
theorem procC_size (c : Cm) (chk : Bool) (s : CS) (p : Nat × List St) (b : Bool) (h : p.1 ≤ 16) : (procC c chk s p b).mem.length ≤ s.mem.length + 116 + 24 * stsWt p.2 := by
  unfold procC
  have h1 := genB_len (s.gx c chk) (p.1 + 2) p.2 (s.mem.length + (if b = true then expW (s.gx c chk) else []).length + (begW (s.gx c chk) (p.1 + 2) p.1).length)
  have h2 := begW_len (s.gx c chk) (p.1 + 2) p.1
  have h3 : (if b = true then expW (s.gx c chk) else []).length ≤ 8 := by split <;> simp [expW]
  simp only [List.length_append, endW, List.length_cons, List.length_nil]
  omega
theorem procsC_size (c : Cm) (chk : Bool) (ex W : Nat) : ∀ (ps : List (Nat × List St)) (s : CS) (i : Nat), (∀ p ∈ ps, p.1 ≤ 16 ∧ stsWt p.2 ≤ W) → (procsC c chk ex s ps i).mem.length ≤ s.mem.length + ps.length * (116 + 24 * W)
  | [], s, i, _ => by simp [procsC]
  | p :: ps, s, i, h => by
    have h1 := h p List.mem_cons_self
    have h2 := procC_size c chk s p (decide (i < ex)) h1.1
    have h3 := procsC_size c chk ex W ps (procC c chk s p (decide (i < ex))) (i + 1) fun p hp => h p (List.mem_cons_of_mem _ hp)
    rw [procsC, List.length_cons, Nat.succ_mul]
    have h4 : 24 * stsWt p.2 ≤ 24 * W := Nat.mul_le_mul_left _ h1.2
    omega
theorem compS_size {c : Cm} {n e ni ex W : Nat} {chk : Bool} (ok : c.ok n e ni) (h : ∀ p ∈ c.procs, stsWt p.2 ≤ W) : (compS c ex chk).mem.length ≤ 28017 + 9 * (116 + 24 * W) := by
  have h1 := procsC_size c chk ex W c.procs (exitC (dataC c)) 0 fun p hp => ⟨(ok.proc p hp).1.2, h p hp⟩
  have h2 := data_len ok
  have h3 : (exitC (dataC c)).mem.length = (dataC c).mem.length + 12 := by unfold exitC; simp
  have h4 : c.procs.length * (116 + 24 * W) ≤ 9 * (116 + 24 * W) := Nat.mul_le_mul_right _ ok.np.2.2
  unfold compS
  omega
/-! words -/
abbrev Wd (l : List Nat) : Prop := ∀ w ∈ l, w < 65536
theorem Wd.app {a b : List Nat} (h : Wd a) (h2 : Wd b) : Wd (a ++ b) := fun w hw => (List.mem_append.mp hw).elim (h w) (h2 w)
theorem Wd.four {a b c d : Nat} (h1 : a < 65536) (h2 : b < 65536) (h3 : c < 65536) (h4 : d < 65536) : Wd [a, b, c, d] := fun w hw => by
  simp only [List.mem_cons, List.not_mem_nil, or_false] at hw
  rcases hw with rfl | rfl | rfl | rfl <;> assumption
theorem Wd.getD {l : List Nat} (h : Wd l) (i : Nat) : l.getD i 0 < 65536 := by
  rw [List.getD_eq_getElem?_getD]
  cases e : l[i]? with
  | none => show 0 < 65536; decide
  | some x => exact h x (List.mem_of_getElem? e)
theorem Wd.set {l : List Nat} (h : Wd l) {i v : Nat} (hv : v < 65536) : Wd (l.set i v) := fun x hx => by
  rcases List.mem_or_eq_of_mem_set hx with q | q
  · exact h x q
  · rw [q]; exact hv
theorem Wd.rep (n : Nat) : Wd (List.replicate n 0) := fun x hx => by rw [(List.mem_replicate.mp hx).2]; decide
structure GXok (x : GX) : Prop where
  sz : Wd x.sizes
  bp : Wd x.bpl
  ff : x.ff + x.room + 1 < 65536
  ha : x.halt < 65536
  le : x.leave < 65536
theorem opN_lt (z : Str) : opN z < 65536 := by unfold opN; repeat' split
                                               all_goals decide
theorem offL_lt (tk l : Nat) : offL tk l < 65536 := Nat.mod_lt _ (by decide)
theorem offC_lt (tk : Nat) : offC tk < 65536 := Nat.mod_lt _ (by decide)
theorem chkW_w {x : GX} (k : GXok x) {r b : Nat} (hr : r < 65536) : Wd (chkW x r b) := by
  unfold chkW
  split
  · exact ((Wd.four (by decide) (by decide) (k.sz.getD b) (by decide)).app (.four (by decide) (by decide) hr (by decide))).app (.four (by decide) (by decide) (by decide) k.ha)
  · exact fun w h => by cases h
theorem genE_w {x : GX} (k : GXok x) {h : Sh} {tk : Nat} : ∀ {e : Ex} {g : Nat}, e.ok h → g + e.dep ≤ 1000 → Wd (genE x tk e g)
  | .num n, g, ok, hg => by rw [genE]; exact .four (by decide) (by omega) ok (by decide)
  | .loc n, g, ok, hg => by rw [genE]; exact .four (by decide) (by omega) (by decide) (offL_lt _ _)
  | .get b e, g, ok, hg => by
    simp only [Ex.dep] at hg
    rw [genE]
    exact ((genE_w k ok.2 (by omega)).app (chkW_w k (by omega))).app (.four (by decide) (by omega) (by omega) (k.bp.getD b))
  | .op z a b, g, ok, hg => by
    simp only [Ex.dep] at hg
    rw [genE]
    split
    · exact ((genE_w k ok.2.1 (by omega)).app (genE_w k ok.2.2 (by omega))).app (.four (opN_lt z) (by omega) (by omega) (by omega))
    · exact ((((genE_w k ok.2.1 (by omega)).app (.four (by decide) (by decide) (by decide) (by omega))).app (genE_w k ok.2.2 (by omega))).app (.four (by decide) (by decide) (by decide) (by omega))).app (.four (opN_lt z) (by decide) (by decide) (by decide))
theorem endW_w {tk : Nat} (h : tk < 65536) : Wd (endW tk) := (((Wd.four (by decide) (by decide) (by decide) (offC_lt tk)).app (.four (by decide) (by decide) h (by decide))).app (.four (by decide) (by decide) (by decide) (by decide))).app (.four (by decide) (by decide) (by decide) (by decide))
mutual
theorem genS_w {x : GX} (k : GXok x) {h : Sh} (hni : h.ni ≤ 1000) {tk : Nat} (ht : tk < 65536) : ∀ (s : St) (n hh : Nat), s.ok h n → hh + (genS x tk s hh).length ≤ 65000 → Wd (genS x tk s hh)
  | .set l e, n, hh, ok, hl => by rw [genS]; exact (genE_w k ok.2.1 (by have := ok.2.2; omega)).app (.four (by decide) (by decide) (by decide) (offL_lt _ _))
  | .put b i e, n, hh, ok, hl => by rw [genS]; exact (((genE_w k ok.2.1.1 (by have := ok.2.1.2; omega)).app (chkW_w k (by decide))).app (genE_w k ok.2.2.1 (by have := ok.2.2.2; omega))).app (.four (by decide) (by decide) (by decide) (k.bp.getD b))
  | .call l p e, n, hh, ok, hl => by
    rw [genS] at hl ⊢
    simp only [List.length_append, List.length_cons, List.length_nil] at hl
    exact (((genE_w k ok.2.2.1 (by have := ok.2.2.2; omega)).app (.four (by decide) (by decide) (by omega) (by decide))).app (.four (by decide) (by decide) (by decide) (by decide))).app (.four (by decide) (by decide) (by decide) (offL_lt _ _))
  | .use l i e, n, hh, ok, hl => by
    have hi : i < h.ni := ok.2.1
    rw [genS]
    exact ((((genE_w k ok.2.2.1 (by have := ok.2.2.2; omega)).app (.four (by decide) (by decide) (by decide) (by decide))).app (.four (by decide) (by decide) (by omega) (by decide))).app (.four (by decide) (by decide) (by decide) (by decide))).app (.four (by decide) (by decide) (by decide) (offL_lt _ _))
  | .ifs t a b, n, hh, ok, hl => by
    rw [St.ok] at ok
    rw [genS] at hl ⊢
    simp only [List.length_append, List.length_cons, List.length_nil] at hl
    exact ((((genE_w k ok.2.1.1 (by have := ok.2.1.2; omega)).app (.four (by decide) (by decide) (by decide) (by omega))).app (genB_w k hni ht a (n - 1) _ ok.2.2.1.2 (by omega))).app (.four (by decide) (by decide) (by decide) (by omega))).app (genB_w k hni ht b (n - 1) _ ok.2.2.2.2 (by omega))
  | .wh t a, n, hh, ok, hl => by
    rw [St.ok] at ok
    rw [genS] at hl ⊢
    simp only [List.length_append, List.length_cons, List.length_nil] at hl
    exact (((genE_w k ok.2.1.1 (by have := ok.2.1.2; omega)).app (.four (by decide) (by decide) (by decide) (by omega))).app (genB_w k hni ht a (n - 1) _ ok.2.2.2 (by omega))).app (.four (by decide) (by decide) (by decide) (by omega))
  | .ret e, n, hh, ok, hl => by rw [genS]; exact (genE_w k ok.1 (by have := ok.2; omega)).app (endW_w ht)
theorem genB_w {x : GX} (k : GXok x) {h : Sh} (hni : h.ni ≤ 1000) {tk : Nat} (ht : tk < 65536) : ∀ (ss : List St) (n hh : Nat), stsOk h ss n → hh + (genB x tk ss hh).length ≤ 65000 → Wd (genB x tk ss hh)
  | [], n, hh, ok, hl => by rw [genB]; exact fun w h => by cases h
  | s :: ss, n, hh, ok, hl => by
    rw [stsOk] at ok
    rw [genB] at hl ⊢
    rw [List.length_append] at hl
    exact (genS_w k hni ht s n hh ok.1 (by omega)).app (genB_w k hni ht ss n _ ok.2 (by omega))
end
theorem begW_w {x : GX} (k : GXok x) {tk nl : Nat} (ht : tk < 65536) : Wd (begW x tk nl) := by
  have := k.ff
  unfold begW
  refine Wd.app (Wd.app (Wd.app (Wd.app (Wd.app (Wd.app (Wd.app (.four (by decide) (by decide) ?_ (by decide)) (.four (by decide) (by decide) (by decide) (by decide))) (.four (by decide) (by decide) (by decide) k.ha)) (.four (by decide) (by decide) ht (by decide))) (.four (by decide) (by decide) (by decide) (by decide))) (.four (by decide) (by decide) (by decide) (offC_lt tk))) (.four (by decide) (by decide) (by decide) (offL_lt _ _))) ?_
  · split <;> omega
  · intro w hw
    obtain ⟨l, hl, hw⟩ := List.mem_flatten.mp hw
    obtain ⟨i, _, rfl⟩ := List.mem_map.mp hl
    exact Wd.four (show 11 < 65536 by decide) (show 6 < 65536 by decide) (show 7 < 65536 by decide) (offL_lt tk (1 + i)) w hw
/-- all that is made so far are words -/
structure WI (c : Cm) (s : CS) : Prop where
  mem : Wd s.mem
  en : Wd s.ents
  bp : Wd s.bpl
  st : Wd s.starts
  ff : s.ff + c.room + 1 < 65536
  ha : s.halt < 65536
  le : s.leave < 65536
theorem WI.gx {c : Cm} {s : CS} {chk : Bool} {n e ni : Nat} (h : WI c s) (ok : c.ok n e ni) : GXok (s.gx c chk) := ⟨fun w hw => by
  obtain ⟨b, hb, rfl⟩ := List.mem_map.mp hw
  have := (ok.buf b hb).1
  omega, h.bp, h.ff, h.ha, h.le⟩
theorem WI.step {c : Cm} {chk : Bool} {s : CS} {n e ni : Nat} {p : Nat × List St} {b : Bool} (ok : c.ok n e ni) (hni : ni ≤ 1000) (hp : p ∈ c.procs) (hl : (procC c chk s p b).mem.length ≤ 60000) (h : WI c s) : WI c (procC c chk s p b) := by
  have hk := ok.proc p hp
  have g := h.gx (chk := chk) ok
  have hl2 : (s.mem ++ (if b = true then expW (s.gx c chk) else []) ++ begW (s.gx c chk) (p.1 + 2) p.1 ++ genB (s.gx c chk) (p.1 + 2) p.2 (s.mem.length + (if b = true then expW (s.gx c chk) else []).length + (begW (s.gx c chk) (p.1 + 2) p.1).length) ++ [1, 0, 0, 0] ++ endW (p.1 + 2)).length ≤ 60000 := hl
  simp only [List.length_append] at hl2
  refine ⟨?_, ?_, h.bp, ?_, h.ff, h.ha, h.le⟩
  · show Wd (s.mem ++ (if b = true then expW (s.gx c chk) else []) ++ begW (s.gx c chk) (p.1 + 2) p.1 ++ genB (s.gx c chk) (p.1 + 2) p.2 (s.mem.length + (if b = true then expW (s.gx c chk) else []).length + (begW (s.gx c chk) (p.1 + 2) p.1).length) ++ [1, 0, 0, 0] ++ endW (p.1 + 2))
    refine (((((h.mem.app ?_).app (begW_w g (by omega))).app (genB_w g (h := ⟨p.1, c.bufs.length, c.procs.length, ni⟩) hni (by omega) p.2 n _ hk.2.2 (by omega))).app (.four (by decide) (by decide) (by decide) (by decide))).app (endW_w (by omega)))
    split
    · exact (Wd.four (by decide) (by decide) (by decide) (by decide)).app (.four (by decide) (by decide) g.le (by decide))
    · exact fun w h => by cases h
  · show Wd (if b = true then s.ents ++ [s.mem.length] else s.ents)
    split
    · exact h.en.app fun w hw => by rw [List.mem_singleton.mp hw]; omega
    · exact h.en
  · show Wd (s.starts ++ [_])
    exact h.st.app fun w hw => by rw [List.mem_singleton.mp hw]; omega
theorem bplOf_w : ∀ (bs : List (List Nat)) (n : Nat), n + bs.flatten.length ≤ 65000 → Wd (bplOf n bs)
  | [], n, _ => fun w h => by cases h
  | b :: bs, n, h => by
    rw [List.flatten_cons, List.length_append] at h
    rw [bplOf]
    intro w hw
    rcases List.mem_cons.mp hw with rfl | hw
    · omega
    · exact bplOf_w bs (n + b.length) (by omega) w hw
theorem WI.init {c : Cm} {n e ni : Nat} (ok : c.ok n e ni) : WI c (exitC (dataC c)) := by
  have h1 := cells_le ok
  have h2 := flat_le ok c.bufs.length
  rw [List.take_length] at h2
  have h3 := ok.room
  have h4 := data_len ok
  have hm : Wd (List.replicate (1 + cellsN c) 0 ++ c.bufs.flatten) := (Wd.rep _).app fun w hw => by
    obtain ⟨b, hb, hw⟩ := List.mem_flatten.mp hw
    exact (ok.buf b hb).2 w hw
  have hl : (List.replicate (1 + cellsN c) 0 ++ c.bufs.flatten).length ≤ 8005 := by rw [List.length_append, List.length_replicate]; omega
  refine ⟨?_, fun w h => (by cases h), bplOf_w _ _ (by omega), fun w h => (by cases h), ?_, ?_, ?_⟩
  · exact (((((hm.set (by omega)).app (Wd.rep _)).app (.four (by decide) (by decide) (by decide) (by decide))).app (.four (by decide) (by decide) (by decide) (by decide))).app (.four (by decide) (by decide) (by decide) (by decide)))
  · show (List.replicate (1 + cellsN c) 0 ++ c.bufs.flatten).length + c.room + 1 < _
    omega
  · show (dataC c).mem.length < _
    omega
  · show (dataC c).mem.length + 4 < _
    omega
theorem WI.all {c : Cm} {chk : Bool} {n e ni ex : Nat} (ok : c.ok n e ni) (hni : ni ≤ 1000) (hl : (compS c ex chk).mem.length ≤ 60000) : ∀ i, i ≤ c.procs.length → WI c (procsC c chk ex (exitC (dataC c)) (c.procs.take i) 0)
  | 0, _ => WI.init ok
  | i + 1, hi => by
    have hp : c.procs[i]? = some (c.procs[i]'(by omega)) := List.getElem?_eq_getElem _
    have e1 : procsC c chk ex (exitC (dataC c)) (c.procs.take (i + 1)) 0 = procC c chk (procsC c chk ex (exitC (dataC c)) (c.procs.take i) 0) (c.procs[i]'(by omega)) (decide (i < ex)) := by
      rw [List.take_add_one, hp, Option.toList_some, procsC_app, procsC, procsC, List.length_take, Nat.min_eq_left (by omega), Nat.zero_add]
    have e2 : (procsC c chk ex (exitC (dataC c)) (c.procs.take (i + 1)) 0).mem.length ≤ (compS c ex chk).mem.length := by
      unfold compS
      have := procsC_app c chk ex (ys := c.procs.drop (i + 1)) (c.procs.take (i + 1)) (exitC (dataC c)) 0
      rw [List.take_append_drop] at this
      rw [this]
      exact procsC_len c chk ex _ _ _
    rw [e1] at e2 ⊢
    exact (WI.all ok hni hl i (by omega)).step ok hni (List.mem_of_getElem? hp) (by omega)
theorem link_w {st : List Nat} (hs : Wd st) : ∀ (l : List (Nat × Nat)) (m : List Nat), Wd m → Wd (l.foldl (fun m q => m.set q.1 (st.getD q.2 0)) m)
  | [], m, h => h
  | q :: l, m, h => by rw [List.foldl_cons]; exact link_w hs l _ (h.set (hs.getD _))
theorem ents_len (c : Cm) (chk : Bool) (ex : Nat) : ∀ (ps : List (Nat × List St)) (s : CS) (i : Nat), (procsC c chk ex s ps i).ents.length = s.ents.length + min ps.length (ex - i)
  | [], s, i => by simp [procsC]
  | p :: ps, s, i => by
    rw [procsC, ents_len c chk ex ps]
    unfold procC
    dsimp only
    by_cases h : i < ex
    · rw [if_pos (by simpa using h), List.length_append, List.length_cons, List.length_cons, List.length_nil]; omega
    · rw [if_neg (by simpa using h), List.length_cons]; omega
/-- a compiled component -/
theorem compC_ok {c : Cm} {n e ni ex : Nat} {chk : Bool} (ok : c.ok n e ni) (hni : ni ≤ 1000) (hl : (compS c ex chk).mem.length ≤ 60000) (hex : ex ≤ e) : ((compC c ex chk).1.length ≤ 60000 ∧ 12 ≤ (compC c ex chk).1.length ∧ Wd (compC c ex chk).1) ∧ (compC c ex chk).2.length = ex ∧ Wd (compC c ex chk).2 := by
  have w := WI.all ok hni hl c.procs.length (Nat.le_refl _)
  rw [List.take_length] at w
  have h1 : (compC c ex chk).1.length = (compS c ex chk).mem.length := link_len _ _
  have h2 : 12 ≤ (compS c ex chk).mem.length := by
    refine Nat.le_trans ?_ (procsC_len c chk ex c.procs (exitC (dataC c)) 0)
    unfold exitC
    simp
  refine ⟨⟨by omega, by omega, link_w w.st _ _ w.mem⟩, ?_, w.en⟩
  have h3 := ents_len c chk ex c.procs (exitC (dataC c)) 0
  have h4 : (compC c ex chk).2.length = 0 + min c.procs.length (ex - 0) := h3
  have := ok.np
  omega



/-! ### drawn texts, their weight bound by what is spent -/
abbrev shD (h : Sh) (sizes : List Nat) : D := .lst [natD h.nl, .lst (sizes.map natD), natD h.np, natD h.ni]
structure ShOk (h : Sh) (sizes : List Nat) : Prop where
  nl : 1 ≤ h.nl ∧ h.nl ≤ 100
  nb : sizes.length = h.nb ∧ h.nb ≤ 100
  sz : ∀ x ∈ sizes, 1 ≤ x ∧ x ≤ 1000
  np : 1 ≤ h.np ∧ h.np ≤ 100
  ni : h.ni ≤ 100
def sp_l_expr (d : Nat) : ASp := fun ds M Q _ => ∃ (p : Addr) (s : PoolS) (u : Ob → Mem) (h : Sh) (sizes : List Nat) (deep : Nat), ds = [.r p, shD h sizes, natD deep] ∧ At M p s.ob u ∧ ShOk h sizes ∧ (1 ≤ deep ∧ deep ≤ d ∧ d ≤ 100) ∧ ∀ (s' : PoolS) (e : Ex), e.okd h deep → e.wt + 2 * s'.e.toNat ≤ 2 * s.e.toNat → Q e.d (u s'.ob)
def sp_l_index (d : Nat) : ASp := fun ds M Q _ => ∃ (p : Addr) (s : PoolS) (u : Ob → Mem) (h : Sh) (sizes : List Nat) (b deep : Nat), ds = [.r p, shD h sizes, natD b, natD deep] ∧ At M p s.ob u ∧ ShOk h sizes ∧ b < h.nb ∧ (1 ≤ deep ∧ deep ≤ d ∧ d ≤ 100) ∧ ∀ (s' : PoolS) (e : Ex), e.okd h (max deep 1) → e.wt + 2 * s'.e.toNat ≤ 2 * s.e.toNat + 1 → Q e.d (u s'.ob)
theorem nat_of {i : Int} (h : 0 ≤ i) : ∃ n : Nat, i = (n : Int) := ⟨i.toNat, (Int.toNat_of_nonneg h).symm⟩
theorem sizes_at {sizes : List Nat} {b : Nat} (h : b < sizes.length) : atI (sizes.map natD) (b : Int) = some (natD sizes[b]) := atI_nat (by rw [List.getElem?_map, List.getElem?_eq_getElem h]; rfl)
theorem Ex.okd.mono {h : Sh} {d d' : Nat} {e : Ex} (k : e.okd h d) (hd : d ≤ d') : e.okd h d' := ⟨k.1, Nat.le_trans k.2 hd⟩
section
variable {P : Program} {w : World} {K : PySem.W.Frag} {mg : Str → Option Value} {base : Heap}
theorem ok_l_index_of (T : Top w.params K mg) (d : Nat) (IH : Cal P w K mg base CX0 (2 * d + 3) "_law_expression" ["pool", "shape", "deep"] (conSp K (sp_l_expr d))) : Cal P w K mg base CX0 (2 * d + 4) "_law_index" ["pool", "shape", "buffer", "deep"] (conSp K (sp_l_index d)) := by
  refine def_A (k := 2 * d + 3) T.f_l_index sc_l_index (fun _ _ _ _ _ _ us hl => match us, hl with | [_, _, _, _], _ => rfl) (fun ds M Q E h => ?_) (fun f cdv Ar outer s H E ds M Q EX hr h => ?_)
  · obtain ⟨p, s, u, h, sizes, b, deep, rfl, _⟩ := h
    rfl
  · obtain ⟨p, s, u, h, sizes, b, deep, rfl, hp, hs, hb, ⟨hd1, hd2, hd3⟩, k⟩ := h
    refine ⟨_, (as_cons (as_set (ps_set (i := 4) sc_l_index.nd rfl (by first | exact Or.inl rfl | exact Or.inr rfl) (a_call (g_call (ok_l_drawE T) (hr.mono (by omega)) (by rfl) pass0 (aa_cons (a_var (pv 0)) (aa_cons a_int aa_nil))))))
  (as_cons (as_if (a_tcmp o_lt (a_var (pv 4)) a_int (nomark _))
  (as_one (as_ret (ps_ret (a_tup (aa_cons a_str (aa_cons (a_call (g_call (ok_l_drawE T) (hr.mono (by omega)) (by rfl) pass0 (aa_cons (a_var (pv 0)) (aa_cons (a_ix (o_ix (K := K)) (a_ix (o_ix (K := K)) (a_var (pv 1)) a_int (fun _ _ => rfl)) (a_var (pv 2)) (fun _ _ => rfl)) aa_nil)))) aa_nil))))))
  as_nil)
  (as_cut (as_if (PW.pt (a_and (a_tcmp o_lt (a_var (pv 4)) a_int (nomark _)) (pw_and1 (a_tcmp o_gt (a_var (pv 3)) a_int (nomark _)))))
  (as_one (as_ret (ps_ret (a_tup (aa_cons a_str (aa_cons (a_call (g_call IH (hr.mono (by omega)) (by rfl) pass0 (aa_cons (a_var (pv 0)) (aa_cons (a_var (pv 1)) (aa_cons (a_op o_sub (a_var (pv 3)) a_int) aa_nil))))) (aa_cons (a_tup (aa_cons a_str (aa_cons (a_ix (o_ix (K := K)) (a_ix (o_ix (K := K)) (a_var (pv 1)) a_int (fun _ _ => rfl)) (a_var (pv 2)) (fun _ _ => rfl)) aa_nil))) aa_nil)))))))
  as_nil)
  (as_cons (as_if (a_tcmp (o_eq (K := K) (un64 hr)) (a_var (pv 4)) a_int (nomark _))
  (as_one (as_ret (ps_ret (a_tup (aa_cons a_str (aa_cons (a_op (o_add (K := K)) (a_ix (o_ix (K := K)) (a_ix (o_ix (K := K)) (a_var (pv 1)) a_int (fun _ _ => rfl)) (a_var (pv 2)) (fun _ _ => rfl)) (a_call (g_call (ok_l_drawE T) (hr.mono (by omega)) (by rfl) pass0 (aa_cons (a_var (pv 0)) (aa_cons a_int aa_nil))))) aa_nil))))))
  as_nil)
  (as_one (as_ret (ps_ret (a_call (g_call IH (hr.mono (by omega)) (by rfl) pass0 (aa_cons (a_var (pv 0)) (aa_cons (a_var (pv 1)) (aa_cons (a_var (pv 3)) aa_nil)))))))))))), ?_⟩
    have hbl : b < sizes.length := by rw [hs.nb.1]; exact hb
    have ab := sizes_at hbl
    have hsz := hs.sz _ (List.getElem_mem hbl)
    walk_at "rd"
    walk_at "dr"
    intro kd s1 k0 k1 f1
    walk_at "rd"
    refine G.i_d (fun h1 => ?_) (fun h1 => ?_)
    · walk_at "rd"
      refine ⟨p, s1, _, _, rfl, hp.put, by omega, fun v s2 v0 v1 f2 => ?_⟩
      obtain ⟨n, rfl⟩ := nat_of v0
      walk_at "rd"
      exact k s2 (.num n) ⟨by show n < 65536; omega, by show 1 ≤ _; omega⟩ (by simp only [Ex.wt]; omega)
    · walk_at "rd"
      refine s_cut (fun xs M' => xs = [some (.r p), some (shD h sizes), some (natD b), some (natD deep), some (.int kd)] ∧ M' = u s1.ob) ?_ ?_
      · walk_at "rd"
        refine G.i_d (fun h2 => ?_) (fun h2 => ?_)
        · walk_at "rd"
          refine G.i_d (fun h3 => ?_) (fun h3 => ?_)
          · walk_at "rd"
            refine ⟨p, s1, _, h, sizes, deep - 1, by rw [show ((deep : Int) - 1) = ((deep - 1 : Nat) : Int) by omega], hp.put, hs, by omega, fun s2 e he f2 => ?_⟩
            walk_at "rd"
            exact k s2 (.op "mod" e (.num sizes[b])) ⟨⟨by simp [opsL], he.1, by show _ < 65536; omega⟩, by show max _ 1 + 1 ≤ _; have := he.2; omega⟩ (by simp only [Ex.wt]; omega)
          · walk_at "rd"
            exact ⟨rfl, rfl⟩
        · walk_at "rd"
          exact ⟨rfl, rfl⟩
      · rintro xs M' ⟨rfl, rfl⟩
        walk_at "rd"
        refine G.i_d (fun h2 => ?_) (fun h2 => ?_)
        · walk_at "rd"
          refine ⟨p, s1, _, _, rfl, hp.put, by omega, fun v s2 v0 v1 f2 => ?_⟩
          obtain ⟨n, rfl⟩ := nat_of v0
          walk_at "rd"
          have kk := k s2 (.num (sizes[b] + n)) ⟨by show _ < 65536; omega, by show 1 ≤ _; omega⟩ (by simp only [Ex.wt]; omega)
          unfold Ex.d natD at kk
          rw [show ((sizes[b] + n : Nat) : Int) = (sizes[b] : Int) + n by omega] at kk
          exact kk
        · walk_at "rd"
          exact ⟨p, s1, _, h, sizes, deep, rfl, hp.put, hs, by omega, fun s2 e he f2 => .of (k s2 e (he.mono (by omega)) (by omega))⟩
theorem ok_l_expression (T : Top w.params K mg) : ∀ d, Cal P w K mg base CX0 (2 * d + 3) "_law_expression" ["pool", "shape", "deep"] (conSp K (sp_l_expr d))
  | 0 => def_A (k := 2) T.f_l_expression sc_l_expression (fun _ _ _ _ _ _ us hl => match us, hl with | [_, _, _], _ => rfl) (fun ds M Q E h => by obtain ⟨_, _, _, _, _, _, _, _, _, h, _⟩ := h; omega) (fun f cdv Ar outer s H E ds M Q EX hr h => by obtain ⟨_, _, _, _, _, _, _, _, _, h, _⟩ := h; omega)
  | d + 1 => by
    have IH := ok_l_expression T d
    have IX := ok_l_index_of T d IH
    refine def_A (k := 2 * d + 4) T.f_l_expression sc_l_expression (fun _ _ _ _ _ _ us hl => match us, hl with | [_, _, _], _ => rfl) (fun ds M Q E h => ?_) (fun f cdv Ar outer s H E ds M Q EX hr h => ?_)
    · obtain ⟨p, s, u, h, sizes, deep, rfl, _⟩ := h
      rfl
    · obtain ⟨p, s, u, h, sizes, deep, rfl, hp, hs, ⟨hd1, hd2, hd3⟩, k⟩ := h
      refine ⟨_, (as_cons (as_set (ps_set (i := 3) sc_l_expression.nd rfl (by first | exact Or.inl rfl | exact Or.inr rfl) (a_call (g_call (ok_l_drawE T) (hr.mono (by omega)) (by rfl) pass0 (aa_cons (a_var (pv 0)) (aa_cons a_int aa_nil))))))
  (as_cut (as_if (PW.pt (a_and (a_tcmp o_gt (a_var (pv 2)) a_int (nomark _)) (a_and (a_tcmp o_lt (a_var (pv 3)) a_int (nomark _)) (pw_and1 (a_truth (K := K) (a_call (g_call (ok_l_spendE T) (hr.mono (by omega)) (by rfl) pass0 (aa_cons (a_var (pv 0)) aa_nil))) (by intro _; rfl))))))
  (as_cons (as_set (ps_set (i := 4) sc_l_expression.nd rfl (by first | exact Or.inl rfl | exact Or.inr rfl) (a_ix (o_ix (K := K)) (a_tup (aa_cons a_str (aa_cons a_str (aa_cons a_str (aa_cons a_str (aa_cons a_str (aa_cons a_str (aa_cons a_str aa_nil)))))))) (a_call (g_call (ok_l_drawE T) (hr.mono (by omega)) (by rfl) pass0 (aa_cons (a_var (pv 0)) (aa_cons a_int aa_nil)))) (fun _ _ => rfl))))
    (as_cons (as_set (ps_set (i := 5) sc_l_expression.nd rfl (by first | exact Or.inl rfl | exact Or.inr rfl) (a_call (g_call IH (hr.mono (by omega)) (by rfl) pass0 (aa_cons (a_var (pv 0)) (aa_cons (a_var (pv 1)) (aa_cons (a_op o_sub (a_var (pv 2)) a_int) aa_nil)))))))
    (as_one (as_ret (ps_ret (a_tup (aa_cons (a_var (pv 4)) (aa_cons (a_var (pv 5)) (aa_cons (a_call (g_call IH (hr.mono (by omega)) (by rfl) pass0 (aa_cons (a_var (pv 0)) (aa_cons (a_var (pv 1)) (aa_cons (a_op o_sub (a_var (pv 2)) a_int) aa_nil))))) aa_nil)))))))))
  as_nil)
  (as_cut (as_if (PW.pt (a_and (a_tcmp o_gt (a_var (pv 2)) a_int (nomark _)) (a_and (a_tcmp o_lt (a_var (pv 3)) a_int (nomark _)) (a_and (a_tcmp o_gt (a_callB (o_len (K := K)) (by rfl) T.b_len PySem.boot_len (aa_cons (a_ix (o_ix (K := K)) (a_var (pv 1)) a_int (fun _ _ => rfl)) aa_nil)) a_int (nomark _)) (pw_and1 (a_truth (K := K) (a_call (g_call (ok_l_spendE T) (hr.mono (by omega)) (by rfl) pass0 (aa_cons (a_var (pv 0)) aa_nil))) (by intro _; rfl)))))))
  (as_cons (as_set (ps_set (i := 6) sc_l_expression.nd rfl (by first | exact Or.inl rfl | exact Or.inr rfl) (a_call (g_call (ok_l_drawE T) (hr.mono (by omega)) (by rfl) pass0 (aa_cons (a_var (pv 0)) (aa_cons (a_callB (o_len (K := K)) (by rfl) T.b_len PySem.boot_len (aa_cons (a_ix (o_ix (K := K)) (a_var (pv 1)) a_int (fun _ _ => rfl)) aa_nil)) aa_nil))))))
    (as_one (as_ret (ps_ret (a_tup (aa_cons a_str (aa_cons (a_var (pv 6)) (aa_cons (a_call (g_call IX (hr.mono (by omega)) (by rfl) pass0 (aa_cons (a_var (pv 0)) (aa_cons (a_var (pv 1)) (aa_cons (a_var (pv 6)) (aa_cons (a_op o_sub (a_var (pv 2)) a_int) aa_nil)))))) aa_nil))))))))
  as_nil)
  (as_cons (as_if (a_tcmp o_lt (a_var (pv 3)) a_int (nomark _))
  (as_one (as_ret (ps_ret (a_tup (aa_cons a_str (aa_cons (a_call (g_call (ok_l_drawE T) (hr.mono (by omega)) (by rfl) pass0 (aa_cons (a_var (pv 0)) (aa_cons (a_ix (o_ix (K := K)) (a_var (pv 1)) a_int (fun _ _ => rfl)) aa_nil)))) aa_nil))))))
  as_nil)
  (as_one (as_ret (ps_ret (a_tup (aa_cons a_str (aa_cons (a_call (g_call (ok_l_numberE T) (hr.mono (by omega)) (by rfl) pass0 (aa_cons (a_var (pv 0)) aa_nil))) aa_nil)))))))))), ?_⟩
      have hnl := hs.nl
      have hnb := hs.nb
      have hx : (((deep : Nat) : Int) - 1) = ((deep - 1 : Nat) : Int) := by omega
      walk_at "rd"
      walk_at "dr"
      intro kd s1 k0 k1 f1
      walk_at "rd"
      refine s_cut (fun xs M' => ∃ v5 v6 v7 s2, xs = [some (.r p), some (shD h sizes), some (natD deep), some (.int kd), v5, v6, v7] ∧ M' = u (PoolS.ob s2) ∧ s2.e.toNat ≤ s.e.toNat) ?_ ?_
      · walk_at "rd"
        refine G.i_d (fun h1 => ?_) (fun h1 => ?_)
        · walk_at "rd"
          refine G.i_d (fun h2 => ?_) (fun h2 => ?_)
          · walk_at "rd"
            refine ⟨p, s1, _, rfl, hp.put, fun s2 f2 => ?_⟩
            walk_at "rd"
            refine G.i_d (fun hb => ?_) (fun hb => ?_)
            · walk_at "rd"
              refine ⟨p, s2, _, _, rfl, hp.put, by decide, fun j s3 j0 j1 f3 => ?_⟩
              obtain ⟨z, az, zk⟩ : ∃ z : Str, atI (opsL.map D.str) j = some (.str z) ∧ z ∈ opsL := by
                obtain ⟨z, hz, _, hz2⟩ := at_mem (fn := D.str) (l := opsL) j0 (by simpa [opsL] using j1)
                exact ⟨z, hz2, hz⟩
              walk_at "rd"
              rw [hx]
              refine ⟨p, s3, _, h, sizes, deep - 1, rfl, hp.put, hs, by omega, fun s4 a ha f4 => ?_⟩
              walk_at "rd"
              rw [hx]
              refine ⟨p, s4, _, h, sizes, deep - 1, rfl, hp.put, hs, by omega, fun s5 b hb f5 => ?_⟩
              walk_at "rd"
              exact k s5 (.op z a b) ⟨⟨zk, ha.1, hb.1⟩, by show max _ _ + 1 ≤ _; have := ha.2; have := hb.2; omega⟩ (by simp only [Ex.wt]; omega)
            · walk_at "rd"
              exact ⟨_, _, _, s2, rfl, rfl, by omega⟩
          · walk_at "rd"
            exact ⟨_, _, _, s1, rfl, rfl, by omega⟩
        · walk_at "rd"
          exact ⟨_, _, _, s1, rfl, rfl, by omega⟩
      · rintro xs M' ⟨v5, v6, v7, s2, rfl, rfl, g2⟩
        refine s_cut (fun xs M' => ∃ v5 v6 v7 s2, xs = [some (.r p), some (shD h sizes), some (natD deep), some (.int kd), v5, v6, v7] ∧ M' = u (PoolS.ob s2) ∧ s2.e.toNat ≤ s.e.toNat) ?_ ?_
        · walk_at "rd"
          refine G.i_d (fun h1 => ?_) (fun h1 => ?_)
          · walk_at "rd"
            refine G.i_d (fun h2 => ?_) (fun h2 => ?_)
            · walk_at "rd"
              rw [List.length_map]
              refine G.i_d (fun h3 => ?_) (fun h3 => ?_)
              · walk_at "rd"
                refine ⟨p, s2, _, rfl, hp.put, fun s3 f3 => ?_⟩
                walk_at "rd"
                refine G.i_d (fun hb => ?_) (fun hb => ?_)
                · walk_at "rd"
                  rw [List.length_map]
                  refine ⟨p, s3, _, _, rfl, hp.put, by omega, fun j s4 j0 j1 f4 => ?_⟩
                  obtain ⟨b, rfl⟩ := nat_of j0
                  walk_at "rd"
                  rw [hx]
                  refine ⟨p, s4, _, h, sizes, b, deep - 1, rfl, hp.put, hs, by omega, by omega, fun s5 e he f5 => ?_⟩
                  walk_at "rd"
                  exact k s5 (.get b e) ⟨⟨by omega, he.1⟩, by show e.dep + 1 ≤ _; have := he.2; omega⟩ (by simp only [Ex.wt]; omega)
                · walk_at "rd"
                  exact ⟨_, _, _, s3, rfl, rfl, by omega⟩
              · walk_at "rd"
                exact ⟨_, _, _, s2, rfl, rfl, by omega⟩
            · walk_at "rd"
              exact ⟨_, _, _, s2, rfl, rfl, by omega⟩
          · walk_at "rd"
            exact ⟨_, _, _, s2, rfl, rfl, by omega⟩
        · rintro xs M' ⟨v5, v6, v7, s3, rfl, rfl, g3⟩
          walk_at "rd"
          refine G.i_d (fun h1 => ?_) (fun h1 => ?_)
          · walk_at "rd"
            refine ⟨p, s3, _, _, rfl, hp.put, by omega, fun j s4 j0 j1 f4 => ?_⟩
            obtain ⟨n, rfl⟩ := nat_of j0
            walk_at "rd"
            exact k s4 (.loc n) ⟨by show n < h.nl; omega, by show 1 ≤ _; omega⟩ (by simp only [Ex.wt]; omega)
          · walk_at "rd"
            refine ⟨p, s3, _, rfl, hp.put, fun v s4 v0 v1 f4 => ?_⟩
            obtain ⟨n, rfl⟩ := nat_of v0
            walk_at "rd"
            exact k s4 (.num n) ⟨by show n < 65536; omega, by show 1 ≤ _; omega⟩ (by simp only [Ex.wt]; omega)
end



/-! ### blocks, statements: their weight -/
def sp_l_block (n : Nat) : ASp := fun ds M Q _ => ∃ (p : Addr) (s : PoolS) (u : Ob → Mem) (h : Sh) (sizes : List Nat) (deep most : Nat), ds = [.r p, shD h sizes, natD deep, natD most] ∧ At M p s.ob u ∧ ShOk h sizes ∧ (deep < n ∧ n ≤ 100) ∧ most ≤ 100 ∧
  ∀ (s' : PoolS) (xs : List St), stsOk h xs deep → xs.length ≤ most → stsWt xs + 3 * s'.e.toNat ≤ 3 * s.e.toNat → Q (.tup (xs.map St.d)) (u s'.ob)
def sp_l_stmt (n : Nat) : ASp := fun ds M Q _ => ∃ (p : Addr) (s : PoolS) (u : Ob → Mem) (h : Sh) (sizes : List Nat) (deep : Nat), ds = [.r p, shD h sizes, natD deep] ∧ At M p s.ob u ∧ ShOk h sizes ∧ (deep < n ∧ n ≤ 100) ∧ ∀ (s' : PoolS) (x : St), x.ok h deep → x.wt + 3 * s'.e.toNat ≤ 3 * s.e.toNat + 3 → Q x.d (u s'.ob)
section
variable {P : Program} {w : World} {K : PySem.W.Frag} {mg : Str → Option Value} {base : Heap}
theorem ok_l_index (T : Top w.params K mg) (d : Nat) : Cal P w K mg base CX0 (2 * d + 4) "_law_index" ["pool", "shape", "buffer", "deep"] (conSp K (sp_l_index d)) := ok_l_index_of T d (ok_l_expression T d)
theorem ok_l_block_of (T : Top w.params K mg) (n : Nat) (IS : Cal P w K mg base CX0 (2 * n + 13) "_law_statement" ["pool", "shape", "deep"] (conSp K (sp_l_stmt n))) : Cal P w K mg base CX0 (2 * n + 14) "_law_block" ["pool", "shape", "deep", "most"] (conSp K (sp_l_block n)) := by
  refine def_A (k := 2 * n + 13) T.f_l_block sc_l_block (fun _ _ _ _ _ _ us hl => match us, hl with | [_, _, _, _], _ => rfl) (fun ds M Q E h => ?_) (fun f cdv Ar outer s H E ds M Q EX hr h => ?_)
  · obtain ⟨p, s, u, h, sizes, deep, most, rfl, _⟩ := h
    rfl
  · obtain ⟨p, s, u, h, sizes, deep, most, rfl, hp, hs, hd, hm, k⟩ := h
    refine ⟨_, (as_cons (as_set (ps_set (i := 4) sc_l_block.nd rfl (by first | exact Or.inl rfl | exact Or.inr rfl) (a_lstO aa_nil)))
  (as_cons (as_for (ps_for PassesOwn.never rfl (ai_r1 (pi_range1 rfl T.b_range (aa_cons (a_call (g_call (ok_l_drawE T) (hr.mono (by omega)) (by rfl) pass0 (aa_cons (a_var (pv 0)) (aa_cons (a_op (o_add (K := K)) (a_var (pv 3)) a_int) aa_nil)))) aa_nil))) (ag_name (pg_name (i := 5) sc_l_block.nd rfl (by first | exact Or.inl rfl | exact Or.inr rfl)))
  (as_one (as_if (a_truth (K := K) (a_call (g_call (ok_l_spendE T) (hr.mono (by omega)) (by rfl) pass0 (aa_cons (a_var (pv 0)) aa_nil))) (by intro _; rfl))
    (as_one (as_drop (ps_expr (a_bm o_app (pe_bm PySem.F.plainAttrs_list PySem.F.slot_list_append PySem.F.type_list_append mt_append (a_var (pv 4)) (aa_cons (a_call (g_call IS (hr.mono (by omega)) (by rfl) pass0 (aa_cons (a_var (pv 0)) (aa_cons (a_var (pv 1)) (aa_cons (a_var (pv 2)) aa_nil))))) aa_nil))))))
    as_nil))))
  (as_one (as_ret (ps_ret (a_callTy (o_tup (K := K)) (by rfl) T.b_tuple (by decide +kernel) (aa_cons (a_var (pv 4)) aa_nil))))))), ?_⟩
    walk_at "rd"
    intro B
    walk_at "rd"
    refine ⟨p, s, _, _, rfl, .tl hp, by omega, fun c s1 c0 c1 f1 => ?_⟩
    walk_at "rd"
    refine f_rng (fun i xs M' => ∃ (v5 : Option D) (l : List St) (s2 : PoolS), xs = [some (.r p), some (shD h sizes), some (natD deep), some (natD most), some (.r B), v5] ∧ M' = (B, .lst (l.map St.d)) :: u (PoolS.ob s2) ∧ l.length ≤ i ∧ stsOk h l deep ∧ stsWt l + 3 * s2.e.toNat ≤ 3 * s.e.toNat) ⟨_, [], s1, rfl, rfl, Nat.le_refl _, trivial, by simp only [stsWt]; omega⟩ ?_ ?_
    · rintro i xs M' hi ⟨v5, l, s2, rfl, rfl, hl, hok, hcn⟩
      walk_at "rd"
      refine ⟨p, s2, _, rfl, .tl hp.put, fun s3 f3 => ?_⟩
      walk_at "rd"
      refine G.i_d (fun hb => ?_) (fun hb => ?_)
      · walk_at "rd"
        refine ⟨p, s3, _, h, sizes, deep, rfl, .tl hp.put, hs, hd, fun s4 x hx hxc => ?_⟩
        walk_at "rd"
        refine ⟨_, l ++ [x], s4, rfl, by rw [List.map_append]; rfl, by rw [List.length_append, List.length_singleton]; omega, ?_, by rw [stsWt_app]; simp only [stsWt]; omega⟩
        rw [stsOk_iff] at hok ⊢
        intro y hy
        rcases List.mem_append.mp hy with q | q
        · exact hok y q
        · rw [List.mem_singleton.mp q]; exact hx
      · walk_at "rd"
        exact ⟨_, l, s3, rfl, rfl, by omega, hok, by omega⟩
    · rintro xs M' ⟨v5, l, s2, rfl, rfl, hl, hok, hcn⟩
      walk_at "re"
      exact .fz (FzV.drop .hd) (k s2 l hok (by omega) hcn)
theorem ok_l_statement (T : Top w.params K mg) : ∀ n, Cal P w K mg base CX0 (2 * n + 13) "_law_statement" ["pool", "shape", "deep"] (conSp K (sp_l_stmt n))
  | 0 => def_A (k := 12) T.f_l_statement sc_l_statement (fun _ _ _ _ _ _ us hl => match us, hl with | [_, _, _], _ => rfl) (fun ds M Q E h => by obtain ⟨_, _, _, _, _, _, _, _, _, h, _⟩ := h; omega) (fun f cdv Ar outer s H E ds M Q EX hr h => by obtain ⟨_, _, _, _, _, _, _, _, _, h, _⟩ := h; omega)
  | n + 1 => by
    have IB := ok_l_block_of T n (ok_l_statement T n)
    refine def_A (k := 2 * n + 14) T.f_l_statement sc_l_statement (fun _ _ _ _ _ _ us hl => match us, hl with | [_, _, _], _ => rfl) (fun ds M Q E h => ?_) (fun f cdv Ar outer s H E ds M Q EX hr h => ?_)
    · obtain ⟨p, s, u, h, sizes, deep, rfl, _⟩ := h
      rfl
    · obtain ⟨p, s, u, h, sizes, deep, rfl, hp, hs, hd, k⟩ := h
      refine ⟨_, (as_cons (as_set (ps_set (i := 3) sc_l_statement.nd rfl (by first | exact Or.inl rfl | exact Or.inr rfl) (a_call (g_call (ok_l_drawE T) (hr.mono (by omega)) (by rfl) pass0 (aa_cons (a_var (pv 0)) (aa_cons a_int aa_nil))))))
  (as_cons (as_set (ps_set (i := 4) sc_l_statement.nd rfl (by first | exact Or.inl rfl | exact Or.inr rfl) (a_call (g_call (ok_l_drawE T) (hr.mono (by omega)) (by rfl) pass0 (aa_cons (a_var (pv 0)) (aa_cons (a_ix (o_ix (K := K)) (a_var (pv 1)) a_int (fun _ _ => rfl)) aa_nil))))))
  (as_cut (as_if (PW.pt (a_and (a_tcmp o_lt (a_var (pv 3)) a_int (nomark _)) (pw_and1 (a_tcmp o_gt (a_var (pv 2)) a_int (nomark _)))))
  (as_cons (as_set (ps_set (i := 5) sc_l_statement.nd rfl (by first | exact Or.inl rfl | exact Or.inr rfl) (a_call (g_call (ok_l_expression T 4) (hr.mono (by omega)) (by rfl) pass0 (aa_cons (a_var (pv 0)) (aa_cons (a_var (pv 1)) (aa_cons a_int aa_nil)))))))
    (as_cons (as_set (ps_set (i := 6) sc_l_statement.nd rfl (by first | exact Or.inl rfl | exact Or.inr rfl) (a_call (g_call IB (hr.mono (by omega)) (by rfl) pass0 (aa_cons (a_var (pv 0)) (aa_cons (a_var (pv 1)) (aa_cons (a_op o_sub (a_var (pv 2)) a_int) (aa_cons a_int aa_nil))))))))
    (as_one (as_ret (ps_ret (a_tup (aa_cons a_str (aa_cons (a_var (pv 5)) (aa_cons (a_var (pv 6)) (aa_cons (a_call (g_call IB (hr.mono (by omega)) (by rfl) pass0 (aa_cons (a_var (pv 0)) (aa_cons (a_var (pv 1)) (aa_cons (a_op o_sub (a_var (pv 2)) a_int) (aa_cons a_int aa_nil)))))) aa_nil))))))))))
  as_nil)
  (as_cut (as_if (PW.pt (a_and (a_tcmp (o_eq (K := K) (un64 hr)) (a_var (pv 3)) a_int (nomark _)) (pw_and1 (a_tcmp o_gt (a_var (pv 2)) a_int (nomark _)))))
  (as_cons (as_set (ps_set (i := 5) sc_l_statement.nd rfl (by first | exact Or.inl rfl | exact Or.inr rfl) (a_call (g_call (ok_l_expression T 4) (hr.mono (by omega)) (by rfl) pass0 (aa_cons (a_var (pv 0)) (aa_cons (a_var (pv 1)) (aa_cons a_int aa_nil)))))))
    (as_cons (as_set (ps_set (i := 7) sc_l_statement.nd rfl (by first | exact Or.inl rfl | exact Or.inr rfl) (a_call (g_call IB (hr.mono (by omega)) (by rfl) pass0 (aa_cons (a_var (pv 0)) (aa_cons (a_var (pv 1)) (aa_cons (a_op o_sub (a_var (pv 2)) a_int) (aa_cons a_int aa_nil))))))))
    (as_one (as_ret (ps_ret (a_tup (aa_cons a_str (aa_cons (a_var (pv 5)) (aa_cons (a_op (o_add (K := K)) (a_var (pv 7)) (a_tup (aa_cons (a_tup (aa_cons a_str (aa_cons (a_var (pv 4)) (aa_cons (a_tup (aa_cons a_str (aa_cons (a_tup (aa_cons a_str (aa_cons (a_var (pv 4)) aa_nil))) (aa_cons (a_tup (aa_cons a_str (aa_cons a_int aa_nil))) aa_nil)))) aa_nil)))) aa_nil))) aa_nil)))))))))
  as_nil)
  (as_cut (as_if (PW.pt (a_and (a_tcmp o_lt (a_var (pv 3)) a_int (nomark _)) (pw_and1 (a_tcmp o_gt (a_ix (o_ix (K := K)) (a_var (pv 1)) a_int (fun _ _ => rfl)) a_int (nomark _)))))
  (as_one (as_ret (ps_ret (a_tup (aa_cons a_str (aa_cons (a_var (pv 4)) (aa_cons (a_call (g_call (ok_l_drawE T) (hr.mono (by omega)) (by rfl) pass0 (aa_cons (a_var (pv 0)) (aa_cons (a_ix (o_ix (K := K)) (a_var (pv 1)) a_int (fun _ _ => rfl)) aa_nil)))) (aa_cons (a_call (g_call (ok_l_expression T 4) (hr.mono (by omega)) (by rfl) pass0 (aa_cons (a_var (pv 0)) (aa_cons (a_var (pv 1)) (aa_cons a_int aa_nil))))) aa_nil))))))))
  as_nil)
  (as_cons (as_if (a_tcmp (o_eq (K := K) (un64 hr)) (a_var (pv 3)) a_int (nomark _))
  (as_one (as_ret (ps_ret (a_tup (aa_cons a_str (aa_cons (a_var (pv 4)) (aa_cons (a_call (g_call (ok_l_drawE T) (hr.mono (by omega)) (by rfl) pass0 (aa_cons (a_var (pv 0)) (aa_cons (a_ix (o_ix (K := K)) (a_var (pv 1)) a_int (fun _ _ => rfl)) aa_nil)))) (aa_cons (a_call (g_call (ok_l_expression T 4) (hr.mono (by omega)) (by rfl) pass0 (aa_cons (a_var (pv 0)) (aa_cons (a_var (pv 1)) (aa_cons a_int aa_nil))))) aa_nil))))))))
  as_nil)
  (as_cut (as_if (PW.pt (a_and (a_tcmp o_lt (a_var (pv 3)) a_int (nomark _)) (pw_and1 (a_tcmp o_gt (a_callB (o_len (K := K)) (by rfl) T.b_len PySem.boot_len (aa_cons (a_ix (o_ix (K := K)) (a_var (pv 1)) a_int (fun _ _ => rfl)) aa_nil)) a_int (nomark _)))))
  (as_cons (as_set (ps_set (i := 8) sc_l_statement.nd rfl (by first | exact Or.inl rfl | exact Or.inr rfl) (a_call (g_call (ok_l_drawE T) (hr.mono (by omega)) (by rfl) pass0 (aa_cons (a_var (pv 0)) (aa_cons (a_callB (o_len (K := K)) (by rfl) T.b_len PySem.boot_len (aa_cons (a_ix (o_ix (K := K)) (a_var (pv 1)) a_int (fun _ _ => rfl)) aa_nil)) aa_nil))))))
    (as_one (as_ret (ps_ret (a_tup (aa_cons a_str (aa_cons (a_var (pv 8)) (aa_cons (a_call (g_call (ok_l_index T 4) (hr.mono (by omega)) (by rfl) pass0 (aa_cons (a_var (pv 0)) (aa_cons (a_var (pv 1)) (aa_cons (a_var (pv 8)) (aa_cons a_int aa_nil)))))) (aa_cons (a_call (g_call (ok_l_expression T 4) (hr.mono (by omega)) (by rfl) pass0 (aa_cons (a_var (pv 0)) (aa_cons (a_var (pv 1)) (aa_cons a_int aa_nil))))) aa_nil)))))))))
  as_nil)
  (as_cons (as_if (a_tcmp (o_eq (K := K) (un64 hr)) (a_var (pv 3)) a_int (nomark _))
  (as_one (as_ret (ps_ret (a_tup (aa_cons a_str (aa_cons (a_call (g_call (ok_l_expression T 4) (hr.mono (by omega)) (by rfl) pass0 (aa_cons (a_var (pv 0)) (aa_cons (a_var (pv 1)) (aa_cons a_int aa_nil))))) aa_nil))))))
  as_nil)
  (as_one (as_ret (ps_ret (a_tup (aa_cons a_str (aa_cons (a_var (pv 4)) (aa_cons (a_call (g_call (ok_l_expression T 4) (hr.mono (by omega)) (by rfl) pass0 (aa_cons (a_var (pv 0)) (aa_cons (a_var (pv 1)) (aa_cons a_int aa_nil))))) aa_nil))))))))))))))), ?_⟩
      have hnl := hs.nl
      have hnb := hs.nb
      have hnp := hs.np
      have hni := hs.ni
      walk_at "rd"
      walk_at "dr"
      intro kd s1 k0 k1 f1
      walk_at "rd"
      refine ⟨p, s1, _, _, rfl, hp.put, by omega, fun lo s2 l0 l1 f2 => ?_⟩
      obtain ⟨l, rfl⟩ := nat_of l0
      walk_at "rd"
      refine s_cut (fun xs M' => ∃ v5 v6 v7 v8 s3, xs = [some (.r p), some (shD h sizes), some (natD deep), some (.int kd), some (natD l), v5, v6, v7, v8] ∧ M' = u (PoolS.ob s3) ∧ s3.e.toNat ≤ s.e.toNat) ?_ ?_
      · walk_at "rd"
        refine G.i_d (fun h1 => ?_) (fun h1 => ?_)
        · walk_at "rd"
          refine G.i_d (fun h2 => ?_) (fun h2 => ?_)
          · have hx : (((deep : Nat) : Int) - 1) = ((deep - 1 : Nat) : Int) := by omega
            walk_at "rd"
            refine ⟨p, s2, _, h, sizes, 3, rfl, hp.put, hs, by omega, fun s3 t ht ws3 => ?_⟩
            walk_at "rd"
            rw [hx]
            refine ⟨p, s3, _, h, sizes, deep - 1, 3, rfl, hp.put, hs, by omega, by omega, fun s4 a ha hal hac => ?_⟩
            walk_at "rd"
            rw [hx]
            refine ⟨p, s4, _, h, sizes, deep - 1, 2, rfl, hp.put, hs, by omega, by omega, fun s5 b hb hbl hbc => ?_⟩
            walk_at "rd"
            have kk := k s5 (.ifs t a b) ⟨by omega, ht.mono (by omega), ⟨by omega, ha⟩, ⟨by omega, hb⟩⟩ (by simp only [St.wt, stsWt_app, stsWt, Ex.wt]; omega)
            rw [St.d, stsD_map, stsD_map] at kk
            exact kk
          · walk_at "rd"
            exact ⟨_, _, _, _, s2, rfl, rfl, by omega⟩
        · walk_at "rd"
          exact ⟨_, _, _, _, s2, rfl, rfl, by omega⟩
      · rintro xs M' ⟨v5, v6, v7, v8, s3, rfl, rfl, gs3⟩
        refine s_cut (fun xs M' => ∃ v5 v6 v7 v8 s3, xs = [some (.r p), some (shD h sizes), some (natD deep), some (.int kd), some (natD l), v5, v6, v7, v8] ∧ M' = u (PoolS.ob s3) ∧ s3.e.toNat ≤ s.e.toNat) ?_ ?_
        · walk_at "rd"
          refine G.i_d (fun h1 => ?_) (fun h1 => ?_)
          · walk_at "rd"
            refine G.i_d (fun h2 => ?_) (fun h2 => ?_)
            · have hx : (((deep : Nat) : Int) - 1) = ((deep - 1 : Nat) : Int) := by omega
              walk_at "rd"
              refine ⟨p, s3, _, h, sizes, 2, rfl, hp.put, hs, by omega, fun s4 t ht ws4 => ?_⟩
              walk_at "rd"
              rw [hx]
              refine ⟨p, s4, _, h, sizes, deep - 1, 3, rfl, hp.put, hs, by omega, by omega, fun s5 a ha hal hac => ?_⟩
              walk_at "rd"
              have kk := k s5 (.wh t (a ++ [.set l (.op "/" (.loc l) (.num 2))])) ⟨by omega, ht.mono (by omega), by rw [List.length_append, List.length_singleton]; omega, by
                rw [stsOk_iff] at ha ⊢
                intro y hy
                rcases List.mem_append.mp hy with q | q
                · exact ha y q
                · rw [List.mem_singleton.mp q]
                  exact ⟨by omega, ⟨by simp [opsL], by show l < h.nl; omega, by show 2 < 65536; omega⟩, by simp [Ex.dep]⟩⟩ (by simp only [St.wt, stsWt_app, stsWt, Ex.wt]; omega)
              rw [St.d, stsD_map, List.map_append] at kk
              exact kk
            · walk_at "rd"
              exact ⟨_, _, _, _, s3, rfl, rfl, by omega⟩
          · walk_at "rd"
            exact ⟨_, _, _, _, s3, rfl, rfl, by omega⟩
        · rintro xs M' ⟨v5, v6, v7, v8, s4, rfl, rfl, gs4⟩
          refine s_cut (fun xs M' => ∃ v5 v6 v7 v8 s3, xs = [some (.r p), some (shD h sizes), some (natD deep), some (.int kd), some (natD l), v5, v6, v7, v8] ∧ M' = u (PoolS.ob s3) ∧ s3.e.toNat ≤ s.e.toNat) ?_ ?_
          · walk_at "rd"
            refine G.i_d (fun h1 => ?_) (fun h1 => ?_)
            · walk_at "rd"
              refine G.i_d (fun h2 => ?_) (fun h2 => ?_)
              · walk_at "rd"
                refine ⟨p, s4, _, _, rfl, hp.put, by omega, fun i s5 i0 i1 ws5 => ?_⟩
                obtain ⟨i, rfl⟩ := nat_of i0
                walk_at "rd"
                refine ⟨p, s5, _, h, sizes, 3, rfl, hp.put, hs, by omega, fun s6 e he ws6 => ?_⟩
                walk_at "rd"
                exact k s6 (.use l i e) ⟨by omega, by omega, he.mono (by omega)⟩ (by simp only [St.wt]; omega)
              · walk_at "rd"
                exact ⟨_, _, _, _, s4, rfl, rfl, by omega⟩
            · walk_at "rd"
              exact ⟨_, _, _, _, s4, rfl, rfl, by omega⟩
          · rintro xs M' ⟨v5, v6, v7, v8, s5, rfl, rfl, gs5⟩
            walk_at "rd"
            refine G.i_d (fun h1 => ?_) (fun h1 => ?_)
            · walk_at "rd"
              refine ⟨p, s5, _, _, rfl, hp.put, by omega, fun i s6 i0 i1 ws6 => ?_⟩
              obtain ⟨i, rfl⟩ := nat_of i0
              walk_at "rd"
              refine ⟨p, s6, _, h, sizes, 2, rfl, hp.put, hs, by omega, fun s7 e he ws7 => ?_⟩
              walk_at "rd"
              exact k s7 (.call l i e) ⟨by omega, by omega, he.mono (by omega)⟩ (by simp only [St.wt]; omega)
            · walk_at "rd"
              refine s_cut (fun xs M' => ∃ v5 v6 v7 v8 s3, xs = [some (.r p), some (shD h sizes), some (natD deep), some (.int kd), some (natD l), v5, v6, v7, v8] ∧ M' = u (PoolS.ob s3) ∧ s3.e.toNat ≤ s.e.toNat) ?_ ?_
              · walk_at "rd"
                refine G.i_d (fun h2 => ?_) (fun h2 => ?_)
                · walk_at "rd"
                  rw [List.length_map]
                  refine G.i_d (fun h3 => ?_) (fun h3 => ?_)
                  · walk_at "rd"
                    rw [List.length_map]
                    refine ⟨p, s5, _, _, rfl, hp.put, by omega, fun i s6 i0 i1 ws6 => ?_⟩
                    obtain ⟨b, rfl⟩ := nat_of i0
                    walk_at "rd"
                    refine ⟨p, s6, _, h, sizes, b, 3, rfl, hp.put, hs, by omega, by omega, fun s7 e he ws7 => ?_⟩
                    walk_at "rd"
                    refine ⟨p, s7, _, h, sizes, 3, rfl, hp.put, hs, by omega, fun s8 e2 he2 ws8 => ?_⟩
                    walk_at "rd"
                    exact k s8 (.put b e e2) ⟨by omega, he.mono (by decide), he2.mono (by omega)⟩ (by simp only [St.wt]; omega)
                  · walk_at "rd"
                    exact ⟨_, _, _, _, s5, rfl, rfl, by omega⟩
                · walk_at "rd"
                  exact ⟨_, _, _, _, s5, rfl, rfl, by omega⟩
              · rintro xs M' ⟨v5, v6, v7, v8, s6, rfl, rfl, gs6⟩
                walk_at "rd"
                refine G.i_d (fun h2 => ?_) (fun h2 => ?_)
                · walk_at "rd"
                  refine ⟨p, s6, _, h, sizes, 3, rfl, hp.put, hs, by omega, fun s7 e he ws7 => ?_⟩
                  walk_at "rd"
                  exact k s7 (.ret e) (he.mono (by omega)) (by simp only [St.wt]; omega)
                · walk_at "rd"
                  refine ⟨p, s6, _, h, sizes, 4, rfl, hp.put, hs, by omega, fun s7 e he ws7 => ?_⟩
                  walk_at "rd"
                  exact k s7 (.set l e) ⟨by omega, he⟩ (by simp only [St.wt]; omega)
end



/-! ### drawn rows -/
/-- rows that make an interface -/
structure Good (rs : List (Int × List (Int × Int))) (n : Int) : Prop where
  len : 1 ≤ (rs.length : Int) ∧ (rs.length : Int) ≤ n
  ex : ∀ r ∈ rs, 1 ≤ r.1 ∧ r.1 ≤ 3
  im : ∀ r ∈ rs, r.2.length ≤ 5
  fit : ∀ (i : Nat) r, rs[i]? = some r → FitsI (rs.map (·.1)) i r.2
theorem Good.ok {rs : List (Int × List (Int × Int))} {n : Int} (g : Good rs n) (hn : n ≤ 8) : faultOf (rs.map (·.1)) (rs.map (·.2)) = none := by
  have hl := g.len
  unfold faultOf
  rw [List.length_map, if_neg (by omega), if_neg (by omega), List.find?_eq_none]
  intro j hj
  rw [List.mem_range] at hj
  have y : rs[j]? = some rs[j] := List.getElem?_eq_getElem hj
  have e1 : (rs.map (·.1)).getD j 0 = rs[j].1 := by rw [List.getD_eq_getElem?_getD, List.getElem?_map, y]; rfl
  have e2 : (rs.map (·.2)).getD j [] = rs[j].2 := by rw [List.getD_eq_getElem?_getD, List.getElem?_map, y]; rfl
  have h1 := g.ex _ (List.getElem_mem hj)
  have h2 := g.fit j _ y
  have : RowOk (rs.map (·.1)) (rs.map (·.2)) j := by
    unfold RowOk
    rw [e1, e2]
    exact ⟨⟨h1.1, by have := h1.2; omega⟩, h2⟩
  simp [this]
theorem Good.rsl {rs : List (Int × List (Int × Int))} {n : Int} (g : Good rs n) (hn : n ≤ 1000) : RsLen rs := by
  obtain ⟨h1, h2⟩ := g.len
  exact ⟨by omega, fun r hr => Nat.le_trans (g.im r hr) (by decide)⟩

/-! frozen data -/
theorem exd_fz : ∀ {e : Ex} {d : Nat}, e.dep ≤ d → FzOk (d + 1) e.d
  | .num n, d + 1, _ => by
    rw [Ex.d, FzOk]
    exact ⟨by simp, fun x hx => by simp only [List.mem_cons, List.not_mem_nil, or_false] at hx; rcases hx with rfl | rfl <;> exact trivial⟩
  | .loc n, d + 1, _ => by
    rw [Ex.d, FzOk]
    exact ⟨by simp, fun x hx => by simp only [List.mem_cons, List.not_mem_nil, or_false] at hx; rcases hx with rfl | rfl <;> exact trivial⟩
  | .get b e, d + 1, h => by
    rw [Ex.d, FzOk]
    refine ⟨by simp, fun x hx => ?_⟩
    simp only [List.mem_cons, List.not_mem_nil, or_false] at hx
    rcases hx with rfl | rfl | rfl
    · exact trivial
    · exact trivial
    · exact exd_fz (by simp only [Ex.dep] at h; omega)
  | .op z a b, d + 1, h => by
    rw [Ex.d, FzOk]
    refine ⟨by simp, fun x hx => ?_⟩
    simp only [Ex.dep] at h
    simp only [List.mem_cons, List.not_mem_nil, or_false] at hx
    rcases hx with rfl | rfl | rfl
    · exact trivial
    · exact exd_fz (by omega)
    · exact exd_fz (by omega)
  | e, 0, h => by have := e.dep_pos; omega
theorem froz_list {n : Nat} {ds : List D} (h : ∀ d ∈ ds, froz n d = d) : froz (n + 1) (.tup ds) = .tup ds := by
  rw [froz]
  congr 1
  rw [List.map_congr_left h, List.map_id']
theorem exd_froz : ∀ {e : Ex} (n : Nat), froz n e.d = e.d
  | e, 0 => by cases e <;> rfl
  | .num _, n + 1 => froz_list fun d hd => by simp only [List.mem_cons, List.not_mem_nil, or_false] at hd; rcases hd with rfl | rfl <;> cases n <;> rfl
  | .loc _, n + 1 => froz_list fun d hd => by simp only [List.mem_cons, List.not_mem_nil, or_false] at hd; rcases hd with rfl | rfl <;> cases n <;> rfl
  | .get b e, n + 1 => froz_list fun d hd => by
    simp only [List.mem_cons, List.not_mem_nil, or_false] at hd
    rcases hd with rfl | rfl | rfl
    · cases n <;> rfl
    · cases n <;> rfl
    · exact exd_froz n
  | .op z a b, n + 1 => froz_list fun d hd => by
    simp only [List.mem_cons, List.not_mem_nil, or_false] at hd
    rcases hd with rfl | rfl | rfl
    · cases n <;> rfl
    · exact exd_froz n
    · exact exd_froz n
theorem fz_int {n : Nat} {i : Int} : FzOk (n + 1) (.int i) := trivial
theorem fz_str {n : Nat} {z : Str} : FzOk (n + 1) (.str z) := trivial
theorem fr_int {n : Nat} {i : Int} : froz n (.int i) = .int i := by cases n <;> rfl
theorem fr_str {n : Nat} {z : Str} : froz n (.str z) = .str z := by cases n <;> rfl
/-- four parts at most -/
theorem fz_tup {n : Nat} {ds : List D} (hl : ds.length ≤ 1000000) (h : ∀ d ∈ ds, FzOk n d ∧ froz n d = d) : FzOk (n + 1) (.tup ds) ∧ froz (n + 1) (.tup ds) = .tup ds :=
  ⟨by rw [FzOk]; exact ⟨hl, fun d hd => (h d hd).1⟩, froz_list fun d hd => (h d hd).2⟩
theorem ex_fz {h : Sh} {e : Ex} {n d : Nat} (k : e.okd h d) (hn : d ≤ n) : FzOk (n + 1) e.d ∧ froz (n + 1) e.d = e.d := ⟨exd_fz (Nat.le_trans k.2 hn), exd_froz _⟩
mutual
theorem std_fz {h : Sh} : ∀ (x : St) (n : Nat), x.ok h n → ∀ m, 6 + 2 * n ≤ m → FzOk m x.d ∧ froz m x.d = x.d
  | .set l e, n, k, m + 1, hm => by
    rw [St.d]
    refine fz_tup (by simp) fun d hd => ?_
    obtain ⟨m, rfl⟩ : ∃ q, m = q + 1 := ⟨m - 1, by omega⟩
    simp only [List.mem_cons, List.not_mem_nil, or_false] at hd
    rcases hd with rfl | rfl | rfl
    · exact ⟨fz_str, fr_str⟩
    · exact ⟨fz_int, fr_int⟩
    · exact ex_fz k.2 (by omega)
  | .put b i e, n, k, m + 1, hm => by
    rw [St.d]
    refine fz_tup (by simp) fun d hd => ?_
    obtain ⟨m, rfl⟩ : ∃ q, m = q + 1 := ⟨m - 1, by omega⟩
    simp only [List.mem_cons, List.not_mem_nil, or_false] at hd
    rcases hd with rfl | rfl | rfl | rfl
    · exact ⟨fz_str, fr_str⟩
    · exact ⟨fz_int, fr_int⟩
    · exact ex_fz k.2.1 (by omega)
    · exact ex_fz k.2.2 (by omega)
  | .call l p e, n, k, m + 1, hm => by
    rw [St.d]
    refine fz_tup (by simp) fun d hd => ?_
    obtain ⟨m, rfl⟩ : ∃ q, m = q + 1 := ⟨m - 1, by omega⟩
    simp only [List.mem_cons, List.not_mem_nil, or_false] at hd
    rcases hd with rfl | rfl | rfl | rfl
    · exact ⟨fz_str, fr_str⟩
    · exact ⟨fz_int, fr_int⟩
    · exact ⟨fz_int, fr_int⟩
    · exact ex_fz k.2.2 (by omega)
  | .use l p e, n, k, m + 1, hm => by
    rw [St.d]
    refine fz_tup (by simp) fun d hd => ?_
    obtain ⟨m, rfl⟩ : ∃ q, m = q + 1 := ⟨m - 1, by omega⟩
    simp only [List.mem_cons, List.not_mem_nil, or_false] at hd
    rcases hd with rfl | rfl | rfl | rfl
    · exact ⟨fz_str, fr_str⟩
    · exact ⟨fz_int, fr_int⟩
    · exact ⟨fz_int, fr_int⟩
    · exact ex_fz k.2.2 (by omega)
  | .ifs t a b, n, k, m + 1, hm => by
    rw [St.ok] at k
    obtain ⟨hn, ht, ⟨hal, ha⟩, ⟨hbl, hb⟩⟩ := k
    rw [St.d]
    refine fz_tup (by simp) fun d hd => ?_
    obtain ⟨m, rfl⟩ : ∃ q, m = q + 1 := ⟨m - 1, by omega⟩
    simp only [List.mem_cons, List.not_mem_nil, or_false] at hd
    rcases hd with rfl | rfl | rfl | rfl
    · exact ⟨fz_str, fr_str⟩
    · exact ex_fz ht (by omega)
    · exact fz_tup (by rw [stsD_map, List.length_map]; omega) (stsd_fz a (n - 1) ha m (by omega))
    · exact fz_tup (by rw [stsD_map, List.length_map]; omega) (stsd_fz b (n - 1) hb m (by omega))
  | .wh t a, n, k, m + 1, hm => by
    rw [St.ok] at k
    obtain ⟨hn, ht, hal, ha⟩ := k
    rw [St.d]
    refine fz_tup (by simp) fun d hd => ?_
    obtain ⟨m, rfl⟩ : ∃ q, m = q + 1 := ⟨m - 1, by omega⟩
    simp only [List.mem_cons, List.not_mem_nil, or_false] at hd
    rcases hd with rfl | rfl | rfl
    · exact ⟨fz_str, fr_str⟩
    · exact ex_fz ht (by omega)
    · exact fz_tup (by rw [stsD_map, List.length_map]; omega) (stsd_fz a (n - 1) ha m (by omega))
  | .ret e, n, k, m + 1, hm => by
    rw [St.d]
    refine fz_tup (by simp) fun d hd => ?_
    obtain ⟨m, rfl⟩ : ∃ q, m = q + 1 := ⟨m - 1, by omega⟩
    simp only [List.mem_cons, List.not_mem_nil, or_false] at hd
    rcases hd with rfl | rfl
    · exact ⟨fz_str, fr_str⟩
    · exact ex_fz k (by omega)
  | _, n, _, 0, hm => by omega
theorem stsd_fz {h : Sh} : ∀ (xs : List St) (n : Nat), stsOk h xs n → ∀ m, 6 + 2 * n ≤ m → ∀ d ∈ stsD xs, FzOk m d ∧ froz m d = d
  | [], n, k, m, hm, d, hd => by rw [stsD] at hd; cases hd
  | x :: xs, n, k, m, hm, d, hd => by
    rw [stsOk] at k
    rw [stsD] at hd
    rcases List.mem_cons.mp hd with rfl | hd
    · exact std_fz x n k.1 m hm
    · exact stsd_fz xs n k.2 m hm d hd
end
theorem bufs_fz {c : Cm} {n ex ni m : Nat} (k : c.ok n ex ni) : FzOk (m + 3) (bufsD c.bufs) ∧ froz (m + 3) (bufsD c.bufs) = bufsD c.bufs := by
  refine fz_tup (by rw [List.length_map]; have := k.nb; omega) fun d hd => ?_
  obtain ⟨b, hb, rfl⟩ := List.mem_map.mp hd
  refine fz_tup (by rw [List.length_map]; have := (k.buf b hb).1; omega) fun d hd => ?_
  obtain ⟨x, _, rfl⟩ := List.mem_map.mp hd
  exact ⟨fz_int, fr_int⟩
theorem procs_fz {c : Cm} {n ex ni : Nat} (hn : n ≤ 6) (k : c.ok n ex ni) : FzOk 21 (procsD c.procs) ∧ froz 21 (procsD c.procs) = procsD c.procs := by
  refine fz_tup (by rw [List.length_map]; have := k.np; omega) fun d hd => ?_
  obtain ⟨p, hp, rfl⟩ := List.mem_map.mp hd
  have hk := k.proc p hp
  refine fz_tup (by simp) fun d hd => ?_
  simp only [List.mem_cons, List.not_mem_nil, or_false] at hd
  rcases hd with rfl | rfl
  · exact ⟨fz_int, fr_int⟩
  · refine fz_tup (by rw [List.length_map]; have := hk.2.1; omega) fun d hd => ?_
    rw [← stsD_map] at hd
    exact stsd_fz p.2 n hk.2.2 18 (by omega) d hd

/-! ### wide components -/
def sp_l_wide : ASp := fun ds M Q _ => ∃ (p : Addr) (s : PoolS) (u : Ob → Mem) (ni : Nat), ds = [.r p, natD ni] ∧ At M p s.ob u ∧ ni ≤ 100 ∧ ∀ (s' : PoolS) (c : Cm), (1 ≤ c.procs.length ∧ c.procs.length ≤ 8) → c.ok 6 c.procs.length ni → (∀ q ∈ c.procs, stsWt q.2 ≤ 75) → Q c.row (u s'.ob)
theorem pool_e {p : Addr} {u : Ob → Mem} {s : PoolS} {M : Mem} {b : Int} {Q : Mem → Prop} (h : At M p (PoolS.ob s) u) (k : ∀ s' : PoolS, s'.e = b → Q (u s'.ob)) : aSet (.r p) (.int 5) (.int b) M Q := by
  obtain ⟨a, b', c, d, e, ns, h0⟩ := s
  exact ⟨p, _, 5, 5, u, rfl, rfl, h, rfl, k ⟨a, b', c, d, b, ns, h0⟩ rfl⟩
section
variable {P : Program} {w : World} {K : PySem.W.Frag} {mg : Str → Option Value} {base : Heap} {C : Cs}
theorem ok_l_wide (T : Top w.params K mg) : Cal P w K mg base CX0 32 "_law_wide" ["pool", "imports"] (conSp K sp_l_wide) := by
  refine def_A T.f_l_wide sc_l_wide (fun _ _ _ _ _ _ us hl => match us, hl with | [_, _], _ => rfl) (fun ds M Q E h => ?_) (fun f cdv Ar outer s H E ds M Q EX hr h => ?_)
  · obtain ⟨p, s, u, ni, rfl, _⟩ := h
    rfl
  · obtain ⟨p, s, u, ni, rfl, hp, hni, k⟩ := h
    refine ⟨_, (as_cons (as_setLc finD_ok (ps_setLc (i := 2) (own := [("k", 3)]) rfl sc_l_wide.nd rfl rfl (sw_true rfl rfl rfl (by decide +kernel)) (ai_r1 (pi_range1 rfl T.b_range (aa_cons (a_call (g_call (ok_l_few T) (hr.mono (by decide)) (by rfl) pass0 (aa_cons (a_var (pv 0)) (aa_cons a_int aa_nil)))) aa_nil))) (blkOk_by (own := [("k", 3)]) (N := ["pool", "imports", "sizes", "k", "buffers", "size", "count", "procedures", "cells"]) (sc := defScope s_l_wide) (by decide +kernel)) (fun _ _ _ _ _ => (ag_name (pg_name (i := 3) sc_l_wide.nd rfl (Or.inl rfl)))) (fun _ _ _ _ _ => ats_nil) (fun _ _ _ _ _ => (a_op (o_add (K := K)) a_int (a_call (g_call (ok_l_draw T) (hr.mono (by decide)) (by rfl) pass0 (aa_cons (a_var (pv 0)) (aa_cons a_int aa_nil))))))))
  (as_cons (as_set (ps_set (i := 4) sc_l_wide.nd rfl (by first | exact Or.inl rfl | exact Or.inr rfl) (a_callTy (o_tup (K := K)) (by rfl) T.b_tuple (by decide +kernel) (aa_cons (a_lc finD_ok (pe_lc (own := [("size", 5)]) rfl sc_l_wide.nd (ai_of (g_it (K := K) (a_var (pv 2)))) (blkOk_by (own := [("size", 5)]) (N := ["pool", "imports", "sizes", "k", "buffers", "size", "count", "procedures", "cells"]) (sc := defScope s_l_wide) (by decide +kernel)) (fun _ _ _ _ _ => (ag_name (pg_name (i := 5) sc_l_wide.nd rfl (Or.inl rfl)))) (fun _ _ _ _ _ => ats_nil) (fun _ _ _ _ _ => (a_callTy (o_tup (K := K)) (by rfl) T.b_tuple (by decide +kernel) (aa_cons (a_lc finD_ok (pe_lc (own := [("k", 3)]) rfl sc_l_wide.nd (ai_r1 (pi_range1 rfl T.b_range (aa_cons (a_var (pv 5)) aa_nil))) (blkOk_by (own := [("k", 3)]) (by kernel_rfl)) (fun _ _ _ _ _ => (ag_name (pg_name (i := 3) sc_l_wide.nd rfl (Or.inl rfl)))) (fun _ _ _ _ _ => ats_nil) (fun _ _ _ _ _ => (a_call (g_call (ok_l_number T) (hr.mono (by decide)) (by rfl) pass0 (aa_cons (a_var (pv 0)) aa_nil)))))) aa_nil))))) aa_nil))))
  (as_cons (as_set (ps_set (i := 6) sc_l_wide.nd rfl (by first | exact Or.inl rfl | exact Or.inr rfl) (a_op (o_add (K := K)) a_int (a_call (g_call (ok_l_draw T) (hr.mono (by decide)) (by rfl) pass0 (aa_cons (a_var (pv 0)) (aa_cons a_int aa_nil)))))))
  (as_cons (as_set (ps_set (i := 7) sc_l_wide.nd rfl (by first | exact Or.inl rfl | exact Or.inr rfl) (a_lstO aa_nil)))
  (as_cons (as_for (ps_for PassesOwn.never rfl (ai_r1 (pi_range1 rfl T.b_range (aa_cons (a_var (pv 6)) aa_nil))) (ag_name (pg_name (i := 3) sc_l_wide.nd rfl (by first | exact Or.inl rfl | exact Or.inr rfl)))
  (as_cons (as_set (ps_set (i := 8) sc_l_wide.nd rfl (by first | exact Or.inl rfl | exact Or.inr rfl) (a_op (o_add (K := K)) a_int (a_call (g_call (ok_l_draw T) (hr.mono (by decide)) (by rfl) pass0 (aa_cons (a_var (pv 0)) (aa_cons a_int aa_nil)))))))
    (as_cons (as_asg (ps_asg a_int (ag_sub (pg_sub (a_var (pv 0)) a_int set_list))))
    (as_one (as_drop (ps_expr (a_bm o_app (pe_bm PySem.F.plainAttrs_list PySem.F.slot_list_append PySem.F.type_list_append mt_append (a_var (pv 7)) (aa_cons (a_tup (aa_cons (a_var (pv 8)) (aa_cons (a_call (g_call (ok_l_block_of T 7 (ok_l_statement T 7)) (hr.mono (by decide)) (by rfl) pass0 (aa_cons (a_var (pv 0)) (aa_cons (a_lst (aa_cons (a_var (pv 8)) (aa_cons (a_var (pv 2)) (aa_cons (a_var (pv 6)) (aa_cons (a_var (pv 1)) aa_nil))))) (aa_cons a_int (aa_cons a_int aa_nil)))))) aa_nil))) aa_nil))))))))))
  (as_one (as_ret (ps_ret (a_tup (aa_cons (a_call (g_call (ok_l_draw T) (hr.mono (by decide)) (by rfl) pass0 (aa_cons (a_var (pv 0)) (aa_cons a_int aa_nil)))) (aa_cons (a_var (pv 4)) (aa_cons (a_callTy (o_tup (K := K)) (by rfl) T.b_tuple (by decide +kernel) (aa_cons (a_var (pv 7)) aa_nil)) aa_nil)))))))))))), ?_⟩
    walk_at "rd"
    refine ⟨p, s, _, _, rfl, hp, by decide, fun c s1 c0 c1 => ?_⟩
    walk_at "rd"
    intro A1
    refine c_inv (fun i acc M' => ∃ (sz : List Nat) (s' : PoolS), acc = sz.map natD ∧ sz.length = i ∧ (∀ x ∈ sz, 1 ≤ x ∧ x ≤ 5) ∧ M' = u s'.ob) ⟨[], s1, rfl, rfl, by simp, rfl⟩ ?_ ?_
    · rintro i d acc M' hd hal ⟨sz, s2, rfl, hl, hsz, rfl⟩
      obtain ⟨hi, rfl⟩ := rng_get hd
      walk_at "rd"
      refine ⟨p, s2, _, _, rfl, .tl hp.put, by decide, fun v s3 v0 v1 => ?_⟩
      obtain ⟨v, rfl⟩ := nat_of v0
      walk_at "rd"
      refine .mk hal (by rw [line_val]; omega) ⟨sz ++ [1 + v], s3, by rw [List.map_append]; simp, by rw [List.length_append, hl]; rfl, fun x hx => ?_, rfl⟩
      rcases List.mem_append.mp hx with q | q
      · exact hsz x q
      · rw [List.mem_singleton.mp q]; omega
    · rintro acc M' hal ⟨sz, s2, rfl, hl, hsz, rfl⟩
      have hsl : sz.length ≤ 8 := by rw [List.length_map, List.length_range] at hl; omega
      refine fin_d ?_
      walk_at "rd"
      intro A2
      refine c_inv (fun i acc M' => ∃ (bs : List (List Nat)) (s' : PoolS), acc = bs.map bufD ∧ bs.length = i ∧ (∀ x ∈ bs, (1 ≤ x.length ∧ x.length ≤ 5) ∧ ∀ y ∈ x, y < 65536) ∧ M' = u s'.ob) ⟨[], s2, rfl, rfl, by simp, rfl⟩ ?_ ?_
      · rintro i d acc M' hd hal ⟨bs, s3, rfl, hl2, hbs, rfl⟩
        obtain ⟨z, hz, rfl⟩ := map_get hd
        have hzi := (List.getElem?_eq_some_iff.mp hz).1
        have hzz := hsz z (List.mem_of_getElem? hz)
        walk_at "rd"
        intro A3
        refine c_inv (fun j acc M' => ∃ (ws : List Nat) (s' : PoolS), acc = ws.map natD ∧ ws.length = j ∧ (∀ y ∈ ws, y < 65536) ∧ M' = (A2, .lst (bs.map bufD)) :: u s'.ob) ⟨[], s3, rfl, rfl, by simp, rfl⟩ ?_ ?_
        · rintro j d acc M' hd hal2 ⟨ws, s4, rfl, hl3, hws, rfl⟩
          obtain ⟨hj, rfl⟩ := rng_get hd
          walk_at "rd"
          refine ⟨p, s4, _, rfl, .tl (.tl hp.put), fun v s5 v0 v1 => ?_⟩
          obtain ⟨v, rfl⟩ := nat_of v0
          walk_at "rd"
          refine .mk hal2 (by rw [line_val]; omega) ⟨ws ++ [v], s5, by rw [List.map_append]; rfl, by rw [List.length_append, hl3]; rfl, fun x hx => ?_, rfl⟩
          rcases List.mem_append.mp hx with q | q
          · exact hws x q
          · rw [List.mem_singleton.mp q]; omega
        · rintro acc M' hal2 ⟨ws, s4, rfl, hl3, hws, rfl⟩
          rw [List.length_map, List.length_range] at hl3
          refine fin_d ?_
          walk_at "rd"
          refine .mk hal (by rw [line_val]; omega) ⟨bs ++ [ws], s4, by rw [List.map_append]; rfl, by rw [List.length_append, hl2]; rfl, fun x hx => ?_, rfl⟩
          rcases List.mem_append.mp hx with q | q
          · exact hbs x q
          · rw [List.mem_singleton.mp q]; exact ⟨by omega, hws⟩
      · rintro acc M' hal ⟨bs, s3, rfl, hl2, hbs, rfl⟩
        rw [List.length_map] at hl2
        refine fin_d ?_
        walk_at "rd"
        refine ⟨p, s3, _, _, rfl, hp.put, by decide, fun v s4 v0 v1 => ?_⟩
        obtain ⟨v, rfl⟩ := nat_of v0
        walk_at "rd"
        intro R
        walk_at "rd"
        refine f_rng (fun i xs M' => ∃ (v5 v10 : Option D) (ps : List (Nat × List St)) (s' : PoolS), xs = [some (.r p), some (natD ni), some (.lst (sz.map natD)), v5, some (.tup (bs.map bufD)), none, some (.int (1 + (v : Int))), some (.r R), v10] ∧ M' = (R, .lst (ps.map procD)) :: u s'.ob ∧ ps.length = i ∧
          ∀ q ∈ ps, ((1 ≤ q.1 ∧ q.1 ≤ 16) ∧ BkOk ⟨q.1, bs.length, 1 + v, ni⟩ 6 q.2) ∧ stsWt q.2 ≤ 75) ⟨_, _, [], s4, rfl, rfl, rfl, by simp⟩ ?_ ?_
        · rintro i xs M' hi ⟨v5, v10, ps, s5, rfl, rfl, hpl, hps⟩
          walk_at "rd"
          refine ⟨p, s5, _, _, rfl, .tl hp.put, by decide, fun c s6 c0 c1 => ?_⟩
          obtain ⟨c, rfl⟩ := nat_of c0
          walk_at "rd"
          refine pool_e (.tl hp.put) fun s7 e7 => ?_
          walk_at "rd"
          refine ⟨p, s7, _, ⟨1 + c, bs.length, 1 + v, ni⟩, sz, 6, 5, by simp [shD], .tl hp.put, ⟨by show 1 ≤ 1 + c ∧ 1 + c ≤ 100; omega, ⟨by show sz.length = bs.length; omega, by show bs.length ≤ 100; omega⟩, fun x hx => by have := hsz x hx; omega, by show 1 ≤ 1 + v ∧ 1 + v ≤ 100; omega, hni⟩, by decide, by decide, fun s8 xs hxs hxl hxc => ?_⟩
          walk_at "rd"
          refine ⟨_, _, ps ++ [(1 + c, xs)], s8, rfl, by rw [List.map_append]; simp, by rw [List.length_append, hpl]; rfl, fun q hq => ?_⟩
          rcases List.mem_append.mp hq with z | z
          · exact hps q z
          · rw [List.mem_singleton.mp z]; exact ⟨⟨⟨by show 1 ≤ 1 + c; omega, by show 1 + c ≤ 16; omega⟩, by show xs.length ≤ 1000; omega, hxs⟩, by show stsWt xs ≤ _; rw [e7] at hxc; omega⟩
        · rintro xs M' ⟨v5, v10, ps, s5, rfl, rfl, hpl, hps⟩
          walk_at "rd"
          refine ⟨p, s5, _, _, rfl, .tl hp.put, by decide, fun r s6 r0 r1 => ?_⟩
          obtain ⟨rm, rfl⟩ := nat_of r0
          walk_at "re"
          have hpl' : ps.length = 1 + v := by omega
          refine .fz (FzV.drop .hd) (k s6 ⟨rm, bs, ps⟩ ⟨by show 1 ≤ ps.length; omega, by show ps.length ≤ 8; omega⟩ ⟨by show rm ≤ 20000; omega, by show bs.length ≤ 8; omega, fun b' hb' => ⟨by have := (hbs b' hb').1; omega, (hbs b' hb').2⟩, by show 1 ≤ ps.length ∧ ps.length ≤ ps.length ∧ ps.length ≤ 9; omega, fun q hq => ?_⟩ fun q hq => (hps q hq).2)
          have := (hps q hq).1
          rw [← hpl'] at this
          exact this
end



/-! ### == of components -/
theorem pl_int {n : Nat} {i : Int} : (D.int i).pl n = true := by cases n <;> rfl
theorem pl_str {n : Nat} {z : Str} (h : PyData.strOk z = true) : (D.str z).pl n = true := by cases n <;> exact h
theorem ops_ok {z : Str} (h : z ∈ opsL) : PyData.strOk z = true := by
  simp only [opsL, List.mem_cons, List.not_mem_nil, or_false] at h
  rcases h with rfl | rfl | rfl | rfl | rfl | rfl | rfl <;> decide +kernel
theorem exd_pl {h : Sh} : ∀ {e : Ex} {d : Nat}, e.ok h → e.dep ≤ d → e.d.pl d = true
  | .num n, d + 1, _, _ => by
    rw [Ex.d]
    exact pl_tup fun x hx => by
      simp only [List.mem_cons, List.not_mem_nil, or_false] at hx
      rcases hx with rfl | rfl
      · exact pl_str (by decide +kernel)
      · exact pl_int
  | .loc n, d + 1, _, _ => by
    rw [Ex.d]
    exact pl_tup fun x hx => by
      simp only [List.mem_cons, List.not_mem_nil, or_false] at hx
      rcases hx with rfl | rfl
      · exact pl_str (by decide +kernel)
      · exact pl_int
  | .get b e, d + 1, k, hd => by
    rw [Ex.d]
    simp only [Ex.dep] at hd
    exact pl_tup fun x hx => by
      simp only [List.mem_cons, List.not_mem_nil, or_false] at hx
      rcases hx with rfl | rfl | rfl
      · exact pl_str (by decide +kernel)
      · exact pl_int
      · exact exd_pl k.2 (by omega)
  | .op z a b, d + 1, k, hd => by
    rw [Ex.d]
    simp only [Ex.dep] at hd
    exact pl_tup fun x hx => by
      simp only [List.mem_cons, List.not_mem_nil, or_false] at hx
      rcases hx with rfl | rfl | rfl
      · exact pl_str (ops_ok k.1)
      · exact exd_pl k.2.1 (by omega)
      · exact exd_pl k.2.2 (by omega)
  | e, 0, _, hd => by have := e.dep_pos; omega
mutual
theorem std_pl {h : Sh} : ∀ (x : St) (n : Nat), x.ok h n → ∀ m, 6 + 2 * n ≤ m → x.d.pl m = true
  | .set l e, n, k, m + 1, hm => by
    rw [St.d]
    refine pl_tup fun d hd => ?_
    simp only [List.mem_cons, List.not_mem_nil, or_false] at hd
    rcases hd with rfl | rfl | rfl
    · exact pl_str (by decide +kernel)
    · exact pl_int
    · exact exd_pl k.2.1 (by have := k.2.2; omega)
  | .put b i e, n, k, m + 1, hm => by
    rw [St.d]
    refine pl_tup fun d hd => ?_
    simp only [List.mem_cons, List.not_mem_nil, or_false] at hd
    rcases hd with rfl | rfl | rfl | rfl
    · exact pl_str (by decide +kernel)
    · exact pl_int
    · exact exd_pl k.2.1.1 (by have := k.2.1.2; omega)
    · exact exd_pl k.2.2.1 (by have := k.2.2.2; omega)
  | .call l p e, n, k, m + 1, hm => by
    rw [St.d]
    refine pl_tup fun d hd => ?_
    simp only [List.mem_cons, List.not_mem_nil, or_false] at hd
    rcases hd with rfl | rfl | rfl | rfl
    · exact pl_str (by decide +kernel)
    · exact pl_int
    · exact pl_int
    · exact exd_pl k.2.2.1 (by have := k.2.2.2; omega)
  | .use l p e, n, k, m + 1, hm => by
    rw [St.d]
    refine pl_tup fun d hd => ?_
    simp only [List.mem_cons, List.not_mem_nil, or_false] at hd
    rcases hd with rfl | rfl | rfl | rfl
    · exact pl_str (by decide +kernel)
    · exact pl_int
    · exact pl_int
    · exact exd_pl k.2.2.1 (by have := k.2.2.2; omega)
  | .ifs t a b, n, k, m + 1, hm => by
    rw [St.ok] at k
    obtain ⟨hn, ht, ⟨hal, ha⟩, ⟨hbl, hb⟩⟩ := k
    rw [St.d]
    obtain ⟨m, rfl⟩ : ∃ q, m = q + 1 := ⟨m - 1, by omega⟩
    refine pl_tup fun d hd => ?_
    simp only [List.mem_cons, List.not_mem_nil, or_false] at hd
    rcases hd with rfl | rfl | rfl | rfl
    · exact pl_str (by decide +kernel)
    · exact exd_pl ht.1 (by have := ht.2; omega)
    · exact pl_tup (stsd_pl a (n - 1) ha m (by omega))
    · exact pl_tup (stsd_pl b (n - 1) hb m (by omega))
  | .wh t a, n, k, m + 1, hm => by
    rw [St.ok] at k
    obtain ⟨hn, ht, hal, ha⟩ := k
    rw [St.d]
    obtain ⟨m, rfl⟩ : ∃ q, m = q + 1 := ⟨m - 1, by omega⟩
    refine pl_tup fun d hd => ?_
    simp only [List.mem_cons, List.not_mem_nil, or_false] at hd
    rcases hd with rfl | rfl | rfl
    · exact pl_str (by decide +kernel)
    · exact exd_pl ht.1 (by have := ht.2; omega)
    · exact pl_tup (stsd_pl a (n - 1) ha m (by omega))
  | .ret e, n, k, m + 1, hm => by
    rw [St.d]
    refine pl_tup fun d hd => ?_
    simp only [List.mem_cons, List.not_mem_nil, or_false] at hd
    rcases hd with rfl | rfl
    · exact pl_str (by decide +kernel)
    · exact exd_pl k.1 (by have := k.2; omega)
  | _, n, _, 0, hm => by omega
theorem stsd_pl {h : Sh} : ∀ (xs : List St) (n : Nat), stsOk h xs n → ∀ m, 6 + 2 * n ≤ m → ∀ d ∈ stsD xs, d.pl m = true
  | [], n, k, m, hm, d, hd => by rw [stsD] at hd; cases hd
  | x :: xs, n, k, m, hm, d, hd => by
    rw [stsOk] at k
    rw [stsD] at hd
    rcases List.mem_cons.mp hd with rfl | hd
    · exact std_pl x n k.1 m hm
    · exact stsd_pl xs n k.2 m hm d hd
end
theorem bufs_pl {bs : List (List Nat)} {m : Nat} : (bufsD bs).pl (m + 2) = true := pl_tup fun d hd => by
  obtain ⟨b, hb, rfl⟩ := List.mem_map.mp hd
  refine pl_tup fun d hd => ?_
  obtain ⟨x, _, rfl⟩ := List.mem_map.mp hd
  exact pl_int
theorem procs_pl {c : Cm} {n ex ni : Nat} (hn : n ≤ 6) (k : c.ok n ex ni) : (procsD c.procs).pl 21 = true := pl_tup fun d hd => by
  obtain ⟨p, hp, rfl⟩ := List.mem_map.mp hd
  have hk := k.proc p hp
  refine pl_tup fun d hd => ?_
  simp only [List.mem_cons, List.not_mem_nil, or_false] at hd
  rcases hd with rfl | rfl
  · exact pl_int
  · refine pl_tup fun d hd => ?_
    rw [← stsD_map] at hd
    exact stsd_pl p.2 n hk.2.2 18 (by omega) d hd

/-- components as drawn -/
def CmF (fs : List (Str × D)) : Prop := ∃ (c : Cm) (n ex ni : Nat), n ≤ 6 ∧ c.ok n ex ni ∧ fs = ([("room", natD c.room), ("buffers", bufsD c.bufs), ("procedures", procsD c.procs)] : List (Str × D))
def sp_Comp_eq (C : Cs) : ASp := fun ds M Q _ => ∃ fs, CmF fs ∧ ds = [.ins C.Component fs, .ins C.Component fs] ∧ Q (.bl true) M
section
variable {P : Program} {w : World} {K : PySem.W.Frag} {mg : Str → Option Value} {base : Heap} {C : Cs}
theorem ok_Component_eq (T : Top w.params K mg) (Z : Txt K mg C) : MCal P w K mg base CX0 1 C.Component "__eq__" ["self", "other"] (conSp K (sp_Comp_eq C)) := by
  refine met_A Z.m_Component_eq sc_Component_eq (fun _ _ _ _ _ _ us hl => match us, hl with | [_, _], _ => rfl) (fun ds M Q E h => ?_) (fun f cdv Ar outer s0 H E ds M Q EX hr h => ?_)
  · obtain ⟨fs, _, rfl, _⟩ := h
    rfl
  · obtain ⟨_, ⟨c, n, ex, ni, hn, ok, rfl⟩, rfl, k⟩ := h
    refine ⟨_, (as_one (as_ret (ps_ret (a_andT (K := K) (a_callB (o_isi (K := K)) (by rfl) T.b_isinstance (by decide +kernel) (aa_cons (a_var (pv 1)) (aa_cons (a_c (pe_glob (v := .ref C.Component) rfl Z.n_Component rfl) (fun _ => .r _)) aa_nil))) (a_andT (K := K) (a_cmp (o_eq (K := K) (un64 hr)) (a_fld (K := K) (a_var (pv 0))) (a_fld (K := K) (a_var (pv 1))) (nomark _)) (a_andT (K := K) (a_cmp (o_eq (K := K) (un64 hr)) (a_fld (K := K) (a_var (pv 0))) (a_fld (K := K) (a_var (pv 1))) (nomark _)) (pe_one (a_cmp (o_eq (K := K) (un64 hr)) (a_fld (K := K) (a_var (pv 0))) (a_fld (K := K) (a_var (pv 1))) (nomark _))))))))), ?_⟩
    have hc := Z.k_Component.cl
    have n1 := Z.a_Component_room
    have n2 := Z.a_Component_buffers
    have n3 := Z.a_Component_procedures
    have hk := Z.k_Component
    walk_at "rd"
    refine .dat 3 (.d bufs_pl) (.d bufs_pl) (by decide) fun b hb => ?_
    obtain rfl : b = true := hb.mpr rfl
    walk_at "rd"
    refine .dat 21 (.d (procs_pl hn ok)) (.d (procs_pl hn ok)) (by decide) fun b hb => ?_
    obtain rfl : b = true := hb.mpr rfl
    walk_at "rd"
    exact k
end

/-! ### == of codes -/
theorem natD_pl {l : List Nat} {n : Nat} : (D.tup (l.map natD)).pl (n + 1) = true := pl_tup fun d hd => by
  obtain ⟨i, _, rfl⟩ := List.mem_map.mp hd
  cases n <;> rfl
theorem natD_inj {a b : List Nat} : D.tup (a.map natD) = D.tup (b.map natD) ↔ a = b := by
  refine ⟨fun h => ?_, fun h => by rw [h]⟩
  injection h with h
  exact (List.map_inj_right (fun x y h => by injection h with h; omega)).mp h
def sp_Co_eq (C : Cs) : ASp := fun ds M Q _ => ∃ x y : Cd, ds = [cdD C x, cdD C y] ∧ ∀ b : Bool, (b = true ↔ x = y) → Q (.bl b) M
section
variable {P : Program} {w : World} {K : PySem.W.Frag} {mg : Str → Option Value} {base : Heap} {C : Cs}
theorem ok_Code_eq (T : Top w.params K mg) (Z : Txt K mg C) : MCal P w K mg base CX0 1 C.Code "__eq__" ["self", "other"] (conSp K (sp_Co_eq C)) := by
  refine met_A Z.m_Code_eq sc_Code_eq (fun _ _ _ _ _ _ us hl => match us, hl with | [_, _], _ => rfl) (fun ds M Q E h => ?_) (fun f cdv Ar outer s0 H E ds M Q EX hr h => ?_)
  · obtain ⟨x, y, rfl, _⟩ := h
    rfl
  · obtain ⟨⟨x1, x2⟩, ⟨y1, y2⟩, rfl, k⟩ := h
    refine ⟨_, (as_one (as_ret (ps_ret (a_andT (K := K) (a_callB (o_isi (K := K)) (by rfl) T.b_isinstance (by decide +kernel) (aa_cons (a_var (pv 1)) (aa_cons (a_c (pe_glob (v := .ref C.Code) rfl Z.n_Code rfl) (fun _ => .r _)) aa_nil))) (a_andT (K := K) (a_cmp (o_eq (K := K) (un64 hr)) (a_fld (K := K) (a_var (pv 0))) (a_fld (K := K) (a_var (pv 1))) (nomark _)) (pe_one (a_cmp (o_eq (K := K) (un64 hr)) (a_fld (K := K) (a_var (pv 0))) (a_fld (K := K) (a_var (pv 1))) (nomark _)))))))), ?_⟩
    have hc := Z.k_Code.cl
    have n1 := Z.a_Code_memory
    have n2 := Z.a_Code_entries
    have hk := Z.k_Code
    walk_at "rd"
    refine .dat 1 (.d natD_pl) (.d natD_pl) (by decide) fun b hb => ?_
    rw [natD_inj] at hb
    cases b with
    | false =>
      walk_at "rd"
      exact k false ⟨fun q => (by cases q), fun q => absurd (hb.mpr (congrArg Prod.fst q)) Bool.false_ne_true⟩
    | true =>
      walk_at "rd"
      refine .dat 1 (.d natD_pl) (.d natD_pl) (by decide) fun b2 hb2 => ?_
      rw [natD_inj] at hb2
      have h1 := hb.mp rfl
      dsimp only at h1
      subst h1
      walk_at "rd"
      exact k b2 ⟨fun q => by rw [show x2 = y2 from hb2.mp q], fun q => hb2.mpr (congrArg Prod.snd q)⟩
end



/-! ### a whole law: the script's ints, the answer True -/
def sp_law (K : PySem.W.Frag) : Sp := fun vs H Q _ => ∃ (a : Addr) (ns : List Int), vs = [.ref a] ∧ SqL K H a (ns.map V.int) ∧ ns.length ≤ 63 ∧ ∀ H', Q (.bl true) H'
def asp_law : ASp := fun ds M Q _ => ∃ ns : List Int, ds = [.scr (ns.map D.int)] ∧ ns.length ≤ 63 ∧ ∀ M', Q (.bl true) M'
theorem law_con {K : PySem.W.Frag} (vs : List V) (H : Hp) (Q : VK) (E : XK) (h : sp_law K vs H Q E) : conSp K asp_law vs H Q E := by
  obtain ⟨a, ns, rfl, s, hl, k⟩ := h
  refine ⟨[.scr (ns.map D.int)], [], H, fun d M => d = .bl true, noX, .cons (.scr s (by simp) fun i v d h1 h2 => ?_) .nil, ?_, ⟨ns, rfl, hl, fun _ => rfl⟩, fun d M' v H' F' e _ r _ => ?_, .none⟩
  · rw [List.getElem?_map] at h1 h2
    cases e : ns[i]? with
    | none => rw [e] at h1; cases h1
    | some z => rw [e] at h1 h2; cases h1; cases h2; exact .int z
  · exact ⟨Same.refl H, fun p hp => absurd hp (List.not_mem_nil), List.nodup_nil, fun p hp => absurd hp (List.not_mem_nil)⟩
  · subst e
    cases r
    exact k H'

/-! ### codes of a component -/
theorem ents_lt (c : Cm) (chk : Bool) (ex : Nat) : ∀ (ps : List (Nat × List St)) (s : CS) (i : Nat), (∀ e ∈ s.ents, e < s.mem.length) → ∀ e ∈ (procsC c chk ex s ps i).ents, e < (procsC c chk ex s ps i).mem.length
  | [], s, i, h => h
  | p :: ps, s, i, h => by
    rw [procsC]
    refine ents_lt c chk ex ps _ _ fun e he => ?_
    have hm : s.mem.length < (procC c chk s p (decide (i < ex))).mem.length := by
      unfold procC
      dsimp only
      simp only [List.length_append, List.length_cons, List.length_nil]
      omega
    have he : e ∈ (if decide (i < ex) = true then s.ents ++ [s.mem.length] else s.ents) := he
    split at he
    · rcases List.mem_append.mp he with q | q
      · exact Nat.lt_trans (h e q) hm
      · rw [List.mem_singleton.mp q]; exact hm
    · exact Nat.lt_trans (h e he) hm
theorem compC_lt {c : Cm} {ex : Nat} {chk : Bool} : ∀ e ∈ (compC c ex chk).2, e < (compC c ex chk).1.length := fun e he => by
  have h1 : (compC c ex chk).1.length = (compS c ex chk).mem.length := link_len _ _
  rw [h1]
  exact ents_lt c chk ex c.procs (exitC (dataC c)) 0 (by simp [exitC, dataC]) e he
theorem ok_room {c : Cm} {n e ni r : Nat} (h : c.ok n e ni) (hr : r ≤ 20000) : (⟨r, c.bufs, c.procs⟩ : Cm).ok n e ni := ⟨hr, h.nb, h.buf, h.np, h.proc⟩
def sp_l_right (C : Cs) : ASp := fun ds M Q _ => ∃ (x : Cd) (ex : Nat), ds = [cdD C x, natD ex] ∧ (0 < x.1.length ∧ x.1.length ≤ 60000) ∧ x.2.length = ex ∧ ex ≤ 1000 ∧ Wd x.1 ∧ (∀ e ∈ x.2, e < x.1.length) ∧ Q (.bl true) M
section
variable {P : Program} {w : World} {K : PySem.W.Frag} {mg : Str → Option Value} {base : Heap} {C : Cs}
theorem ok_l_right (T : Top w.params K mg) (Z : Txt K mg C) : Cal P w K mg base CX0 1 "_law_right" ["code", "exported"] (conSp K (sp_l_right C)) := by
  refine def_A T.f_l_right sc_l_right (fun _ _ _ _ _ _ us hl => match us, hl with | [_, _], _ => rfl) (fun ds M Q E h => ?_) (fun f cdv Ar outer s H E ds M Q EX hr h => ?_)
  · obtain ⟨x, ex, rfl, _⟩ := h
    rfl
  · obtain ⟨⟨m, e⟩, ex, rfl, hm, he, hex, hw, hl, k⟩ := h
    refine ⟨_, (as_cons (as_if (PW.pt (a_or (a_not (a_truth (K := K) (a_callB (o_isi (K := K)) (by rfl) T.b_isinstance (by decide +kernel) (aa_cons (a_var (pv 0)) (aa_cons (a_c (pe_glob (v := .ref C.Code) rfl Z.n_Code rfl) (fun _ => .r _)) aa_nil))) (by intro _; rfl))) (a_or (a_not (a_truth (K := K) (a_callB (o_isi (K := K)) (by rfl) T.b_isinstance (by decide +kernel) (aa_cons (a_fld (K := K) (a_var (pv 0))) (aa_cons (a_c (pe_bltn (v := .ty "tuple") (by rfl) T.b_tuple (by decide +kernel) rfl) (fun _ => .ty _)) aa_nil))) (by intro _; rfl))) (pw_or1 (a_not (a_truth (K := K) (a_callB (o_isi (K := K)) (by rfl) T.b_isinstance (by decide +kernel) (aa_cons (a_fld (K := K) (a_var (pv 0))) (aa_cons (a_c (pe_bltn (v := .ty "tuple") (by rfl) T.b_tuple (by decide +kernel) rfl) (fun _ => .ty _)) aa_nil))) (by intro _; rfl)))))))
  (as_one (as_ret (ps_ret a_bl)))
  as_nil)
  (as_cons (as_if (PW.pt (a_or (a_not (a_tchain o_lt o_le a_int (a_callB (o_len (K := K)) (by rfl) T.b_len PySem.boot_len (aa_cons (a_fld (K := K) (a_var (pv 0))) aa_nil)) a_int)) (pw_or1 (a_tcmp (o_ne (K := K) (un64 hr)) (a_callB (o_len (K := K)) (by rfl) T.b_len PySem.boot_len (aa_cons (a_fld (K := K) (a_var (pv 0))) aa_nil)) (a_var (pv 1)) (nomark _)))))
  (as_one (as_ret (ps_ret a_bl)))
  as_nil)
  (as_cons (as_for (ps_for PassesOwn.never rfl (ai_of (g_it (K := K) (a_fld (K := K) (a_var (pv 0))))) (ag_name (pg_name (i := 2) sc_l_right.nd rfl (by first | exact Or.inl rfl | exact Or.inr rfl)))
  (as_one (as_if (PW.pt (a_or (a_not (a_truth (K := K) (a_callB (o_isi (K := K)) (by rfl) T.b_isinstance (by decide +kernel) (aa_cons (a_var (pv 2)) (aa_cons (a_c (pe_bltn (v := .ty "int") (by rfl) T.b_int (by decide +kernel) rfl) (fun _ => .ty _)) aa_nil))) (by intro _; rfl))) (a_or (a_truth (K := K) (a_callB (o_isi (K := K)) (by rfl) T.b_isinstance (by decide +kernel) (aa_cons (a_var (pv 2)) (aa_cons (a_c (pe_bltn (v := .ty "bool") (by rfl) T.b_bool (by decide +kernel) rfl) (fun _ => .ty _)) aa_nil))) (by intro _; rfl)) (pw_or1 (a_not (a_tchain o_le o_le a_int (a_var (pv 2)) a_int))))))
    (as_one (as_ret (ps_ret a_bl)))
    as_nil))))
  (as_cons (as_for (ps_for PassesOwn.never rfl (ai_of (g_it (K := K) (a_fld (K := K) (a_var (pv 0))))) (ag_name (pg_name (i := 3) sc_l_right.nd rfl (by first | exact Or.inl rfl | exact Or.inr rfl)))
  (as_one (as_if (PW.pt (a_or (a_not (a_truth (K := K) (a_callB (o_isi (K := K)) (by rfl) T.b_isinstance (by decide +kernel) (aa_cons (a_var (pv 3)) (aa_cons (a_c (pe_bltn (v := .ty "int") (by rfl) T.b_int (by decide +kernel) rfl) (fun _ => .ty _)) aa_nil))) (by intro _; rfl))) (a_or (a_truth (K := K) (a_callB (o_isi (K := K)) (by rfl) T.b_isinstance (by decide +kernel) (aa_cons (a_var (pv 3)) (aa_cons (a_c (pe_bltn (v := .ty "bool") (by rfl) T.b_bool (by decide +kernel) rfl) (fun _ => .ty _)) aa_nil))) (by intro _; rfl)) (pw_or1 (a_not (a_tchain o_le o_lt a_int (a_var (pv 3)) (a_callB (o_len (K := K)) (by rfl) T.b_len PySem.boot_len (aa_cons (a_fld (K := K) (a_var (pv 0))) aa_nil))))))))
    (as_one (as_ret (ps_ret a_bl)))
    as_nil))))
  (as_one (as_ret (ps_ret a_bl))))))), ?_⟩
    have hcc := Z.k_Code.cl
    have hk := Z.k_Code
    have n1 := Z.a_Code_memory
    have n2 := Z.a_Code_entries
    dsimp only at hm he hw hl
    subst he
    have hz1 : (m.map natD).length < sizeLine := by rw [List.length_map, line_val]; omega
    have hz2 : (e.map natD).length < sizeLine := by rw [List.length_map, line_val]; omega
    walk_at "rd"
    rw [if_pos (decide_eq_true (show (0 : Int) < ((m.map natD).length : Int) by rw [List.length_map]; omega))]
    walk_at "rd"
    refine G.i_ndf (show ((m.map natD).length : Int) ≤ 60000 by rw [List.length_map]; omega) ?_
    walk_at "rd"
    refine G.i_ndf (show ((e.map natD).length : Int) = (e.length : Int) by rw [List.length_map]) ?_
    walk_at "rd"
    refine f_map _ (fun i xs M' => ∃ v, xs = [some (cdD C (m, e)), some (natD e.length), v, none] ∧ M' = M) ⟨_, rfl, rfl⟩ ?_ ?_
    · rintro i x xs M' hx ⟨v, rfl, rfl⟩
      have hxw : x < 65536 := hw x (List.mem_of_getElem? hx)
      walk_at "rd"
      exact ⟨_, rfl, rfl⟩
    · rintro xs M' ⟨v, rfl, rfl⟩
      walk_at "rd"
      refine f_map _ (fun i xs M2 => ∃ v', xs = [some (cdD C (m, e)), some (natD e.length), v, v'] ∧ M2 = M') ⟨_, rfl, rfl⟩ ?_ ?_
      · rintro i x xs M2 hx ⟨v', rfl, rfl⟩
        have hxw : x < m.length := hl x (List.mem_of_getElem? hx)
        walk_at "rd"
        refine G.i_ndf (show (x : Int) < ((m.map natD).length : Int) by rw [List.length_map]; omega) ?_
        walk_at "rd"
        exact ⟨_, rfl, rfl⟩
      · rintro xs M2 ⟨v', rfl, rfl⟩
        walk_at "rd"
        exact k
theorem ok_law (T : Top w.params K mg) (Z : Txt K mg C) : Cal P w K mg base CX0 34 "law" ["script"] (sp_law K) := by
  refine Cal.imp (sp := conSp K asp_law) ?_ law_con
  refine def_A T.f_law sc_law (fun _ _ _ _ _ _ us hl => match us, hl with | [_], _ => rfl) (fun ds M Q E h => ?_) (fun f cdv Ar outer s H E ds M Q EX hr h => ?_)
  · obtain ⟨ns, rfl, _⟩ := h
    rfl
  · obtain ⟨ns, rfl, hl, k⟩ := h
    refine ⟨_, (as_cons (as_set (ps_set (i := 1) sc_law.nd rfl (by first | exact Or.inl rfl | exact Or.inr rfl) (a_call (g_call (ok_l_pool T) (hr.mono (by decide)) (by rfl) pass0 (aa_cons (a_var (pv 0)) (aa_cons a_int aa_nil))))))
  (as_cons (as_set (ps_set (i := 2) sc_law.nd rfl (by first | exact Or.inl rfl | exact Or.inr rfl) (a_call (g_call (ok_l_wide T) (hr.mono (by decide)) (by rfl) pass0 (aa_cons (a_var (pv 1)) (aa_cons (a_call (g_call (ok_l_draw T) (hr.mono (by decide)) (by rfl) pass0 (aa_cons (a_var (pv 1)) (aa_cons a_int aa_nil)))) aa_nil))))))
  (as_cons (as_set (ps_set (i := 2) sc_law.nd rfl (by first | exact Or.inl rfl | exact Or.inr rfl) (a_tup (aa_cons (a_op o_mod (a_callTy o_int (by rfl) T.b_int (by decide +kernel) (aa_cons (a_ix (o_ix (K := K)) (a_var (pv 2)) a_int (fun _ _ => rfl)) aa_nil)) a_int) (aa_cons (a_ix (o_ix (K := K)) (a_var (pv 2)) a_int (fun _ _ => rfl)) (aa_cons (a_ix (o_ix (K := K)) (a_var (pv 2)) a_int (fun _ _ => rfl)) aa_nil))))))
  (as_cons (as_set (ps_set (i := 3) sc_law.nd rfl (by first | exact Or.inl rfl | exact Or.inr rfl) (a_mk finID_ok (g_makeX Z.k_Component (ok_Component_init T Z 21) (hr.mono (by decide)) (by rfl) Z.n_Component takesN (aa_cons (a_ix (o_ix (K := K)) (a_var (pv 2)) a_int (fun _ _ => rfl)) (aa_cons (a_ix (o_ix (K := K)) (a_var (pv 2)) a_int (fun _ _ => rfl)) (aa_cons (a_ix (o_ix (K := K)) (a_var (pv 2)) a_int (fun _ _ => rfl)) aa_nil)))))))
  (as_cons (as_set (ps_set (i := 4) sc_law.nd rfl (by first | exact Or.inl rfl | exact Or.inr rfl) (a_op (o_add (K := K)) a_int (a_call (g_call (ok_l_draw T) (hr.mono (by decide)) (by rfl) pass0 (aa_cons (a_var (pv 1)) (aa_cons (a_callB (o_len (K := K)) (by rfl) T.b_len PySem.boot_len (aa_cons (a_ix (o_ix (K := K)) (a_var (pv 2)) a_int (fun _ _ => rfl)) aa_nil)) aa_nil)))))))
  (as_cons (as_set (ps_set (i := 5) sc_law.nd rfl (by first | exact Or.inl rfl | exact Or.inr rfl) (a_callD (us := [.bl false]) (g_callD (ok_compile_component T Z 6) (hr.mono (by decide)) (by rfl) takesN (aa_cons (a_var (pv 3)) (aa_cons (a_var (pv 4)) aa_nil))) rvl_bl)))
  (as_cons (as_set (ps_set (i := 6) sc_law.nd rfl (by first | exact Or.inl rfl | exact Or.inr rfl) (a_callDK (n := 2) (g_callDK (ok_compile_component T Z 6) (hr.mono (by decide)) (by rfl) takesN (aa_cons (a_var (pv 3)) (aa_cons (a_var (pv 4)) aa_nil)) (pk_cons a_bl pk_nil)))))
  (as_cons (as_if (PW.pt (a_or (a_not (a_truth (K := K) (a_call (g_call (ok_l_right T Z) (hr.mono (by decide)) (by rfl) pass0 (aa_cons (a_var (pv 5)) (aa_cons (a_var (pv 4)) aa_nil)))) (by intro _; rfl))) (pw_or1 (a_not (a_truth (K := K) (a_call (g_call (ok_l_right T Z) (hr.mono (by decide)) (by rfl) pass0 (aa_cons (a_var (pv 6)) (aa_cons (a_var (pv 4)) aa_nil)))) (by intro _; rfl))))))
  (as_one (as_ret (ps_ret a_bl)))
  as_nil)
  (as_cons (as_if (a_not (a_truth (K := K) (a_call (g_call (ok_l_same T 2) (hr.mono (by decide)) (by rfl) pass0 (aa_cons (a_cmp (o_eqO (ok_Code_eq T Z) (hr.mono (by decide))) (a_callDK (n := 2) (g_callDK (ok_compile_component T Z 6) (hr.mono (by decide)) (by rfl) takesN (aa_cons (a_var (pv 3)) (aa_cons (a_var (pv 4)) aa_nil)) (pk_cons a_bl pk_nil))) (a_var (pv 5)) (nomark _)) (aa_cons a_bl aa_nil)))) (by intro _; rfl)))
  (as_one (as_ret (ps_ret a_bl)))
  as_nil)
  (as_cons (as_if (a_not (a_truth (K := K) (a_call (g_call (ok_l_same T 2) (hr.mono (by decide)) (by rfl) pass0 (aa_cons (a_cmp (o_eqO (ok_Code_eq T Z) (hr.mono (by decide))) (a_callDK (n := 2) (g_callDK (ok_compile_component T Z 6) (hr.mono (by decide)) (by rfl) takesN (aa_cons (a_var (pv 3)) (aa_cons (a_var (pv 4)) aa_nil)) (pk_cons a_bl pk_nil))) (a_var (pv 6)) (nomark _)) (aa_cons a_bl aa_nil)))) (by intro _; rfl)))
  (as_one (as_ret (ps_ret a_bl)))
  as_nil)
  (as_one (as_ret (ps_ret (a_call (g_call (ok_l_same T 2) (hr.mono (by decide)) (by rfl) pass0 (aa_cons (a_cmp (o_eqO (ok_Component_eq T Z) (hr.mono (by decide))) (a_var (pv 3)) (a_mk finID_ok (g_makeX Z.k_Component (ok_Component_init T Z 21) (hr.mono (by decide)) (by rfl) Z.n_Component takesN (aa_cons (a_ix (o_ix (K := K)) (a_var (pv 2)) a_int (fun _ _ => rfl)) (aa_cons (a_ix (o_ix (K := K)) (a_var (pv 2)) a_int (fun _ _ => rfl)) (aa_cons (a_ix (o_ix (K := K)) (a_var (pv 2)) a_int (fun _ _ => rfl)) aa_nil))))) (nomark _)) (aa_cons a_bl aa_nil))))))))))))))))), ?_⟩
    have hc := Z.k_Component.cl
    have hcc := Z.k_Code.cl
    walk_at "rd"
    refine ⟨ns, _, rfl, fun p s => ?_⟩
    walk_at "rd"
    refine ⟨p, s, _, _, rfl, .hd, by decide, fun ni s1 r0 r1 => ?_⟩
    obtain ⟨ni, rfl⟩ := nat_of r0
    walk_at "rd"
    refine ⟨p, s1, _, ni, rfl, .hd, by omega, fun s2 c0 hnp hok0 hcw => ?_⟩
    obtain ⟨c, hceq⟩ : ∃ c : Cm, c = ⟨c0.room % 2001, c0.bufs, c0.procs⟩ := ⟨_, rfl⟩
    have hok : c.ok 6 c0.procs.length ni := by rw [hceq]; exact ok_room hok0 (by omega)
    have e1 : c0.bufs = c.bufs := by rw [hceq]
    have e2 : c0.procs = c.procs := by rw [hceq]
    have e3 : D.int ((c0.room : Int) % 2001) = natD c.room := by rw [hceq]; rfl
    have hcw : ∀ q ∈ c.procs, stsWt q.2 ≤ 75 := by rw [← e2]; exact hcw
    rw [e2] at hnp hok
    have b1 := bufs_fz (m := 18) hok
    have b2 := procs_fz (by decide) hok
    have hcn : ∀ q ∈ c.procs, stsCnt q.2 ≤ 20000 := fun q hq => by have := stsCnt_wt q.2; have := hcw q hq; omega
    have cf : CmF [("room", natD c.room), ("buffers", bufsD c.bufs), ("procedures", procsD c.procs)] := ⟨c, _, _, _, by decide, hok, rfl⟩
    have eC : D.ins C.Component (compF 21 (natD c.room) (bufsD c.bufs) (procsD c.procs)) = Cm.d C c := by
      unfold Cm.d compF
      rw [b1.2, b2.2]
    have hz : (c.procs.map procD).length < sizeLine := by rw [List.length_map, line_val]; omega
    have one : ∀ (chk : Bool) (ex : Nat), ex ≤ c.procs.length → (compS c ex chk).mem.length ≤ 60000 ∧ (0 < (compC c ex chk).1.length ∧ (compC c ex chk).1.length ≤ 60000) ∧ (compC c ex chk).2.length = ex ∧ Wd (compC c ex chk).1 := fun chk ex hex => by
      have h1 := compS_size (ex := ex) (chk := chk) hok hcw
      have h2 : (compS c ex chk).mem.length ≤ 60000 := by omega
      obtain ⟨⟨a, b, d⟩, e, f⟩ := compC_ok (ex := ex) (chk := chk) hok (by omega) h2 hex
      exact ⟨h2, ⟨by omega, a⟩, e, d⟩
    unfold Cm.row
    rw [e1, e2]
    walk_at "rd"
    rw [e3]
    walk_at "rd"
    intro x
    refine ⟨x, _, natD c.room, bufsD c.bufs, procsD c.procs, rfl, .hd, b1.1, b2.1, ?_⟩
    walk_at "rd"
    refine ⟨rfl, _, _, .hd, ?_⟩
    rw [eC]
    walk_at "rd"
    rw [List.length_map]
    refine ⟨p, s2, _, _, rfl, .hd, by omega, fun ex s3 x0 x1 => ?_⟩
    obtain ⟨ex, rfl⟩ := nat_of x0
    have hex : 1 + ex ≤ c.procs.length := by omega
    obtain ⟨p1, p2, p3, p4⟩ := one false (1 + ex) hex
    obtain ⟨q1, q2, q3, q4⟩ := one true (1 + ex) hex
    walk_at "rd"
    rw [show (1 : Int) + (ex : Int) = ((1 + ex : Nat) : Int) by omega]
    refine ⟨c, _, ni, 1 + ex, false, rfl, by decide, hok, hcn, by omega, fun _ => ?_, fun h => absurd h (by omega)⟩
    walk_at "rd"
    refine ⟨rfl, c, _, ni, 1 + ex, true, rfl, by decide, hok, hcn, by omega, fun _ => ?_, fun h => absurd h (by omega)⟩
    walk_at "rd"
    refine ⟨_, 1 + ex, rfl, p2, p3, by omega, p4, compC_lt, ?_⟩
    walk_at "rd"
    refine ⟨_, 1 + ex, rfl, q2, q3, by omega, q4, compC_lt, ?_⟩
    walk_at "rd"
    refine ⟨rfl, c, _, ni, 1 + ex, false, rfl, by decide, hok, hcn, by omega, fun _ => ?_, fun h => absurd h (by omega)⟩
    walk_at "rd"
    refine ⟨⟨_, .d⟩, ⟨_, .d⟩, compC c (1 + ex) false, compC c (1 + ex) false, rfl, fun b hb => ?_⟩
    obtain rfl : b = true := hb.mpr rfl
    refine ⟨_, rfl, ?_⟩
    walk_at "rd"
    refine ⟨_, rfl, .bl _, ?_⟩
    walk_at "rd"
    refine ⟨rfl, c, _, ni, 1 + ex, true, rfl, by decide, hok, hcn, by omega, fun _ => ?_, fun h => absurd h (by omega)⟩
    walk_at "rd"
    refine ⟨⟨_, .d⟩, ⟨_, .d⟩, compC c (1 + ex) true, compC c (1 + ex) true, rfl, fun b hb => ?_⟩
    obtain rfl : b = true := hb.mpr rfl
    refine ⟨_, rfl, ?_⟩
    walk_at "rd"
    refine ⟨_, rfl, .bl _, ?_⟩
    walk_at "rd"
    intro x2
    refine ⟨x2, _, natD c.room, bufsD c.bufs, procsD c.procs, rfl, .hd, b1.1, b2.1, ?_⟩
    refine ⟨rfl, _, _, .hd, ?_⟩
    rw [eC]
    refine ⟨⟨_, .d⟩, ⟨_, .d⟩, _, cf, rfl, ?_⟩
    refine ⟨_, rfl, ?_⟩
    walk_at "rd"
    exact ⟨_, rfl, .bl _, .of (k _)⟩
end

theorem exm_mk {K : PySem.W.Frag} {R S : Addr} {b : Bool} (h1 : PySem.W.subIn K (.ref S) (.type "BaseException") = some true) (h2 : PySem.W.isClsIn K S = true) (h3 : PySem.W.typeIn K (.ref S) = some (.type "type")) (h4 : PySem.W.subIn K (.ref R) (.ref S) = some b) :
    PySem.W.exmOne K (.ref R) (.ref S) = some b := by
  have z2 : ((PySem.W.clsIn K S).isSome && PySem.W.typeIn K (.ref S) == some (.type "type")) = true := by
    have y : (PySem.W.clsIn K S).isSome = true := h2
    rw [y, h3] <;> rfl
  have z1 : (PySem.W.subIn K (.ref S) (.type "BaseException") == some true) = true := by rw [h1] <;> rfl
  unfold PySem.W.exmOne
  rw [if_pos z1]
  unfold PySem.W.kitCls
  exact (if_pos z2).trans h4
theorem kit_mk {K : PySem.W.Frag} {R S : Addr} {b : Bool} (h2 : PySem.W.isClsIn K S = true) (h3 : PySem.W.typeIn K (.ref S) = some (.type "type")) (h5 : PySem.W.subIn K (.ref S) (.ref S) = some true) (h4 : PySem.W.subIn K (.ref R) (.ref S) = some b) :
    PySem.W.kitOne K (.ref R) (.ref S) = some b := by
  have z2 : ((PySem.W.clsIn K S).isSome && PySem.W.typeIn K (.ref S) == some (.type "type")) = true := by
    have y : (PySem.W.clsIn K S).isSome = true := h2
    rw [y, h3] <;> rfl
  unfold PySem.W.kitOne
  by_cases e : R = S
  · rw [if_pos (by rw [e]; exact beq_self_eq_true _)]
    rw [e, h5] at h4
    exact h4
  · rw [if_neg fun z => e (Value.ref.inj (beq_iff_eq.mp z))]
    unfold PySem.W.kitCls
    exact (if_pos z2).trans h4
theorem txt_mk {K : PySem.W.Frag} {h : Heap} {mg : Str → Option Value} (X : K.In h) (G : h.Ns mainGlobals mg)
    {A_BlameError : Addr}
    {A_TooLarge : Addr}
    {A_Code : Addr}
    {A_Compiler : Addr}
    {A_Component : Addr}
    (n_BlameError : PySem.W.nsIn K mainGlobals "BlameError" = some (some (.ref A_BlameError)))
    (ex_BlameError : PySem.W.subIn K (.ref A_BlameError) (.type "BaseException") = some true)
    (ty_BlameError : PySem.W.typeIn K (.ref A_BlameError) = some (.type "type"))
    (ic_BlameError : PySem.W.isClsIn K A_BlameError = true)
    (ss_BlameError : PySem.W.subIn K (.ref A_BlameError) (.ref A_BlameError) = some true)
    (ga_BlameError : PySem.W.specialIn K (.ref A_BlameError) "__getattribute__" = some (some (.builtin "type.__getattribute__")))
    (rd_BlameError : PySem.W.readsIn K A_BlameError (.type "type") = true)
    (it_BlameError : PySem.W.findCls K (.ref A_BlameError) (.type "type") "__init__" = some (.val (.builtin "ValueError.__init__")))
    (n_TooLarge : PySem.W.nsIn K mainGlobals "TooLarge" = some (some (.ref A_TooLarge)))
    (ex_TooLarge : PySem.W.subIn K (.ref A_TooLarge) (.type "BaseException") = some true)
    (ty_TooLarge : PySem.W.typeIn K (.ref A_TooLarge) = some (.type "type"))
    (ic_TooLarge : PySem.W.isClsIn K A_TooLarge = true)
    (ss_TooLarge : PySem.W.subIn K (.ref A_TooLarge) (.ref A_TooLarge) = some true)
    {nm_TooLarge qn_TooLarge : Str} {N_TooLarge : Addr} {bs_TooLarge : List Value} {sn_TooLarge : List Str} {sub_TooLarge : List Value} {ab_TooLarge : Bool} {col_TooLarge : Option Bool} {dd_TooLarge : Option Addr} {m0_TooLarge m1_TooLarge m2_TooLarge m3_TooLarge m5_TooLarge : Option Value}
    (xl_TooLarge : K.lookup A_TooLarge = some (excClassObj nm_TooLarge qn_TooLarge A_TooLarge N_TooLarge bs_TooLarge [.ref A_BlameError, .type "ValueError", .type "Exception", .type "BaseException", .type "object"] true sn_TooLarge sub_TooLarge ab_TooLarge col_TooLarge dd_TooLarge m0_TooLarge m1_TooLarge m2_TooLarge m3_TooLarge m5_TooLarge "ValueError.__new__"))
    (sa_TooLarge : PySem.W.findIn K (.ref A_TooLarge) "__setattr__" = some (some (.builtin "object.__setattr__")))
    (kc_TooLarge : PySem.W.keepIn K (.ref A_TooLarge) = true)
    (ga_TooLarge : PySem.W.findIn K (.ref A_TooLarge) "__getattribute__" = some (some (.builtin "BaseException.__getattribute__")))
    (gg_TooLarge : PySem.W.findIn K (.ref A_TooLarge) "__getattr__" = some none)
    (hd_TooLarge : PySem.W.hasDictIn K A_TooLarge = true)
    (cc_TooLarge : PySem.W.findIn K (.ref A_TooLarge) "__class__" = some (some (.builtin "object.__class__")))
    (sp_TooLarge : PySem.W.specialIn K (.builtin "object.__class__") "__get__" = some (some (.builtin "getset_descriptor.__get__")))
    (tk_TooLarge : PySem.W.takesIn K (.builtin "object.__class__") = some true)
    (mo_TooLarge : PySem.W.mroIn K A_TooLarge (.type "object") = some true)
    {fTooLarge_init : Addr} {odTooLarge_init anTooLarge_init : Option Addr} {slTooLarge_init : Array (Option Value)} {ocTooLarge_init kVTooLarge_init dcTooLarge_init pmTooLarge_init cdTooLarge_init ctTooLarge_init : Value}
    (aTooLarge_init : PySem.W.findIn K (.ref A_TooLarge) "__init__" = some (some (.ref fTooLarge_init)))
    (iTooLarge_init : PySem.W.isFn K (.ref fTooLarge_init) = true)
    (lTooLarge_init : K.lookup fTooLarge_init = some ⟨ocTooLarge_init, odTooLarge_init, .func (PySem.W.fnOf "__init__" "TooLarge.__init__" (defArgs s_TooLarge_init) (defBody s_TooLarge_init) (defScope s_TooLarge_init) .none kVTooLarge_init dcTooLarge_init pmTooLarge_init anTooLarge_init cdTooLarge_init ctTooLarge_init), slTooLarge_init⟩)
    (cTooLarge_init : PySem.W.codeIn K cdTooLarge_init "TooLarge.__init__" = true)
    (kTooLarge_init : PySem.W.keepIn K (.ref fTooLarge_init) = true)
    (x_TooLarge_what : PySem.W.findIn K (.ref A_TooLarge) "what" = some none)
    (n_Code : PySem.W.nsIn K mainGlobals "Code" = some (some (.ref A_Code)))
    (pg_Code : PySem.W.plainGet K A_Code Str.empty = true)
    (hd_Code : PySem.W.hasDictIn K A_Code = true)
    (po_Code : PySem.W.plainOver K A_Code = true)
    (sa_Code : PySem.W.findIn K (.ref A_Code) "__setattr__" = some (some (.builtin "object.__setattr__")))
    (mk_Code : PySem.W.makesIn K A_Code = true)
    (kc_Code : PySem.W.keepIn K (.ref A_Code) = true)
    (cc_Code : PySem.W.findIn K (.ref A_Code) "__class__" = some (some (.builtin "object.__class__")))
    (sp_Code : PySem.W.specialIn K (.builtin "object.__class__") "__get__" = some (some (.builtin "getset_descriptor.__get__")))
    (tk_Code : PySem.W.takesIn K (.builtin "object.__class__") = some true)
    (mo_Code : PySem.W.mroIn K A_Code (.type "object") = some true)
    {fCode_init : Addr} {odCode_init anCode_init : Option Addr} {slCode_init : Array (Option Value)} {ocCode_init kVCode_init dcCode_init pmCode_init cdCode_init ctCode_init : Value}
    (aCode_init : PySem.W.findIn K (.ref A_Code) "__init__" = some (some (.ref fCode_init)))
    (iCode_init : PySem.W.isFn K (.ref fCode_init) = true)
    (lCode_init : K.lookup fCode_init = some ⟨ocCode_init, odCode_init, .func (PySem.W.fnOf "__init__" "Code.__init__" (defArgs s_Code_init) (defBody s_Code_init) (defScope s_Code_init) .none kVCode_init dcCode_init pmCode_init anCode_init cdCode_init ctCode_init), slCode_init⟩)
    (cCode_init : PySem.W.codeIn K cdCode_init "Code.__init__" = true)
    (kCode_init : PySem.W.keepIn K (.ref fCode_init) = true)
    {fCode_eq : Addr} {odCode_eq anCode_eq : Option Addr} {slCode_eq : Array (Option Value)} {ocCode_eq kVCode_eq dcCode_eq pmCode_eq cdCode_eq ctCode_eq : Value}
    (aCode_eq : PySem.W.findIn K (.ref A_Code) "__eq__" = some (some (.ref fCode_eq)))
    (iCode_eq : PySem.W.isFn K (.ref fCode_eq) = true)
    (lCode_eq : K.lookup fCode_eq = some ⟨ocCode_eq, odCode_eq, .func (PySem.W.fnOf "__eq__" "Code.__eq__" (defArgs s_Code_eq) (defBody s_Code_eq) (defScope s_Code_eq) .none kVCode_eq dcCode_eq pmCode_eq anCode_eq cdCode_eq ctCode_eq), slCode_eq⟩)
    (cCode_eq : PySem.W.codeIn K cdCode_eq "Code.__eq__" = true)
    (kCode_eq : PySem.W.keepIn K (.ref fCode_eq) = true)
    (x_Code_entries : PySem.W.findIn K (.ref A_Code) "entries" = some none)
    (x_Code_memory : PySem.W.findIn K (.ref A_Code) "memory" = some none)
    (n_Compiler : PySem.W.nsIn K mainGlobals "Compiler" = some (some (.ref A_Compiler)))
    (pg_Compiler : PySem.W.plainGet K A_Compiler Str.empty = true)
    (hd_Compiler : PySem.W.hasDictIn K A_Compiler = true)
    (po_Compiler : PySem.W.plainOver K A_Compiler = true)
    (sa_Compiler : PySem.W.findIn K (.ref A_Compiler) "__setattr__" = some (some (.builtin "object.__setattr__")))
    (mk_Compiler : PySem.W.makesIn K A_Compiler = true)
    (kc_Compiler : PySem.W.keepIn K (.ref A_Compiler) = true)
    (cc_Compiler : PySem.W.findIn K (.ref A_Compiler) "__class__" = some (some (.builtin "object.__class__")))
    (sp_Compiler : PySem.W.specialIn K (.builtin "object.__class__") "__get__" = some (some (.builtin "getset_descriptor.__get__")))
    (tk_Compiler : PySem.W.takesIn K (.builtin "object.__class__") = some true)
    (mo_Compiler : PySem.W.mroIn K A_Compiler (.type "object") = some true)
    {fCompiler_init : Addr} {odCompiler_init anCompiler_init : Option Addr} {slCompiler_init : Array (Option Value)} {ocCompiler_init kVCompiler_init dcCompiler_init pmCompiler_init cdCompiler_init ctCompiler_init : Value}
    (aCompiler_init : PySem.W.findIn K (.ref A_Compiler) "__init__" = some (some (.ref fCompiler_init)))
    (iCompiler_init : PySem.W.isFn K (.ref fCompiler_init) = true)
    (lCompiler_init : K.lookup fCompiler_init = some ⟨ocCompiler_init, odCompiler_init, .func (PySem.W.fnOf "__init__" "Compiler.__init__" (defArgs s_Compiler_init) (defBody s_Compiler_init) (defScope s_Compiler_init) .none kVCompiler_init dcCompiler_init pmCompiler_init anCompiler_init cdCompiler_init ctCompiler_init), slCompiler_init⟩)
    (cCompiler_init : PySem.W.codeIn K cdCompiler_init "Compiler.__init__" = true)
    (kCompiler_init : PySem.W.keepIn K (.ref fCompiler_init) = true)
    {fCompiler_here : Addr} {odCompiler_here anCompiler_here : Option Addr} {slCompiler_here : Array (Option Value)} {ocCompiler_here kVCompiler_here dcCompiler_here pmCompiler_here cdCompiler_here ctCompiler_here : Value}
    (aCompiler_here : PySem.W.findIn K (.ref A_Compiler) "here" = some (some (.ref fCompiler_here)))
    (iCompiler_here : PySem.W.isFn K (.ref fCompiler_here) = true)
    (lCompiler_here : K.lookup fCompiler_here = some ⟨ocCompiler_here, odCompiler_here, .func (PySem.W.fnOf "here" "Compiler.here" (defArgs s_Compiler_here) (defBody s_Compiler_here) (defScope s_Compiler_here) .none kVCompiler_here dcCompiler_here pmCompiler_here anCompiler_here cdCompiler_here ctCompiler_here), slCompiler_here⟩)
    (cCompiler_here : PySem.W.codeIn K cdCompiler_here "Compiler.here" = true)
    (kCompiler_here : PySem.W.keepIn K (.ref fCompiler_here) = true)
    {fCompiler_emit : Addr} {odCompiler_emit anCompiler_emit : Option Addr} {slCompiler_emit : Array (Option Value)} {ocCompiler_emit kVCompiler_emit dcCompiler_emit pmCompiler_emit cdCompiler_emit ctCompiler_emit : Value}
    (aCompiler_emit : PySem.W.findIn K (.ref A_Compiler) "emit" = some (some (.ref fCompiler_emit)))
    (iCompiler_emit : PySem.W.isFn K (.ref fCompiler_emit) = true)
    (lCompiler_emit : K.lookup fCompiler_emit = some ⟨ocCompiler_emit, odCompiler_emit, .func (PySem.W.fnOf "emit" "Compiler.emit" (defArgs s_Compiler_emit) (defBody s_Compiler_emit) (defScope s_Compiler_emit) .none kVCompiler_emit dcCompiler_emit pmCompiler_emit anCompiler_emit cdCompiler_emit ctCompiler_emit), slCompiler_emit⟩)
    (cCompiler_emit : PySem.W.codeIn K cdCompiler_emit "Compiler.emit" = true)
    (kCompiler_emit : PySem.W.keepIn K (.ref fCompiler_emit) = true)
    {fCompiler_add_data : Addr} {odCompiler_add_data anCompiler_add_data : Option Addr} {slCompiler_add_data : Array (Option Value)} {ocCompiler_add_data kVCompiler_add_data dcCompiler_add_data pmCompiler_add_data cdCompiler_add_data ctCompiler_add_data : Value}
    (aCompiler_add_data : PySem.W.findIn K (.ref A_Compiler) "add_data" = some (some (.ref fCompiler_add_data)))
    (iCompiler_add_data : PySem.W.isFn K (.ref fCompiler_add_data) = true)
    (lCompiler_add_data : K.lookup fCompiler_add_data = some ⟨ocCompiler_add_data, odCompiler_add_data, .func (PySem.W.fnOf "add_data" "Compiler.add_data" (defArgs s_Compiler_add_data) (defBody s_Compiler_add_data) (defScope s_Compiler_add_data) .none kVCompiler_add_data dcCompiler_add_data pmCompiler_add_data anCompiler_add_data cdCompiler_add_data ctCompiler_add_data), slCompiler_add_data⟩)
    (cCompiler_add_data : PySem.W.codeIn K cdCompiler_add_data "Compiler.add_data" = true)
    (kCompiler_add_data : PySem.W.keepIn K (.ref fCompiler_add_data) = true)
    {fCompiler_add_exits : Addr} {odCompiler_add_exits anCompiler_add_exits : Option Addr} {slCompiler_add_exits : Array (Option Value)} {ocCompiler_add_exits kVCompiler_add_exits dcCompiler_add_exits pmCompiler_add_exits cdCompiler_add_exits ctCompiler_add_exits : Value}
    (aCompiler_add_exits : PySem.W.findIn K (.ref A_Compiler) "add_exits" = some (some (.ref fCompiler_add_exits)))
    (iCompiler_add_exits : PySem.W.isFn K (.ref fCompiler_add_exits) = true)
    (lCompiler_add_exits : K.lookup fCompiler_add_exits = some ⟨ocCompiler_add_exits, odCompiler_add_exits, .func (PySem.W.fnOf "add_exits" "Compiler.add_exits" (defArgs s_Compiler_add_exits) (defBody s_Compiler_add_exits) (defScope s_Compiler_add_exits) .none kVCompiler_add_exits dcCompiler_add_exits pmCompiler_add_exits anCompiler_add_exits cdCompiler_add_exits ctCompiler_add_exits), slCompiler_add_exits⟩)
    (cCompiler_add_exits : PySem.W.codeIn K cdCompiler_add_exits "Compiler.add_exits" = true)
    (kCompiler_add_exits : PySem.W.keepIn K (.ref fCompiler_add_exits) = true)
    {fCompiler_add_procedure : Addr} {odCompiler_add_procedure anCompiler_add_procedure : Option Addr} {slCompiler_add_procedure : Array (Option Value)} {ocCompiler_add_procedure kVCompiler_add_procedure dcCompiler_add_procedure pmCompiler_add_procedure cdCompiler_add_procedure ctCompiler_add_procedure : Value}
    (aCompiler_add_procedure : PySem.W.findIn K (.ref A_Compiler) "add_procedure" = some (some (.ref fCompiler_add_procedure)))
    (iCompiler_add_procedure : PySem.W.isFn K (.ref fCompiler_add_procedure) = true)
    (lCompiler_add_procedure : K.lookup fCompiler_add_procedure = some ⟨ocCompiler_add_procedure, odCompiler_add_procedure, .func (PySem.W.fnOf "add_procedure" "Compiler.add_procedure" (defArgs s_Compiler_add_procedure) (defBody s_Compiler_add_procedure) (defScope s_Compiler_add_procedure) .none kVCompiler_add_procedure dcCompiler_add_procedure pmCompiler_add_procedure anCompiler_add_procedure cdCompiler_add_procedure ctCompiler_add_procedure), slCompiler_add_procedure⟩)
    (cCompiler_add_procedure : PySem.W.codeIn K cdCompiler_add_procedure "Compiler.add_procedure" = true)
    (kCompiler_add_procedure : PySem.W.keepIn K (.ref fCompiler_add_procedure) = true)
    {fCompiler_add_beginning : Addr} {odCompiler_add_beginning anCompiler_add_beginning : Option Addr} {slCompiler_add_beginning : Array (Option Value)} {ocCompiler_add_beginning kVCompiler_add_beginning dcCompiler_add_beginning pmCompiler_add_beginning cdCompiler_add_beginning ctCompiler_add_beginning : Value}
    (aCompiler_add_beginning : PySem.W.findIn K (.ref A_Compiler) "add_beginning" = some (some (.ref fCompiler_add_beginning)))
    (iCompiler_add_beginning : PySem.W.isFn K (.ref fCompiler_add_beginning) = true)
    (lCompiler_add_beginning : K.lookup fCompiler_add_beginning = some ⟨ocCompiler_add_beginning, odCompiler_add_beginning, .func (PySem.W.fnOf "add_beginning" "Compiler.add_beginning" (defArgs s_Compiler_add_beginning) (defBody s_Compiler_add_beginning) (defScope s_Compiler_add_beginning) .none kVCompiler_add_beginning dcCompiler_add_beginning pmCompiler_add_beginning anCompiler_add_beginning cdCompiler_add_beginning ctCompiler_add_beginning), slCompiler_add_beginning⟩)
    (cCompiler_add_beginning : PySem.W.codeIn K cdCompiler_add_beginning "Compiler.add_beginning" = true)
    (kCompiler_add_beginning : PySem.W.keepIn K (.ref fCompiler_add_beginning) = true)
    {fCompiler_add_ending : Addr} {odCompiler_add_ending anCompiler_add_ending : Option Addr} {slCompiler_add_ending : Array (Option Value)} {ocCompiler_add_ending kVCompiler_add_ending dcCompiler_add_ending pmCompiler_add_ending cdCompiler_add_ending ctCompiler_add_ending : Value}
    (aCompiler_add_ending : PySem.W.findIn K (.ref A_Compiler) "add_ending" = some (some (.ref fCompiler_add_ending)))
    (iCompiler_add_ending : PySem.W.isFn K (.ref fCompiler_add_ending) = true)
    (lCompiler_add_ending : K.lookup fCompiler_add_ending = some ⟨ocCompiler_add_ending, odCompiler_add_ending, .func (PySem.W.fnOf "add_ending" "Compiler.add_ending" (defArgs s_Compiler_add_ending) (defBody s_Compiler_add_ending) (defScope s_Compiler_add_ending) .none kVCompiler_add_ending dcCompiler_add_ending pmCompiler_add_ending anCompiler_add_ending cdCompiler_add_ending ctCompiler_add_ending), slCompiler_add_ending⟩)
    (cCompiler_add_ending : PySem.W.codeIn K cdCompiler_add_ending "Compiler.add_ending" = true)
    (kCompiler_add_ending : PySem.W.keepIn K (.ref fCompiler_add_ending) = true)
    {fCompiler_caller_offset : Addr} {odCompiler_caller_offset anCompiler_caller_offset : Option Addr} {slCompiler_caller_offset : Array (Option Value)} {ocCompiler_caller_offset kVCompiler_caller_offset dcCompiler_caller_offset pmCompiler_caller_offset cdCompiler_caller_offset ctCompiler_caller_offset : Value}
    (aCompiler_caller_offset : PySem.W.findIn K (.ref A_Compiler) "caller_offset" = some (some (.ref fCompiler_caller_offset)))
    (iCompiler_caller_offset : PySem.W.isFn K (.ref fCompiler_caller_offset) = true)
    (lCompiler_caller_offset : K.lookup fCompiler_caller_offset = some ⟨ocCompiler_caller_offset, odCompiler_caller_offset, .func (PySem.W.fnOf "caller_offset" "Compiler.caller_offset" (defArgs s_Compiler_caller_offset) (defBody s_Compiler_caller_offset) (defScope s_Compiler_caller_offset) .none kVCompiler_caller_offset dcCompiler_caller_offset pmCompiler_caller_offset anCompiler_caller_offset cdCompiler_caller_offset ctCompiler_caller_offset), slCompiler_caller_offset⟩)
    (cCompiler_caller_offset : PySem.W.codeIn K cdCompiler_caller_offset "Compiler.caller_offset" = true)
    (kCompiler_caller_offset : PySem.W.keepIn K (.ref fCompiler_caller_offset) = true)
    {fCompiler_local_offset : Addr} {odCompiler_local_offset anCompiler_local_offset : Option Addr} {slCompiler_local_offset : Array (Option Value)} {ocCompiler_local_offset kVCompiler_local_offset dcCompiler_local_offset pmCompiler_local_offset cdCompiler_local_offset ctCompiler_local_offset : Value}
    (aCompiler_local_offset : PySem.W.findIn K (.ref A_Compiler) "local_offset" = some (some (.ref fCompiler_local_offset)))
    (iCompiler_local_offset : PySem.W.isFn K (.ref fCompiler_local_offset) = true)
    (lCompiler_local_offset : K.lookup fCompiler_local_offset = some ⟨ocCompiler_local_offset, odCompiler_local_offset, .func (PySem.W.fnOf "local_offset" "Compiler.local_offset" (defArgs s_Compiler_local_offset) (defBody s_Compiler_local_offset) (defScope s_Compiler_local_offset) .none kVCompiler_local_offset dcCompiler_local_offset pmCompiler_local_offset anCompiler_local_offset cdCompiler_local_offset ctCompiler_local_offset), slCompiler_local_offset⟩)
    (cCompiler_local_offset : PySem.W.codeIn K cdCompiler_local_offset "Compiler.local_offset" = true)
    (kCompiler_local_offset : PySem.W.keepIn K (.ref fCompiler_local_offset) = true)
    {fCompiler_add_block : Addr} {odCompiler_add_block anCompiler_add_block : Option Addr} {slCompiler_add_block : Array (Option Value)} {ocCompiler_add_block kVCompiler_add_block dcCompiler_add_block pmCompiler_add_block cdCompiler_add_block ctCompiler_add_block : Value}
    (aCompiler_add_block : PySem.W.findIn K (.ref A_Compiler) "add_block" = some (some (.ref fCompiler_add_block)))
    (iCompiler_add_block : PySem.W.isFn K (.ref fCompiler_add_block) = true)
    (lCompiler_add_block : K.lookup fCompiler_add_block = some ⟨ocCompiler_add_block, odCompiler_add_block, .func (PySem.W.fnOf "add_block" "Compiler.add_block" (defArgs s_Compiler_add_block) (defBody s_Compiler_add_block) (defScope s_Compiler_add_block) .none kVCompiler_add_block dcCompiler_add_block pmCompiler_add_block anCompiler_add_block cdCompiler_add_block ctCompiler_add_block), slCompiler_add_block⟩)
    (cCompiler_add_block : PySem.W.codeIn K cdCompiler_add_block "Compiler.add_block" = true)
    (kCompiler_add_block : PySem.W.keepIn K (.ref fCompiler_add_block) = true)
    {fCompiler_add_statement : Addr} {odCompiler_add_statement anCompiler_add_statement : Option Addr} {slCompiler_add_statement : Array (Option Value)} {ocCompiler_add_statement kVCompiler_add_statement dcCompiler_add_statement pmCompiler_add_statement cdCompiler_add_statement ctCompiler_add_statement : Value}
    (aCompiler_add_statement : PySem.W.findIn K (.ref A_Compiler) "add_statement" = some (some (.ref fCompiler_add_statement)))
    (iCompiler_add_statement : PySem.W.isFn K (.ref fCompiler_add_statement) = true)
    (lCompiler_add_statement : K.lookup fCompiler_add_statement = some ⟨ocCompiler_add_statement, odCompiler_add_statement, .func (PySem.W.fnOf "add_statement" "Compiler.add_statement" (defArgs s_Compiler_add_statement) (defBody s_Compiler_add_statement) (defScope s_Compiler_add_statement) .none kVCompiler_add_statement dcCompiler_add_statement pmCompiler_add_statement anCompiler_add_statement cdCompiler_add_statement ctCompiler_add_statement), slCompiler_add_statement⟩)
    (cCompiler_add_statement : PySem.W.codeIn K cdCompiler_add_statement "Compiler.add_statement" = true)
    (kCompiler_add_statement : PySem.W.keepIn K (.ref fCompiler_add_statement) = true)
    {fCompiler_add_put : Addr} {odCompiler_add_put anCompiler_add_put : Option Addr} {slCompiler_add_put : Array (Option Value)} {ocCompiler_add_put kVCompiler_add_put dcCompiler_add_put pmCompiler_add_put cdCompiler_add_put ctCompiler_add_put : Value}
    (aCompiler_add_put : PySem.W.findIn K (.ref A_Compiler) "add_put" = some (some (.ref fCompiler_add_put)))
    (iCompiler_add_put : PySem.W.isFn K (.ref fCompiler_add_put) = true)
    (lCompiler_add_put : K.lookup fCompiler_add_put = some ⟨ocCompiler_add_put, odCompiler_add_put, .func (PySem.W.fnOf "add_put" "Compiler.add_put" (defArgs s_Compiler_add_put) (defBody s_Compiler_add_put) (defScope s_Compiler_add_put) .none kVCompiler_add_put dcCompiler_add_put pmCompiler_add_put anCompiler_add_put cdCompiler_add_put ctCompiler_add_put), slCompiler_add_put⟩)
    (cCompiler_add_put : PySem.W.codeIn K cdCompiler_add_put "Compiler.add_put" = true)
    (kCompiler_add_put : PySem.W.keepIn K (.ref fCompiler_add_put) = true)
    {fCompiler_add_call : Addr} {odCompiler_add_call anCompiler_add_call : Option Addr} {slCompiler_add_call : Array (Option Value)} {ocCompiler_add_call kVCompiler_add_call dcCompiler_add_call pmCompiler_add_call cdCompiler_add_call ctCompiler_add_call : Value}
    (aCompiler_add_call : PySem.W.findIn K (.ref A_Compiler) "add_call" = some (some (.ref fCompiler_add_call)))
    (iCompiler_add_call : PySem.W.isFn K (.ref fCompiler_add_call) = true)
    (lCompiler_add_call : K.lookup fCompiler_add_call = some ⟨ocCompiler_add_call, odCompiler_add_call, .func (PySem.W.fnOf "add_call" "Compiler.add_call" (defArgs s_Compiler_add_call) (defBody s_Compiler_add_call) (defScope s_Compiler_add_call) .none kVCompiler_add_call dcCompiler_add_call pmCompiler_add_call anCompiler_add_call cdCompiler_add_call ctCompiler_add_call), slCompiler_add_call⟩)
    (cCompiler_add_call : PySem.W.codeIn K cdCompiler_add_call "Compiler.add_call" = true)
    (kCompiler_add_call : PySem.W.keepIn K (.ref fCompiler_add_call) = true)
    {fCompiler_add_use : Addr} {odCompiler_add_use anCompiler_add_use : Option Addr} {slCompiler_add_use : Array (Option Value)} {ocCompiler_add_use kVCompiler_add_use dcCompiler_add_use pmCompiler_add_use cdCompiler_add_use ctCompiler_add_use : Value}
    (aCompiler_add_use : PySem.W.findIn K (.ref A_Compiler) "add_use" = some (some (.ref fCompiler_add_use)))
    (iCompiler_add_use : PySem.W.isFn K (.ref fCompiler_add_use) = true)
    (lCompiler_add_use : K.lookup fCompiler_add_use = some ⟨ocCompiler_add_use, odCompiler_add_use, .func (PySem.W.fnOf "add_use" "Compiler.add_use" (defArgs s_Compiler_add_use) (defBody s_Compiler_add_use) (defScope s_Compiler_add_use) .none kVCompiler_add_use dcCompiler_add_use pmCompiler_add_use anCompiler_add_use cdCompiler_add_use ctCompiler_add_use), slCompiler_add_use⟩)
    (cCompiler_add_use : PySem.W.codeIn K cdCompiler_add_use "Compiler.add_use" = true)
    (kCompiler_add_use : PySem.W.keepIn K (.ref fCompiler_add_use) = true)
    {fCompiler_add_if : Addr} {odCompiler_add_if anCompiler_add_if : Option Addr} {slCompiler_add_if : Array (Option Value)} {ocCompiler_add_if kVCompiler_add_if dcCompiler_add_if pmCompiler_add_if cdCompiler_add_if ctCompiler_add_if : Value}
    (aCompiler_add_if : PySem.W.findIn K (.ref A_Compiler) "add_if" = some (some (.ref fCompiler_add_if)))
    (iCompiler_add_if : PySem.W.isFn K (.ref fCompiler_add_if) = true)
    (lCompiler_add_if : K.lookup fCompiler_add_if = some ⟨ocCompiler_add_if, odCompiler_add_if, .func (PySem.W.fnOf "add_if" "Compiler.add_if" (defArgs s_Compiler_add_if) (defBody s_Compiler_add_if) (defScope s_Compiler_add_if) .none kVCompiler_add_if dcCompiler_add_if pmCompiler_add_if anCompiler_add_if cdCompiler_add_if ctCompiler_add_if), slCompiler_add_if⟩)
    (cCompiler_add_if : PySem.W.codeIn K cdCompiler_add_if "Compiler.add_if" = true)
    (kCompiler_add_if : PySem.W.keepIn K (.ref fCompiler_add_if) = true)
    {fCompiler_add_while : Addr} {odCompiler_add_while anCompiler_add_while : Option Addr} {slCompiler_add_while : Array (Option Value)} {ocCompiler_add_while kVCompiler_add_while dcCompiler_add_while pmCompiler_add_while cdCompiler_add_while ctCompiler_add_while : Value}
    (aCompiler_add_while : PySem.W.findIn K (.ref A_Compiler) "add_while" = some (some (.ref fCompiler_add_while)))
    (iCompiler_add_while : PySem.W.isFn K (.ref fCompiler_add_while) = true)
    (lCompiler_add_while : K.lookup fCompiler_add_while = some ⟨ocCompiler_add_while, odCompiler_add_while, .func (PySem.W.fnOf "add_while" "Compiler.add_while" (defArgs s_Compiler_add_while) (defBody s_Compiler_add_while) (defScope s_Compiler_add_while) .none kVCompiler_add_while dcCompiler_add_while pmCompiler_add_while anCompiler_add_while cdCompiler_add_while ctCompiler_add_while), slCompiler_add_while⟩)
    (cCompiler_add_while : PySem.W.codeIn K cdCompiler_add_while "Compiler.add_while" = true)
    (kCompiler_add_while : PySem.W.keepIn K (.ref fCompiler_add_while) = true)
    {fCompiler_add_value : Addr} {odCompiler_add_value anCompiler_add_value : Option Addr} {slCompiler_add_value : Array (Option Value)} {ocCompiler_add_value kVCompiler_add_value dcCompiler_add_value pmCompiler_add_value cdCompiler_add_value ctCompiler_add_value : Value}
    (aCompiler_add_value : PySem.W.findIn K (.ref A_Compiler) "add_value" = some (some (.ref fCompiler_add_value)))
    (iCompiler_add_value : PySem.W.isFn K (.ref fCompiler_add_value) = true)
    (lCompiler_add_value : K.lookup fCompiler_add_value = some ⟨ocCompiler_add_value, odCompiler_add_value, .func (PySem.W.fnOf "add_value" "Compiler.add_value" (defArgs s_Compiler_add_value) (defBody s_Compiler_add_value) (defScope s_Compiler_add_value) .none kVCompiler_add_value dcCompiler_add_value pmCompiler_add_value anCompiler_add_value cdCompiler_add_value ctCompiler_add_value), slCompiler_add_value⟩)
    (cCompiler_add_value : PySem.W.codeIn K cdCompiler_add_value "Compiler.add_value" = true)
    (kCompiler_add_value : PySem.W.keepIn K (.ref fCompiler_add_value) = true)
    {fCompiler_add_check : Addr} {odCompiler_add_check anCompiler_add_check : Option Addr} {slCompiler_add_check : Array (Option Value)} {ocCompiler_add_check kVCompiler_add_check dcCompiler_add_check pmCompiler_add_check cdCompiler_add_check ctCompiler_add_check : Value}
    (aCompiler_add_check : PySem.W.findIn K (.ref A_Compiler) "add_check" = some (some (.ref fCompiler_add_check)))
    (iCompiler_add_check : PySem.W.isFn K (.ref fCompiler_add_check) = true)
    (lCompiler_add_check : K.lookup fCompiler_add_check = some ⟨ocCompiler_add_check, odCompiler_add_check, .func (PySem.W.fnOf "add_check" "Compiler.add_check" (defArgs s_Compiler_add_check) (defBody s_Compiler_add_check) (defScope s_Compiler_add_check) .none kVCompiler_add_check dcCompiler_add_check pmCompiler_add_check anCompiler_add_check cdCompiler_add_check ctCompiler_add_check), slCompiler_add_check⟩)
    (cCompiler_add_check : PySem.W.codeIn K cdCompiler_add_check "Compiler.add_check" = true)
    (kCompiler_add_check : PySem.W.keepIn K (.ref fCompiler_add_check) = true)
    {fCompiler_link_calls : Addr} {odCompiler_link_calls anCompiler_link_calls : Option Addr} {slCompiler_link_calls : Array (Option Value)} {ocCompiler_link_calls kVCompiler_link_calls dcCompiler_link_calls pmCompiler_link_calls cdCompiler_link_calls ctCompiler_link_calls : Value}
    (aCompiler_link_calls : PySem.W.findIn K (.ref A_Compiler) "link_calls" = some (some (.ref fCompiler_link_calls)))
    (iCompiler_link_calls : PySem.W.isFn K (.ref fCompiler_link_calls) = true)
    (lCompiler_link_calls : K.lookup fCompiler_link_calls = some ⟨ocCompiler_link_calls, odCompiler_link_calls, .func (PySem.W.fnOf "link_calls" "Compiler.link_calls" (defArgs s_Compiler_link_calls) (defBody s_Compiler_link_calls) (defScope s_Compiler_link_calls) .none kVCompiler_link_calls dcCompiler_link_calls pmCompiler_link_calls anCompiler_link_calls cdCompiler_link_calls ctCompiler_link_calls), slCompiler_link_calls⟩)
    (cCompiler_link_calls : PySem.W.codeIn K cdCompiler_link_calls "Compiler.link_calls" = true)
    (kCompiler_link_calls : PySem.W.keepIn K (.ref fCompiler_link_calls) = true)
    (x_Compiler_buffer_places : PySem.W.findIn K (.ref A_Compiler) "buffer_places" = some none)
    (x_Compiler_calls : PySem.W.findIn K (.ref A_Compiler) "calls" = some none)
    (x_Compiler_checked : PySem.W.findIn K (.ref A_Compiler) "checked" = some none)
    (x_Compiler_component : PySem.W.findIn K (.ref A_Compiler) "component" = some none)
    (x_Compiler_entries : PySem.W.findIn K (.ref A_Compiler) "entries" = some none)
    (x_Compiler_first_frame : PySem.W.findIn K (.ref A_Compiler) "first_frame" = some none)
    (x_Compiler_halt_place : PySem.W.findIn K (.ref A_Compiler) "halt_place" = some none)
    (x_Compiler_leave_place : PySem.W.findIn K (.ref A_Compiler) "leave_place" = some none)
    (x_Compiler_memory : PySem.W.findIn K (.ref A_Compiler) "memory" = some none)
    (x_Compiler_starts : PySem.W.findIn K (.ref A_Compiler) "starts" = some none)
    (x_Compiler_taken : PySem.W.findIn K (.ref A_Compiler) "taken" = some none)
    (n_Component : PySem.W.nsIn K mainGlobals "Component" = some (some (.ref A_Component)))
    (pg_Component : PySem.W.plainGet K A_Component Str.empty = true)
    (hd_Component : PySem.W.hasDictIn K A_Component = true)
    (po_Component : PySem.W.plainOver K A_Component = true)
    (sa_Component : PySem.W.findIn K (.ref A_Component) "__setattr__" = some (some (.builtin "object.__setattr__")))
    (mk_Component : PySem.W.makesIn K A_Component = true)
    (kc_Component : PySem.W.keepIn K (.ref A_Component) = true)
    (cc_Component : PySem.W.findIn K (.ref A_Component) "__class__" = some (some (.builtin "object.__class__")))
    (sp_Component : PySem.W.specialIn K (.builtin "object.__class__") "__get__" = some (some (.builtin "getset_descriptor.__get__")))
    (tk_Component : PySem.W.takesIn K (.builtin "object.__class__") = some true)
    (mo_Component : PySem.W.mroIn K A_Component (.type "object") = some true)
    {fComponent_init : Addr} {odComponent_init anComponent_init : Option Addr} {slComponent_init : Array (Option Value)} {ocComponent_init kVComponent_init dcComponent_init pmComponent_init cdComponent_init ctComponent_init : Value}
    (aComponent_init : PySem.W.findIn K (.ref A_Component) "__init__" = some (some (.ref fComponent_init)))
    (iComponent_init : PySem.W.isFn K (.ref fComponent_init) = true)
    (lComponent_init : K.lookup fComponent_init = some ⟨ocComponent_init, odComponent_init, .func (PySem.W.fnOf "__init__" "Component.__init__" (defArgs s_Component_init) (defBody s_Component_init) (defScope s_Component_init) .none kVComponent_init dcComponent_init pmComponent_init anComponent_init cdComponent_init ctComponent_init), slComponent_init⟩)
    (cComponent_init : PySem.W.codeIn K cdComponent_init "Component.__init__" = true)
    (kComponent_init : PySem.W.keepIn K (.ref fComponent_init) = true)
    {fComponent_eq : Addr} {odComponent_eq anComponent_eq : Option Addr} {slComponent_eq : Array (Option Value)} {ocComponent_eq kVComponent_eq dcComponent_eq pmComponent_eq cdComponent_eq ctComponent_eq : Value}
    (aComponent_eq : PySem.W.findIn K (.ref A_Component) "__eq__" = some (some (.ref fComponent_eq)))
    (iComponent_eq : PySem.W.isFn K (.ref fComponent_eq) = true)
    (lComponent_eq : K.lookup fComponent_eq = some ⟨ocComponent_eq, odComponent_eq, .func (PySem.W.fnOf "__eq__" "Component.__eq__" (defArgs s_Component_eq) (defBody s_Component_eq) (defScope s_Component_eq) .none kVComponent_eq dcComponent_eq pmComponent_eq anComponent_eq cdComponent_eq ctComponent_eq), slComponent_eq⟩)
    (cComponent_eq : PySem.W.codeIn K cdComponent_eq "Component.__eq__" = true)
    (kComponent_eq : PySem.W.keepIn K (.ref fComponent_eq) = true)
    (x_Component_buffers : PySem.W.findIn K (.ref A_Component) "buffers" = some none)
    (x_Component_procedures : PySem.W.findIn K (.ref A_Component) "procedures" = some none)
    (x_Component_room : PySem.W.findIn K (.ref A_Component) "room" = some none) : Txt K mg ⟨A_BlameError, A_TooLarge, A_Code, A_Compiler, A_Component⟩ :=
  ⟨PySem.W.mg_of X G n_BlameError,
   ⟨ga_BlameError, rd_BlameError, it_BlameError⟩,
   PySem.W.mg_of X G n_TooLarge,
   ⟨⟨⟨_, _, _, _, _, _, _, _, _, _, _, _, _, _, _, xl_TooLarge, by first | rfl | simp [PySem.HandSPX.refsVE]⟩, sa_TooLarge, ex_TooLarge, ty_TooLarge, kc_TooLarge⟩, ga_TooLarge, gg_TooLarge, hd_TooLarge, cc_TooLarge, sp_TooLarge, tk_TooLarge, mo_TooLarge⟩,
   ⟨fTooLarge_init, _, aTooLarge_init, iTooLarge_init, fun_mk (st := s_TooLarge_init) lTooLarge_init cTooLarge_init kTooLarge_init⟩,
   x_TooLarge_what,
   PySem.W.mg_of X G n_Code,
   ⟨⟨pg_Code, hd_Code, po_Code, sa_Code⟩, mk_Code, kc_Code, cc_Code, sp_Code, tk_Code, mo_Code⟩,
   ⟨fCode_init, _, aCode_init, iCode_init, fun_mk (st := s_Code_init) lCode_init cCode_init kCode_init⟩,
   ⟨fCode_eq, _, aCode_eq, iCode_eq, fun_mk (st := s_Code_eq) lCode_eq cCode_eq kCode_eq⟩,
   x_Code_entries,
   x_Code_memory,
   PySem.W.mg_of X G n_Compiler,
   ⟨⟨pg_Compiler, hd_Compiler, po_Compiler, sa_Compiler⟩, mk_Compiler, kc_Compiler, cc_Compiler, sp_Compiler, tk_Compiler, mo_Compiler⟩,
   ⟨fCompiler_init, _, aCompiler_init, iCompiler_init, fun_mk (st := s_Compiler_init) lCompiler_init cCompiler_init kCompiler_init⟩,
   ⟨fCompiler_here, _, aCompiler_here, iCompiler_here, fun_mk (st := s_Compiler_here) lCompiler_here cCompiler_here kCompiler_here⟩,
   ⟨fCompiler_emit, _, aCompiler_emit, iCompiler_emit, fun_mk (st := s_Compiler_emit) lCompiler_emit cCompiler_emit kCompiler_emit⟩,
   ⟨fCompiler_add_data, _, aCompiler_add_data, iCompiler_add_data, fun_mk (st := s_Compiler_add_data) lCompiler_add_data cCompiler_add_data kCompiler_add_data⟩,
   ⟨fCompiler_add_exits, _, aCompiler_add_exits, iCompiler_add_exits, fun_mk (st := s_Compiler_add_exits) lCompiler_add_exits cCompiler_add_exits kCompiler_add_exits⟩,
   ⟨fCompiler_add_procedure, _, aCompiler_add_procedure, iCompiler_add_procedure, fun_mk (st := s_Compiler_add_procedure) lCompiler_add_procedure cCompiler_add_procedure kCompiler_add_procedure⟩,
   ⟨fCompiler_add_beginning, _, aCompiler_add_beginning, iCompiler_add_beginning, fun_mk (st := s_Compiler_add_beginning) lCompiler_add_beginning cCompiler_add_beginning kCompiler_add_beginning⟩,
   ⟨fCompiler_add_ending, _, aCompiler_add_ending, iCompiler_add_ending, fun_mk (st := s_Compiler_add_ending) lCompiler_add_ending cCompiler_add_ending kCompiler_add_ending⟩,
   ⟨fCompiler_caller_offset, _, aCompiler_caller_offset, iCompiler_caller_offset, fun_mk (st := s_Compiler_caller_offset) lCompiler_caller_offset cCompiler_caller_offset kCompiler_caller_offset⟩,
   ⟨fCompiler_local_offset, _, aCompiler_local_offset, iCompiler_local_offset, fun_mk (st := s_Compiler_local_offset) lCompiler_local_offset cCompiler_local_offset kCompiler_local_offset⟩,
   ⟨fCompiler_add_block, _, aCompiler_add_block, iCompiler_add_block, fun_mk (st := s_Compiler_add_block) lCompiler_add_block cCompiler_add_block kCompiler_add_block⟩,
   ⟨fCompiler_add_statement, _, aCompiler_add_statement, iCompiler_add_statement, fun_mk (st := s_Compiler_add_statement) lCompiler_add_statement cCompiler_add_statement kCompiler_add_statement⟩,
   ⟨fCompiler_add_put, _, aCompiler_add_put, iCompiler_add_put, fun_mk (st := s_Compiler_add_put) lCompiler_add_put cCompiler_add_put kCompiler_add_put⟩,
   ⟨fCompiler_add_call, _, aCompiler_add_call, iCompiler_add_call, fun_mk (st := s_Compiler_add_call) lCompiler_add_call cCompiler_add_call kCompiler_add_call⟩,
   ⟨fCompiler_add_use, _, aCompiler_add_use, iCompiler_add_use, fun_mk (st := s_Compiler_add_use) lCompiler_add_use cCompiler_add_use kCompiler_add_use⟩,
   ⟨fCompiler_add_if, _, aCompiler_add_if, iCompiler_add_if, fun_mk (st := s_Compiler_add_if) lCompiler_add_if cCompiler_add_if kCompiler_add_if⟩,
   ⟨fCompiler_add_while, _, aCompiler_add_while, iCompiler_add_while, fun_mk (st := s_Compiler_add_while) lCompiler_add_while cCompiler_add_while kCompiler_add_while⟩,
   ⟨fCompiler_add_value, _, aCompiler_add_value, iCompiler_add_value, fun_mk (st := s_Compiler_add_value) lCompiler_add_value cCompiler_add_value kCompiler_add_value⟩,
   ⟨fCompiler_add_check, _, aCompiler_add_check, iCompiler_add_check, fun_mk (st := s_Compiler_add_check) lCompiler_add_check cCompiler_add_check kCompiler_add_check⟩,
   ⟨fCompiler_link_calls, _, aCompiler_link_calls, iCompiler_link_calls, fun_mk (st := s_Compiler_link_calls) lCompiler_link_calls cCompiler_link_calls kCompiler_link_calls⟩,
   x_Compiler_buffer_places,
   x_Compiler_calls,
   x_Compiler_checked,
   x_Compiler_component,
   x_Compiler_entries,
   x_Compiler_first_frame,
   x_Compiler_halt_place,
   x_Compiler_leave_place,
   x_Compiler_memory,
   x_Compiler_starts,
   x_Compiler_taken,
   PySem.W.mg_of X G n_Component,
   ⟨⟨pg_Component, hd_Component, po_Component, sa_Component⟩, mk_Component, kc_Component, cc_Component, sp_Component, tk_Component, mo_Component⟩,
   ⟨fComponent_init, _, aComponent_init, iComponent_init, fun_mk (st := s_Component_init) lComponent_init cComponent_init kComponent_init⟩,
   ⟨fComponent_eq, _, aComponent_eq, iComponent_eq, fun_mk (st := s_Component_eq) lComponent_eq cComponent_eq kComponent_eq⟩,
   x_Component_buffers,
   x_Component_procedures,
   x_Component_room⟩
theorem top_mk {pp : Params} {K : PySem.W.Frag} {h : Heap} {mg : Str → Option Value} (X : K.In h) (G : h.Ns mainGlobals mg)
    {f1 : Addr} {od1 an1 : Option Addr} {sl1 : Array (Option Value)} {oc1 kV1 dc1 pm1 cd1 ct1 : Value}
    (a1 : PySem.W.nsIn K mainGlobals "statements_of" = some (some (.ref f1))) (l1 : K.lookup f1 = some ⟨oc1, od1, .func (PySem.W.fnOf "statements_of" "statements_of" (defArgs s_statements_of) (defBody s_statements_of) (defScope s_statements_of) .none kV1 dc1 pm1 an1 cd1 ct1), sl1⟩) (c1 : PySem.W.codeIn K cd1 "statements_of" = true) (k1 : PySem.W.keepIn K (.ref f1) = true)
    {f2 : Addr} {od2 an2 : Option Addr} {sl2 : Array (Option Value)} {oc2 kV2 dc2 pm2 cd2 ct2 : Value}
    (a2 : PySem.W.nsIn K mainGlobals "expressions_of" = some (some (.ref f2))) (l2 : K.lookup f2 = some ⟨oc2, od2, .func (PySem.W.fnOf "expressions_of" "expressions_of" (defArgs s_expressions_of) (defBody s_expressions_of) (defScope s_expressions_of) .none kV2 dc2 pm2 an2 cd2 ct2), sl2⟩) (c2 : PySem.W.codeIn K cd2 "expressions_of" = true) (k2 : PySem.W.keepIn K (.ref f2) = true)
    {f3 : Addr} {od3 an3 : Option Addr} {sl3 : Array (Option Value)} {oc3 kV3 dc3 pm3 cd3 ct3 : Value}
    (a3 : PySem.W.nsIn K mainGlobals "parts_of" = some (some (.ref f3))) (l3 : K.lookup f3 = some ⟨oc3, od3, .func (PySem.W.fnOf "parts_of" "parts_of" (defArgs s_parts_of) (defBody s_parts_of) (defScope s_parts_of) .none kV3 dc3 pm3 an3 cd3 ct3), sl3⟩) (c3 : PySem.W.codeIn K cd3 "parts_of" = true) (k3 : PySem.W.keepIn K (.ref f3) = true)
    {f4 : Addr} {od4 an4 : Option Addr} {sl4 : Array (Option Value)} {oc4 kV4 dc4 pm4 cd4 ct4 : Value}
    (a4 : PySem.W.nsIn K mainGlobals "depth_of" = some (some (.ref f4))) (l4 : K.lookup f4 = some ⟨oc4, od4, .func (PySem.W.fnOf "depth_of" "depth_of" (defArgs s_depth_of) (defBody s_depth_of) (defScope s_depth_of) .none kV4 dc4 pm4 an4 cd4 ct4), sl4⟩) (c4 : PySem.W.codeIn K cd4 "depth_of" = true) (k4 : PySem.W.keepIn K (.ref f4) = true)
    {f5 : Addr} {od5 an5 : Option Addr} {sl5 : Array (Option Value)} {oc5 kV5 dc5 pm5 cd5 ct5 : Value}
    (a5 : PySem.W.nsIn K mainGlobals "room_of" = some (some (.ref f5))) (l5 : K.lookup f5 = some ⟨oc5, od5, .func (PySem.W.fnOf "room_of" "room_of" (defArgs s_room_of) (defBody s_room_of) (defScope s_room_of) .none kV5 dc5 pm5 an5 cd5 ct5), sl5⟩) (c5 : PySem.W.codeIn K cd5 "room_of" = true) (k5 : PySem.W.keepIn K (.ref f5) = true)
    {f6 kw6 : Addr} {od6 an6 : Option Addr} {sl6 : Array (Option Value)} {oc6 dc6 pm6 cd6 ct6 : Value}
    (a6 : PySem.W.nsIn K mainGlobals "compile_component" = some (some (.ref f6))) (l6 : K.lookup f6 = some ⟨oc6, od6, .func (PySem.W.fnOf "compile_component" "compile_component" (defArgs s_compile_component) (defBody s_compile_component) (defScope s_compile_component) .none (.ref kw6) dc6 pm6 an6 cd6 ct6), sl6⟩) (c6 : PySem.W.codeIn K cd6 "compile_component" = true) (k6 : PySem.W.keepIn K (.ref f6) = true) (q6 : PySem.W.nsIn K kw6 "checked" = some (some (.bool false)))
    {f7 : Addr} {od7 an7 : Option Addr} {sl7 : Array (Option Value)} {oc7 kV7 dc7 pm7 cd7 ct7 : Value}
    (a7 : PySem.W.nsIn K mainGlobals "operator_number" = some (some (.ref f7))) (l7 : K.lookup f7 = some ⟨oc7, od7, .func (PySem.W.fnOf "operator_number" "operator_number" (defArgs s_operator_number) (defBody s_operator_number) (defScope s_operator_number) .none kV7 dc7 pm7 an7 cd7 ct7), sl7⟩) (c7 : PySem.W.codeIn K cd7 "operator_number" = true) (k7 : PySem.W.keepIn K (.ref f7) = true)
    {f8 : Addr} {od8 an8 : Option Addr} {sl8 : Array (Option Value)} {oc8 kV8 dc8 pm8 cd8 ct8 : Value}
    (a8 : PySem.W.nsIn K mainGlobals "cells_needed" = some (some (.ref f8))) (l8 : K.lookup f8 = some ⟨oc8, od8, .func (PySem.W.fnOf "cells_needed" "cells_needed" (defArgs s_cells_needed) (defBody s_cells_needed) (defScope s_cells_needed) .none kV8 dc8 pm8 an8 cd8 ct8), sl8⟩) (c8 : PySem.W.codeIn K cd8 "cells_needed" = true) (k8 : PySem.W.keepIn K (.ref f8) = true)
    {f9 : Addr} {od9 an9 : Option Addr} {sl9 : Array (Option Value)} {oc9 kV9 dc9 pm9 cd9 ct9 : Value}
    (a9 : PySem.W.nsIn K mainGlobals "frozen" = some (some (.ref f9))) (l9 : K.lookup f9 = some ⟨oc9, od9, .func (PySem.W.fnOf "frozen" "frozen" (defArgs s_frozen) (defBody s_frozen) (defScope s_frozen) .none kV9 dc9 pm9 an9 cd9 ct9), sl9⟩) (c9 : PySem.W.codeIn K cd9 "frozen" = true) (k9 : PySem.W.keepIn K (.ref f9) = true)
    {f10 : Addr} {od10 an10 : Option Addr} {sl10 : Array (Option Value)} {oc10 kV10 dc10 pm10 cd10 ct10 : Value}
    (a10 : PySem.W.nsIn K mainGlobals "_law_pool" = some (some (.ref f10))) (l10 : K.lookup f10 = some ⟨oc10, od10, .func (PySem.W.fnOf "_law_pool" "_law_pool" (defArgs s_l_pool) (defBody s_l_pool) (defScope s_l_pool) .none kV10 dc10 pm10 an10 cd10 ct10), sl10⟩) (c10 : PySem.W.codeIn K cd10 "_law_pool" = true) (k10 : PySem.W.keepIn K (.ref f10) = true)
    {f11 : Addr} {od11 an11 : Option Addr} {sl11 : Array (Option Value)} {oc11 kV11 dc11 pm11 cd11 ct11 : Value}
    (a11 : PySem.W.nsIn K mainGlobals "_law_draw" = some (some (.ref f11))) (l11 : K.lookup f11 = some ⟨oc11, od11, .func (PySem.W.fnOf "_law_draw" "_law_draw" (defArgs s_l_draw) (defBody s_l_draw) (defScope s_l_draw) .none kV11 dc11 pm11 an11 cd11 ct11), sl11⟩) (c11 : PySem.W.codeIn K cd11 "_law_draw" = true) (k11 : PySem.W.keepIn K (.ref f11) = true)
    {f12 : Addr} {od12 an12 : Option Addr} {sl12 : Array (Option Value)} {oc12 kV12 dc12 pm12 cd12 ct12 : Value}
    (a12 : PySem.W.nsIn K mainGlobals "_law_spend" = some (some (.ref f12))) (l12 : K.lookup f12 = some ⟨oc12, od12, .func (PySem.W.fnOf "_law_spend" "_law_spend" (defArgs s_l_spend) (defBody s_l_spend) (defScope s_l_spend) .none kV12 dc12 pm12 an12 cd12 ct12), sl12⟩) (c12 : PySem.W.codeIn K cd12 "_law_spend" = true) (k12 : PySem.W.keepIn K (.ref f12) = true)
    {f13 : Addr} {od13 an13 : Option Addr} {sl13 : Array (Option Value)} {oc13 kV13 dc13 pm13 cd13 ct13 : Value}
    (a13 : PySem.W.nsIn K mainGlobals "_law_few" = some (some (.ref f13))) (l13 : K.lookup f13 = some ⟨oc13, od13, .func (PySem.W.fnOf "_law_few" "_law_few" (defArgs s_l_few) (defBody s_l_few) (defScope s_l_few) .none kV13 dc13 pm13 an13 cd13 ct13), sl13⟩) (c13 : PySem.W.codeIn K cd13 "_law_few" = true) (k13 : PySem.W.keepIn K (.ref f13) = true)
    {f14 : Addr} {od14 an14 : Option Addr} {sl14 : Array (Option Value)} {oc14 kV14 dc14 pm14 cd14 ct14 : Value}
    (a14 : PySem.W.nsIn K mainGlobals "_law_number" = some (some (.ref f14))) (l14 : K.lookup f14 = some ⟨oc14, od14, .func (PySem.W.fnOf "_law_number" "_law_number" (defArgs s_l_number) (defBody s_l_number) (defScope s_l_number) .none kV14 dc14 pm14 an14 cd14 ct14), sl14⟩) (c14 : PySem.W.codeIn K cd14 "_law_number" = true) (k14 : PySem.W.keepIn K (.ref f14) = true)
    {f15 : Addr} {od15 an15 : Option Addr} {sl15 : Array (Option Value)} {oc15 kV15 dc15 pm15 cd15 ct15 : Value}
    (a15 : PySem.W.nsIn K mainGlobals "_law_same" = some (some (.ref f15))) (l15 : K.lookup f15 = some ⟨oc15, od15, .func (PySem.W.fnOf "_law_same" "_law_same" (defArgs s_l_same) (defBody s_l_same) (defScope s_l_same) .none kV15 dc15 pm15 an15 cd15 ct15), sl15⟩) (c15 : PySem.W.codeIn K cd15 "_law_same" = true) (k15 : PySem.W.keepIn K (.ref f15) = true)
    {f16 : Addr} {od16 an16 : Option Addr} {sl16 : Array (Option Value)} {oc16 kV16 dc16 pm16 cd16 ct16 : Value}
    (a16 : PySem.W.nsIn K mainGlobals "_law_expression" = some (some (.ref f16))) (l16 : K.lookup f16 = some ⟨oc16, od16, .func (PySem.W.fnOf "_law_expression" "_law_expression" (defArgs s_l_expression) (defBody s_l_expression) (defScope s_l_expression) .none kV16 dc16 pm16 an16 cd16 ct16), sl16⟩) (c16 : PySem.W.codeIn K cd16 "_law_expression" = true) (k16 : PySem.W.keepIn K (.ref f16) = true)
    {f17 : Addr} {od17 an17 : Option Addr} {sl17 : Array (Option Value)} {oc17 kV17 dc17 pm17 cd17 ct17 : Value}
    (a17 : PySem.W.nsIn K mainGlobals "_law_index" = some (some (.ref f17))) (l17 : K.lookup f17 = some ⟨oc17, od17, .func (PySem.W.fnOf "_law_index" "_law_index" (defArgs s_l_index) (defBody s_l_index) (defScope s_l_index) .none kV17 dc17 pm17 an17 cd17 ct17), sl17⟩) (c17 : PySem.W.codeIn K cd17 "_law_index" = true) (k17 : PySem.W.keepIn K (.ref f17) = true)
    {f18 : Addr} {od18 an18 : Option Addr} {sl18 : Array (Option Value)} {oc18 kV18 dc18 pm18 cd18 ct18 : Value}
    (a18 : PySem.W.nsIn K mainGlobals "_law_block" = some (some (.ref f18))) (l18 : K.lookup f18 = some ⟨oc18, od18, .func (PySem.W.fnOf "_law_block" "_law_block" (defArgs s_l_block) (defBody s_l_block) (defScope s_l_block) .none kV18 dc18 pm18 an18 cd18 ct18), sl18⟩) (c18 : PySem.W.codeIn K cd18 "_law_block" = true) (k18 : PySem.W.keepIn K (.ref f18) = true)
    {f19 : Addr} {od19 an19 : Option Addr} {sl19 : Array (Option Value)} {oc19 kV19 dc19 pm19 cd19 ct19 : Value}
    (a19 : PySem.W.nsIn K mainGlobals "_law_statement" = some (some (.ref f19))) (l19 : K.lookup f19 = some ⟨oc19, od19, .func (PySem.W.fnOf "_law_statement" "_law_statement" (defArgs s_l_statement) (defBody s_l_statement) (defScope s_l_statement) .none kV19 dc19 pm19 an19 cd19 ct19), sl19⟩) (c19 : PySem.W.codeIn K cd19 "_law_statement" = true) (k19 : PySem.W.keepIn K (.ref f19) = true)
    {f20 : Addr} {od20 an20 : Option Addr} {sl20 : Array (Option Value)} {oc20 kV20 dc20 pm20 cd20 ct20 : Value}
    (a20 : PySem.W.nsIn K mainGlobals "_law_wide" = some (some (.ref f20))) (l20 : K.lookup f20 = some ⟨oc20, od20, .func (PySem.W.fnOf "_law_wide" "_law_wide" (defArgs s_l_wide) (defBody s_l_wide) (defScope s_l_wide) .none kV20 dc20 pm20 an20 cd20 ct20), sl20⟩) (c20 : PySem.W.codeIn K cd20 "_law_wide" = true) (k20 : PySem.W.keepIn K (.ref f20) = true)
    {f21 : Addr} {od21 an21 : Option Addr} {sl21 : Array (Option Value)} {oc21 kV21 dc21 pm21 cd21 ct21 : Value}
    (a21 : PySem.W.nsIn K mainGlobals "_law_right" = some (some (.ref f21))) (l21 : K.lookup f21 = some ⟨oc21, od21, .func (PySem.W.fnOf "_law_right" "_law_right" (defArgs s_l_right) (defBody s_l_right) (defScope s_l_right) .none kV21 dc21 pm21 an21 cd21 ct21), sl21⟩) (c21 : PySem.W.codeIn K cd21 "_law_right" = true) (k21 : PySem.W.keepIn K (.ref f21) = true)
    {f22 : Addr} {od22 an22 : Option Addr} {sl22 : Array (Option Value)} {oc22 kV22 dc22 pm22 cd22 ct22 : Value}
    (a22 : PySem.W.nsIn K mainGlobals "law" = some (some (.ref f22))) (l22 : K.lookup f22 = some ⟨oc22, od22, .func (PySem.W.fnOf "law" "law" (defArgs s_law) (defBody s_law) (defScope s_law) .none kV22 dc22 pm22 an22 cd22 ct22), sl22⟩) (c22 : PySem.W.codeIn K cd22 "law" = true) (k22 : PySem.W.keepIn K (.ref f22) = true)
    {t_WORD_COUNT : Tok} (c_WORD_COUNT : PySem.W.nsIn K mainGlobals "WORD_COUNT" = some (some (.int 65536 t_WORD_COUNT)))
    {at_OPERATORS : Addr} {it_OPERATORS : Array Value} {nn_OPERATORS : Nat} {sl_OPERATORS : Array (Option Value)} (c_OPERATORS : PySem.W.nsIn K mainGlobals "OPERATORS" = some (some (.ref at_OPERATORS))) (lk_OPERATORS : K.lookup at_OPERATORS = some ⟨.type "tuple", none, .seq it_OPERATORS nn_OPERATORS, sl_OPERATORS⟩) (sz_OPERATORS : it_OPERATORS.size ≤ sizeLine) (vv_OPERATORS : Vals ((["+", "-", "*", "/", "mod", "<", "="] : List Str).map V.str) it_OPERATORS.toList)
    {t_INSTRUCTION_WORDS : Tok} (c_INSTRUCTION_WORDS : PySem.W.nsIn K mainGlobals "INSTRUCTION_WORDS" = some (some (.int 4 t_INSTRUCTION_WORDS)))
    {t_HALT : Tok} (c_HALT : PySem.W.nsIn K mainGlobals "HALT" = some (some (.int 0 t_HALT)))
    {t_CONST : Tok} (c_CONST : PySem.W.nsIn K mainGlobals "CONST" = some (some (.int 1 t_CONST)))
    {t_FIRST_OPERATOR : Tok} (c_FIRST_OPERATOR : PySem.W.nsIn K mainGlobals "FIRST_OPERATOR" = some (some (.int 3 t_FIRST_OPERATOR)))
    {t_LOAD : Tok} (c_LOAD : PySem.W.nsIn K mainGlobals "LOAD" = some (some (.int 10 t_LOAD)))
    {t_STORE : Tok} (c_STORE : PySem.W.nsIn K mainGlobals "STORE" = some (some (.int 11 t_STORE)))
    {t_JUMP : Tok} (c_JUMP : PySem.W.nsIn K mainGlobals "JUMP" = some (some (.int 12 t_JUMP)))
    {t_JUMPZERO : Tok} (c_JUMPZERO : PySem.W.nsIn K mainGlobals "JUMPZERO" = some (some (.int 13 t_JUMPZERO)))
    {t_JUMPTO : Tok} (c_JUMPTO : PySem.W.nsIn K mainGlobals "JUMPTO" = some (some (.int 14 t_JUMPTO)))
    {t_USE : Tok} (c_USE : PySem.W.nsIn K mainGlobals "USE" = some (some (.int 15 t_USE)))
    {t_LEAVE : Tok} (c_LEAVE : PySem.W.nsIn K mainGlobals "LEAVE" = some (some (.int 16 t_LEAVE)))
    {hs_EXPRESSION_PLACES_0 : Int} {kt_EXPRESSION_PLACES_0 : Tok}
    {at_EXPRESSION_PLACES_1 : Addr} {od_EXPRESSION_PLACES_1 : Option Addr} {nn_EXPRESSION_PLACES_1 : Nat} {sl_EXPRESSION_PLACES_1 : Array (Option Value)}
    {hs_EXPRESSION_PLACES_1 : Int} {kt_EXPRESSION_PLACES_1 : Tok}
    {at_EXPRESSION_PLACES_2 : Addr} {od_EXPRESSION_PLACES_2 : Option Addr} {nn_EXPRESSION_PLACES_2 : Nat} {sl_EXPRESSION_PLACES_2 : Array (Option Value)}
    {hs_EXPRESSION_PLACES_2 : Int} {kt_EXPRESSION_PLACES_2 : Tok}
    {at_EXPRESSION_PLACES_3 : Addr} {od_EXPRESSION_PLACES_3 : Option Addr} {nn_EXPRESSION_PLACES_3 : Nat} {sl_EXPRESSION_PLACES_3 : Array (Option Value)}
    {hs_EXPRESSION_PLACES_3 : Int} {kt_EXPRESSION_PLACES_3 : Tok}
    {at_EXPRESSION_PLACES_4 : Addr} {od_EXPRESSION_PLACES_4 : Option Addr} {nn_EXPRESSION_PLACES_4 : Nat} {sl_EXPRESSION_PLACES_4 : Array (Option Value)}
    {hs_EXPRESSION_PLACES_4 : Int} {kt_EXPRESSION_PLACES_4 : Tok}
    {at_EXPRESSION_PLACES_5 : Addr} {od_EXPRESSION_PLACES_5 : Option Addr} {nn_EXPRESSION_PLACES_5 : Nat} {sl_EXPRESSION_PLACES_5 : Array (Option Value)}
    {hs_EXPRESSION_PLACES_5 : Int} {kt_EXPRESSION_PLACES_5 : Tok}
    {at_EXPRESSION_PLACES_6 : Addr} {od_EXPRESSION_PLACES_6 : Option Addr} {nn_EXPRESSION_PLACES_6 : Nat} {sl_EXPRESSION_PLACES_6 : Array (Option Value)}
    {hs_EXPRESSION_PLACES_6 : Int} {kt_EXPRESSION_PLACES_6 : Tok}
    {at_EXPRESSION_PLACES_7 : Addr} {od_EXPRESSION_PLACES_7 : Option Addr} {nn_EXPRESSION_PLACES_7 : Nat} {sl_EXPRESSION_PLACES_7 : Array (Option Value)}
    {at_EXPRESSION_PLACES : Addr} {nn_EXPRESSION_PLACES : Nat} (c_EXPRESSION_PLACES : PySem.W.nsIn K mainGlobals "EXPRESSION_PLACES" = some (some (.ref at_EXPRESSION_PLACES))) (lk_EXPRESSION_PLACES : K.lookup at_EXPRESSION_PLACES = some ⟨.type "dict", none, .dict #[⟨hs_EXPRESSION_PLACES_0, .str "set" kt_EXPRESSION_PLACES_0, (.ref at_EXPRESSION_PLACES_1)⟩, ⟨hs_EXPRESSION_PLACES_1, .str "put" kt_EXPRESSION_PLACES_1, (.ref at_EXPRESSION_PLACES_2)⟩, ⟨hs_EXPRESSION_PLACES_2, .str "call" kt_EXPRESSION_PLACES_2, (.ref at_EXPRESSION_PLACES_3)⟩, ⟨hs_EXPRESSION_PLACES_3, .str "use" kt_EXPRESSION_PLACES_3, (.ref at_EXPRESSION_PLACES_4)⟩, ⟨hs_EXPRESSION_PLACES_4, .str "if" kt_EXPRESSION_PLACES_4, (.ref at_EXPRESSION_PLACES_5)⟩, ⟨hs_EXPRESSION_PLACES_5, .str "while" kt_EXPRESSION_PLACES_5, (.ref at_EXPRESSION_PLACES_6)⟩, ⟨hs_EXPRESSION_PLACES_6, .str "return" kt_EXPRESSION_PLACES_6, (.ref at_EXPRESSION_PLACES_7)⟩] nn_EXPRESSION_PLACES, #[]⟩) (lw_EXPRESSION_PLACES : (at_EXPRESSION_PLACES == sysModules) = false) (kl_EXPRESSION_PLACES : PySem.W.KeysLit pp (#[⟨hs_EXPRESSION_PLACES_0, .str "set" kt_EXPRESSION_PLACES_0, (.ref at_EXPRESSION_PLACES_1)⟩, ⟨hs_EXPRESSION_PLACES_1, .str "put" kt_EXPRESSION_PLACES_1, (.ref at_EXPRESSION_PLACES_2)⟩, ⟨hs_EXPRESSION_PLACES_2, .str "call" kt_EXPRESSION_PLACES_2, (.ref at_EXPRESSION_PLACES_3)⟩, ⟨hs_EXPRESSION_PLACES_3, .str "use" kt_EXPRESSION_PLACES_3, (.ref at_EXPRESSION_PLACES_4)⟩, ⟨hs_EXPRESSION_PLACES_4, .str "if" kt_EXPRESSION_PLACES_4, (.ref at_EXPRESSION_PLACES_5)⟩, ⟨hs_EXPRESSION_PLACES_5, .str "while" kt_EXPRESSION_PLACES_5, (.ref at_EXPRESSION_PLACES_6)⟩, ⟨hs_EXPRESSION_PLACES_6, .str "return" kt_EXPRESSION_PLACES_6, (.ref at_EXPRESSION_PLACES_7)⟩] : Array DictEntry).toList)
    {tk_EXPRESSION_PLACES_8 : Tok}
    (lk_EXPRESSION_PLACES_1 : K.lookup at_EXPRESSION_PLACES_1 = some ⟨.type "tuple", od_EXPRESSION_PLACES_1, .seq #[(.int 2 tk_EXPRESSION_PLACES_8)] nn_EXPRESSION_PLACES_1, sl_EXPRESSION_PLACES_1⟩)
    {tk_EXPRESSION_PLACES_9 : Tok}
    {tk_EXPRESSION_PLACES_10 : Tok}
    (lk_EXPRESSION_PLACES_2 : K.lookup at_EXPRESSION_PLACES_2 = some ⟨.type "tuple", od_EXPRESSION_PLACES_2, .seq #[(.int 2 tk_EXPRESSION_PLACES_9), (.int 3 tk_EXPRESSION_PLACES_10)] nn_EXPRESSION_PLACES_2, sl_EXPRESSION_PLACES_2⟩)
    {tk_EXPRESSION_PLACES_11 : Tok}
    (lk_EXPRESSION_PLACES_3 : K.lookup at_EXPRESSION_PLACES_3 = some ⟨.type "tuple", od_EXPRESSION_PLACES_3, .seq #[(.int 3 tk_EXPRESSION_PLACES_11)] nn_EXPRESSION_PLACES_3, sl_EXPRESSION_PLACES_3⟩)
    {tk_EXPRESSION_PLACES_12 : Tok}
    (lk_EXPRESSION_PLACES_4 : K.lookup at_EXPRESSION_PLACES_4 = some ⟨.type "tuple", od_EXPRESSION_PLACES_4, .seq #[(.int 3 tk_EXPRESSION_PLACES_12)] nn_EXPRESSION_PLACES_4, sl_EXPRESSION_PLACES_4⟩)
    {tk_EXPRESSION_PLACES_13 : Tok}
    (lk_EXPRESSION_PLACES_5 : K.lookup at_EXPRESSION_PLACES_5 = some ⟨.type "tuple", od_EXPRESSION_PLACES_5, .seq #[(.int 1 tk_EXPRESSION_PLACES_13)] nn_EXPRESSION_PLACES_5, sl_EXPRESSION_PLACES_5⟩)
    {tk_EXPRESSION_PLACES_14 : Tok}
    (lk_EXPRESSION_PLACES_6 : K.lookup at_EXPRESSION_PLACES_6 = some ⟨.type "tuple", od_EXPRESSION_PLACES_6, .seq #[(.int 1 tk_EXPRESSION_PLACES_14)] nn_EXPRESSION_PLACES_6, sl_EXPRESSION_PLACES_6⟩)
    {tk_EXPRESSION_PLACES_15 : Tok}
    (lk_EXPRESSION_PLACES_7 : K.lookup at_EXPRESSION_PLACES_7 = some ⟨.type "tuple", od_EXPRESSION_PLACES_7, .seq #[(.int 1 tk_EXPRESSION_PLACES_15)] nn_EXPRESSION_PLACES_7, sl_EXPRESSION_PLACES_7⟩)
    {hs_BLOCK_PLACES_0 : Int} {kt_BLOCK_PLACES_0 : Tok}
    {at_BLOCK_PLACES_1 : Addr} {od_BLOCK_PLACES_1 : Option Addr} {nn_BLOCK_PLACES_1 : Nat} {sl_BLOCK_PLACES_1 : Array (Option Value)}
    {hs_BLOCK_PLACES_1 : Int} {kt_BLOCK_PLACES_1 : Tok}
    {at_BLOCK_PLACES_2 : Addr} {od_BLOCK_PLACES_2 : Option Addr} {nn_BLOCK_PLACES_2 : Nat} {sl_BLOCK_PLACES_2 : Array (Option Value)}
    {at_BLOCK_PLACES : Addr} {nn_BLOCK_PLACES : Nat} (c_BLOCK_PLACES : PySem.W.nsIn K mainGlobals "BLOCK_PLACES" = some (some (.ref at_BLOCK_PLACES))) (lk_BLOCK_PLACES : K.lookup at_BLOCK_PLACES = some ⟨.type "dict", none, .dict #[⟨hs_BLOCK_PLACES_0, .str "if" kt_BLOCK_PLACES_0, (.ref at_BLOCK_PLACES_1)⟩, ⟨hs_BLOCK_PLACES_1, .str "while" kt_BLOCK_PLACES_1, (.ref at_BLOCK_PLACES_2)⟩] nn_BLOCK_PLACES, #[]⟩) (lw_BLOCK_PLACES : (at_BLOCK_PLACES == sysModules) = false) (kl_BLOCK_PLACES : PySem.W.KeysLit pp (#[⟨hs_BLOCK_PLACES_0, .str "if" kt_BLOCK_PLACES_0, (.ref at_BLOCK_PLACES_1)⟩, ⟨hs_BLOCK_PLACES_1, .str "while" kt_BLOCK_PLACES_1, (.ref at_BLOCK_PLACES_2)⟩] : Array DictEntry).toList)
    {tk_BLOCK_PLACES_3 : Tok}
    {tk_BLOCK_PLACES_4 : Tok}
    (lk_BLOCK_PLACES_1 : K.lookup at_BLOCK_PLACES_1 = some ⟨.type "tuple", od_BLOCK_PLACES_1, .seq #[(.int 2 tk_BLOCK_PLACES_3), (.int 3 tk_BLOCK_PLACES_4)] nn_BLOCK_PLACES_1, sl_BLOCK_PLACES_1⟩)
    {tk_BLOCK_PLACES_5 : Tok}
    (lk_BLOCK_PLACES_2 : K.lookup at_BLOCK_PLACES_2 = some ⟨.type "tuple", od_BLOCK_PLACES_2, .seq #[(.int 2 tk_BLOCK_PLACES_5)] nn_BLOCK_PLACES_2, sl_BLOCK_PLACES_2⟩)
    {t_FRAME_EXTRA : Tok} (c_FRAME_EXTRA : PySem.W.nsIn K mainGlobals "FRAME_EXTRA" = some (some (.int 2 t_FRAME_EXTRA)))
    {t_MOST_MEMORY : Tok} (c_MOST_MEMORY : PySem.W.nsIn K mainGlobals "MOST_MEMORY" = some (some (.int 60000 t_MOST_MEMORY)))
    {t_ANSWER : Tok} (c_ANSWER : PySem.W.nsIn K mainGlobals "ANSWER" = some (some (.int 0 t_ANSWER)))
    {t_LAST_VALUE : Tok} (c_LAST_VALUE : PySem.W.nsIn K mainGlobals "LAST_VALUE" = some (some (.int 4 t_LAST_VALUE)))
    {t_SPARE : Tok} (c_SPARE : PySem.W.nsIn K mainGlobals "SPARE" = some (some (.int 5 t_SPARE)))
    {t_ZERO : Tok} (c_ZERO : PySem.W.nsIn K mainGlobals "ZERO" = some (some (.int 6 t_ZERO)))
    {t_TOP : Tok} (c_TOP : PySem.W.nsIn K mainGlobals "TOP" = some (some (.int 7 t_TOP)))
    {t_TOP_CELL : Tok} (c_TOP_CELL : PySem.W.nsIn K mainGlobals "TOP_CELL" = some (some (.int 0 t_TOP_CELL)))
    (b_bool : PySem.W.nsIn K mainGlobals "bool" = some none)
    (b_int : PySem.W.nsIn K mainGlobals "int" = some none)
    (b_isinstance : PySem.W.nsIn K mainGlobals "isinstance" = some none)
    (b_len : PySem.W.nsIn K mainGlobals "len" = some none)
    (b_list : PySem.W.nsIn K mainGlobals "list" = some none)
    (b_max : PySem.W.nsIn K mainGlobals "max" = some none)
    (b_min : PySem.W.nsIn K mainGlobals "min" = some none)
    (b_range : PySem.W.nsIn K mainGlobals "range" = some none)
    (b_str : PySem.W.nsIn K mainGlobals "str" = some none)
    (b_tuple : PySem.W.nsIn K mainGlobals "tuple" = some none) : Top pp K mg :=
  ⟨⟨f1, _, PySem.W.mg_of X G a1, fun_mk (st := s_statements_of) l1 c1 k1⟩,
   ⟨f2, _, PySem.W.mg_of X G a2, fun_mk (st := s_expressions_of) l2 c2 k2⟩,
   ⟨f3, _, PySem.W.mg_of X G a3, fun_mk (st := s_parts_of) l3 c3 k3⟩,
   ⟨f4, _, PySem.W.mg_of X G a4, fun_mk (st := s_depth_of) l4 c4 k4⟩,
   ⟨f5, _, PySem.W.mg_of X G a5, fun_mk (st := s_room_of) l5 c5 k5⟩,
   ⟨f6, _, PySem.W.mg_of X G a6, AV.funD_mk (st := s_compile_component) l6 c6 k6 (fun q hq => by rw [List.mem_singleton.mp hq]; exact ⟨_, q6, rfl⟩)⟩,
   ⟨f7, _, PySem.W.mg_of X G a7, fun_mk (st := s_operator_number) l7 c7 k7⟩,
   ⟨f8, _, PySem.W.mg_of X G a8, fun_mk (st := s_cells_needed) l8 c8 k8⟩,
   ⟨f9, _, PySem.W.mg_of X G a9, fun_mk (st := s_frozen) l9 c9 k9⟩,
   ⟨f10, _, PySem.W.mg_of X G a10, fun_mk (st := s_l_pool) l10 c10 k10⟩,
   ⟨f11, _, PySem.W.mg_of X G a11, fun_mk (st := s_l_draw) l11 c11 k11⟩,
   ⟨f12, _, PySem.W.mg_of X G a12, fun_mk (st := s_l_spend) l12 c12 k12⟩,
   ⟨f13, _, PySem.W.mg_of X G a13, fun_mk (st := s_l_few) l13 c13 k13⟩,
   ⟨f14, _, PySem.W.mg_of X G a14, fun_mk (st := s_l_number) l14 c14 k14⟩,
   ⟨f15, _, PySem.W.mg_of X G a15, fun_mk (st := s_l_same) l15 c15 k15⟩,
   ⟨f16, _, PySem.W.mg_of X G a16, fun_mk (st := s_l_expression) l16 c16 k16⟩,
   ⟨f17, _, PySem.W.mg_of X G a17, fun_mk (st := s_l_index) l17 c17 k17⟩,
   ⟨f18, _, PySem.W.mg_of X G a18, fun_mk (st := s_l_block) l18 c18 k18⟩,
   ⟨f19, _, PySem.W.mg_of X G a19, fun_mk (st := s_l_statement) l19 c19 k19⟩,
   ⟨f20, _, PySem.W.mg_of X G a20, fun_mk (st := s_l_wide) l20 c20 k20⟩,
   ⟨f21, _, PySem.W.mg_of X G a21, fun_mk (st := s_l_right) l21 c21 k21⟩,
   ⟨f22, _, PySem.W.mg_of X G a22, fun_mk (st := s_law) l22 c22 k22⟩,
   ⟨_, PySem.W.mg_of X G c_WORD_COUNT⟩,
   AV.modTupI_mk (PySem.W.mg_of X G c_OPERATORS) lk_OPERATORS sz_OPERATORS vv_OPERATORS,
   AV.modTup_str (PySem.W.mg_of X G c_OPERATORS) lk_OPERATORS rfl rfl sz_OPERATORS vv_OPERATORS,
   ⟨_, PySem.W.mg_of X G c_INSTRUCTION_WORDS⟩,
   ⟨_, PySem.W.mg_of X G c_HALT⟩,
   ⟨_, PySem.W.mg_of X G c_CONST⟩,
   ⟨_, PySem.W.mg_of X G c_FIRST_OPERATOR⟩,
   ⟨_, PySem.W.mg_of X G c_LOAD⟩,
   ⟨_, PySem.W.mg_of X G c_STORE⟩,
   ⟨_, PySem.W.mg_of X G c_JUMP⟩,
   ⟨_, PySem.W.mg_of X G c_JUMPZERO⟩,
   ⟨_, PySem.W.mg_of X G c_JUMPTO⟩,
   ⟨_, PySem.W.mg_of X G c_USE⟩,
   ⟨_, PySem.W.mg_of X G c_LEAVE⟩,
   ⟨_, _, _, PySem.W.mg_of X G c_EXPRESSION_PLACES, lk_EXPRESSION_PLACES, lw_EXPRESSION_PLACES, kl_EXPRESSION_PLACES, (.cons rfl ⟨_, _, _, _, _, rfl, lk_EXPRESSION_PLACES_1, (by show (1 : Nat) ≤ sizeLine; rw [_root_.G.line_val]; omega), ⟨_, _, rfl, ⟨_, rfl⟩, rfl⟩⟩ (.cons rfl ⟨_, _, _, _, _, rfl, lk_EXPRESSION_PLACES_2, (by show (2 : Nat) ≤ sizeLine; rw [_root_.G.line_val]; omega), ⟨_, _, rfl, ⟨_, rfl⟩, ⟨_, _, rfl, ⟨_, rfl⟩, rfl⟩⟩⟩ (.cons rfl ⟨_, _, _, _, _, rfl, lk_EXPRESSION_PLACES_3, (by show (1 : Nat) ≤ sizeLine; rw [_root_.G.line_val]; omega), ⟨_, _, rfl, ⟨_, rfl⟩, rfl⟩⟩ (.cons rfl ⟨_, _, _, _, _, rfl, lk_EXPRESSION_PLACES_4, (by show (1 : Nat) ≤ sizeLine; rw [_root_.G.line_val]; omega), ⟨_, _, rfl, ⟨_, rfl⟩, rfl⟩⟩ (.cons rfl ⟨_, _, _, _, _, rfl, lk_EXPRESSION_PLACES_5, (by show (1 : Nat) ≤ sizeLine; rw [_root_.G.line_val]; omega), ⟨_, _, rfl, ⟨_, rfl⟩, rfl⟩⟩ (.cons rfl ⟨_, _, _, _, _, rfl, lk_EXPRESSION_PLACES_6, (by show (1 : Nat) ≤ sizeLine; rw [_root_.G.line_val]; omega), ⟨_, _, rfl, ⟨_, rfl⟩, rfl⟩⟩ (.cons rfl ⟨_, _, _, _, _, rfl, lk_EXPRESSION_PLACES_7, (by show (1 : Nat) ≤ sizeLine; rw [_root_.G.line_val]; omega), ⟨_, _, rfl, ⟨_, rfl⟩, rfl⟩⟩ .nil)))))))⟩,
   ⟨_, _, _, PySem.W.mg_of X G c_BLOCK_PLACES, lk_BLOCK_PLACES, lw_BLOCK_PLACES, kl_BLOCK_PLACES, (.cons rfl ⟨_, _, _, _, _, rfl, lk_BLOCK_PLACES_1, (by show (2 : Nat) ≤ sizeLine; rw [_root_.G.line_val]; omega), ⟨_, _, rfl, ⟨_, rfl⟩, ⟨_, _, rfl, ⟨_, rfl⟩, rfl⟩⟩⟩ (.cons rfl ⟨_, _, _, _, _, rfl, lk_BLOCK_PLACES_2, (by show (1 : Nat) ≤ sizeLine; rw [_root_.G.line_val]; omega), ⟨_, _, rfl, ⟨_, rfl⟩, rfl⟩⟩ .nil))⟩,
   ⟨_, PySem.W.mg_of X G c_FRAME_EXTRA⟩,
   ⟨_, PySem.W.mg_of X G c_MOST_MEMORY⟩,
   ⟨_, PySem.W.mg_of X G c_ANSWER⟩,
   ⟨_, PySem.W.mg_of X G c_LAST_VALUE⟩,
   ⟨_, PySem.W.mg_of X G c_SPARE⟩,
   ⟨_, PySem.W.mg_of X G c_ZERO⟩,
   ⟨_, PySem.W.mg_of X G c_TOP⟩,
   ⟨_, PySem.W.mg_of X G c_TOP_CELL⟩,
   PySem.W.mg_none_of X G b_bool,
   PySem.W.mg_none_of X G b_int,
   PySem.W.mg_none_of X G b_isinstance,
   PySem.W.mg_none_of X G b_len,
   PySem.W.mg_none_of X G b_list,
   PySem.W.mg_none_of X G b_max,
   PySem.W.mg_none_of X G b_min,
   PySem.W.mg_none_of X G b_range,
   PySem.W.mg_none_of X G b_str,
   PySem.W.mg_none_of X G b_tuple⟩
theorem walk {l : PySem.W.OpenLaw} {q : Program} {loose : List Str} {XP : (Str → Option Value) → Heap → Prop} {YP : World → Heap → Prop} {d : DefRec} {K : Params → PySem.W.Frag} (hn : l.most = some 63) (hdf : d.params.defaults = []) (hd : d.name = "law")
    (hY : ∀ (w : World) (h : Heap), YP w h → (K w.params).In h)
    (F : ∀ (w : World) (mg : Str → Option Value) (h : Heap), (K w.params).In h → h.Ns mainGlobals mg → Top w.params (K w.params) mg ∧ ∃ C, Txt (K w.params) mg C) :
    PySem.W.WalkO q loose XP YP l.row.toRowW d [] (fun f vs => PySem.call f vs) :=
  L2.walk_of (n := 63) (k := 34) (x := "script") (CX := fun _ => CX0) (sp := fun w => sp_law (K w.params)) hn (by decide) hdf ⟨rfl, by decide, by decide⟩ hY
    (fun w mg fa h KX G hfa => by
      obtain ⟨T, C, Z⟩ := F w mg h KX G
      obtain ⟨f, fd, m, Fn⟩ := T.f_law
      have e : fa = f := by
        rw [hd, m] at hfa
        injection hfa with e
        injection e with e
        exact e.symm
      subst e
      refine ⟨fd, fun s v => ?_, fun base _ _ => (ok_law (P := l.prog) (w := w) (base := base) T Z).at_ m Fn⟩
      obtain ⟨oc, od, kV, doc, pm, an, cdv, ct, osl, rfl, _, _⟩ := Fn.ex
      exact .of_eq rfl)
    (fun _ _ a ns hl _ hS => ⟨a, ns, rfl, hS, hl, fun _ => rfl⟩) fun _ _ _ _ _ z => z

end L
open PySem PySem.W PyProof.Rows in
set_option maxRecDepth 100000 in
set_option maxHeartbeats 0 in
theorem PySem.Challenge.cw_blameless_k31_codes_of_components_holds : PySem.Challenge.rw_blameless_k31_codes_of_components.Holds := by
  w_on; o_law; k_head; (case hw => w_witness2)
  k_fill
  refine L.walk (l := PySem.Challenge.rw_blameless_k31_codes_of_components) rfl rfl rfl (fun w h Y => PySem.W.kIn_of Y) ?F
  case F =>
    intro w mg h KX G
    refine' And.intro (L.top_mk KX G ?a1 ?l1 ?c1 ?k1 ?a2 ?l2 ?c2 ?k2 ?a3 ?l3 ?c3 ?k3 ?a4 ?l4 ?c4 ?k4 ?a5 ?l5 ?c5 ?k5 ?a6 ?l6 ?c6 ?k6 ?q6 ?a7 ?l7 ?c7 ?k7 ?a8 ?l8 ?c8 ?k8 ?a9 ?l9 ?c9 ?k9 ?a10 ?l10 ?c10 ?k10 ?a11 ?l11 ?c11 ?k11 ?a12 ?l12 ?c12 ?k12 ?a13 ?l13 ?c13 ?k13 ?a14 ?l14 ?c14 ?k14 ?a15 ?l15 ?c15 ?k15 ?a16 ?l16 ?c16 ?k16 ?a17 ?l17 ?c17 ?k17 ?a18 ?l18 ?c18 ?k18 ?a19 ?l19 ?c19 ?k19 ?a20 ?l20 ?c20 ?k20 ?a21 ?l21 ?c21 ?k21 ?a22 ?l22 ?c22 ?k22 ?c_WORD_COUNT ?c_OPERATORS ?lk_OPERATORS ?sz_OPERATORS ?vv_OPERATORS ?c_INSTRUCTION_WORDS ?c_HALT ?c_CONST ?c_FIRST_OPERATOR ?c_LOAD ?c_STORE ?c_JUMP ?c_JUMPZERO ?c_JUMPTO ?c_USE ?c_LEAVE ?c_EXPRESSION_PLACES ?lk_EXPRESSION_PLACES ?lw_EXPRESSION_PLACES ?kl_EXPRESSION_PLACES ?lk_EXPRESSION_PLACES_1 ?lk_EXPRESSION_PLACES_2 ?lk_EXPRESSION_PLACES_3 ?lk_EXPRESSION_PLACES_4 ?lk_EXPRESSION_PLACES_5 ?lk_EXPRESSION_PLACES_6 ?lk_EXPRESSION_PLACES_7 ?c_BLOCK_PLACES ?lk_BLOCK_PLACES ?lw_BLOCK_PLACES ?kl_BLOCK_PLACES ?lk_BLOCK_PLACES_1 ?lk_BLOCK_PLACES_2 ?c_FRAME_EXTRA ?c_MOST_MEMORY ?c_ANSWER ?c_LAST_VALUE ?c_SPARE ?c_ZERO ?c_TOP ?c_TOP_CELL ?b_bool ?b_int ?b_isinstance ?b_len ?b_list ?b_max ?b_min ?b_range ?b_str ?b_tuple) (Exists.intro _ (L.txt_mk KX G ?tn_BlameError ?tex_BlameError ?tty_BlameError ?tic_BlameError ?tss_BlameError ?tga_BlameError ?trd_BlameError ?tit_BlameError ?tn_TooLarge ?tex_TooLarge ?tty_TooLarge ?tic_TooLarge ?tss_TooLarge ?txl_TooLarge ?tsa_TooLarge ?tkc_TooLarge ?tga_TooLarge ?tgg_TooLarge ?thd_TooLarge ?tcc_TooLarge ?tsp_TooLarge ?ttk_TooLarge ?tmo_TooLarge ?taTooLarge_init ?tiTooLarge_init ?tlTooLarge_init ?tcTooLarge_init ?tkTooLarge_init ?tx_TooLarge_what ?tn_Code ?tpg_Code ?thd_Code ?tpo_Code ?tsa_Code ?tmk_Code ?tkc_Code ?tcc_Code ?tsp_Code ?ttk_Code ?tmo_Code ?taCode_init ?tiCode_init ?tlCode_init ?tcCode_init ?tkCode_init ?taCode_eq ?tiCode_eq ?tlCode_eq ?tcCode_eq ?tkCode_eq ?tx_Code_entries ?tx_Code_memory ?tn_Compiler ?tpg_Compiler ?thd_Compiler ?tpo_Compiler ?tsa_Compiler ?tmk_Compiler ?tkc_Compiler ?tcc_Compiler ?tsp_Compiler ?ttk_Compiler ?tmo_Compiler ?taCompiler_init ?tiCompiler_init ?tlCompiler_init ?tcCompiler_init ?tkCompiler_init ?taCompiler_here ?tiCompiler_here ?tlCompiler_here ?tcCompiler_here ?tkCompiler_here ?taCompiler_emit ?tiCompiler_emit ?tlCompiler_emit ?tcCompiler_emit ?tkCompiler_emit ?taCompiler_add_data ?tiCompiler_add_data ?tlCompiler_add_data ?tcCompiler_add_data ?tkCompiler_add_data ?taCompiler_add_exits ?tiCompiler_add_exits ?tlCompiler_add_exits ?tcCompiler_add_exits ?tkCompiler_add_exits ?taCompiler_add_procedure ?tiCompiler_add_procedure ?tlCompiler_add_procedure ?tcCompiler_add_procedure ?tkCompiler_add_procedure ?taCompiler_add_beginning ?tiCompiler_add_beginning ?tlCompiler_add_beginning ?tcCompiler_add_beginning ?tkCompiler_add_beginning ?taCompiler_add_ending ?tiCompiler_add_ending ?tlCompiler_add_ending ?tcCompiler_add_ending ?tkCompiler_add_ending ?taCompiler_caller_offset ?tiCompiler_caller_offset ?tlCompiler_caller_offset ?tcCompiler_caller_offset ?tkCompiler_caller_offset ?taCompiler_local_offset ?tiCompiler_local_offset ?tlCompiler_local_offset ?tcCompiler_local_offset ?tkCompiler_local_offset ?taCompiler_add_block ?tiCompiler_add_block ?tlCompiler_add_block ?tcCompiler_add_block ?tkCompiler_add_block ?taCompiler_add_statement ?tiCompiler_add_statement ?tlCompiler_add_statement ?tcCompiler_add_statement ?tkCompiler_add_statement ?taCompiler_add_put ?tiCompiler_add_put ?tlCompiler_add_put ?tcCompiler_add_put ?tkCompiler_add_put ?taCompiler_add_call ?tiCompiler_add_call ?tlCompiler_add_call ?tcCompiler_add_call ?tkCompiler_add_call ?taCompiler_add_use ?tiCompiler_add_use ?tlCompiler_add_use ?tcCompiler_add_use ?tkCompiler_add_use ?taCompiler_add_if ?tiCompiler_add_if ?tlCompiler_add_if ?tcCompiler_add_if ?tkCompiler_add_if ?taCompiler_add_while ?tiCompiler_add_while ?tlCompiler_add_while ?tcCompiler_add_while ?tkCompiler_add_while ?taCompiler_add_value ?tiCompiler_add_value ?tlCompiler_add_value ?tcCompiler_add_value ?tkCompiler_add_value ?taCompiler_add_check ?tiCompiler_add_check ?tlCompiler_add_check ?tcCompiler_add_check ?tkCompiler_add_check ?taCompiler_link_calls ?tiCompiler_link_calls ?tlCompiler_link_calls ?tcCompiler_link_calls ?tkCompiler_link_calls ?tx_Compiler_buffer_places ?tx_Compiler_calls ?tx_Compiler_checked ?tx_Compiler_component ?tx_Compiler_entries ?tx_Compiler_first_frame ?tx_Compiler_halt_place ?tx_Compiler_leave_place ?tx_Compiler_memory ?tx_Compiler_starts ?tx_Compiler_taken ?tn_Component ?tpg_Component ?thd_Component ?tpo_Component ?tsa_Component ?tmk_Component ?tkc_Component ?tcc_Component ?tsp_Component ?ttk_Component ?tmo_Component ?taComponent_init ?tiComponent_init ?tlComponent_init ?tcComponent_init ?tkComponent_init ?taComponent_eq ?tiComponent_eq ?tlComponent_eq ?tcComponent_eq ?tkComponent_eq ?tx_Component_buffers ?tx_Component_procedures ?tx_Component_room))
    (case a1 => k_is)
    (case l1 => k_is)
    (case c1 => k_is)
    (case k1 => k_is)
    (case a2 => k_is)
    (case l2 => k_is)
    (case c2 => k_is)
    (case k2 => k_is)
    (case a3 => k_is)
    (case l3 => k_is)
    (case c3 => k_is)
    (case k3 => k_is)
    (case a4 => k_is)
    (case l4 => k_is)
    (case c4 => k_is)
    (case k4 => k_is)
    (case a5 => k_is)
    (case l5 => k_is)
    (case c5 => k_is)
    (case k5 => k_is)
    (case a6 => k_is)
    (case l6 => k_is)
    (case c6 => k_is)
    (case k6 => k_is)
    (case q6 => k_is)
    (case a7 => k_is)
    (case l7 => k_is)
    (case c7 => k_is)
    (case k7 => k_is)
    (case a8 => k_is)
    (case l8 => k_is)
    (case c8 => k_is)
    (case k8 => k_is)
    (case a9 => k_is)
    (case l9 => k_is)
    (case c9 => k_is)
    (case k9 => k_is)
    (case a10 => k_is)
    (case l10 => k_is)
    (case c10 => k_is)
    (case k10 => k_is)
    (case a11 => k_is)
    (case l11 => k_is)
    (case c11 => k_is)
    (case k11 => k_is)
    (case a12 => k_is)
    (case l12 => k_is)
    (case c12 => k_is)
    (case k12 => k_is)
    (case a13 => k_is)
    (case l13 => k_is)
    (case c13 => k_is)
    (case k13 => k_is)
    (case a14 => k_is)
    (case l14 => k_is)
    (case c14 => k_is)
    (case k14 => k_is)
    (case a15 => k_is)
    (case l15 => k_is)
    (case c15 => k_is)
    (case k15 => k_is)
    (case a16 => k_is)
    (case l16 => k_is)
    (case c16 => k_is)
    (case k16 => k_is)
    (case a17 => k_is)
    (case l17 => k_is)
    (case c17 => k_is)
    (case k17 => k_is)
    (case a18 => k_is)
    (case l18 => k_is)
    (case c18 => k_is)
    (case k18 => k_is)
    (case a19 => k_is)
    (case l19 => k_is)
    (case c19 => k_is)
    (case k19 => k_is)
    (case a20 => k_is)
    (case l20 => k_is)
    (case c20 => k_is)
    (case k20 => k_is)
    (case a21 => k_is)
    (case l21 => k_is)
    (case c21 => k_is)
    (case k21 => k_is)
    (case a22 => k_is)
    (case l22 => k_is)
    (case c22 => k_is)
    (case k22 => k_is)
    (case c_WORD_COUNT => k_is)
    (case c_OPERATORS => k_is)
    (case lk_OPERATORS => k_is)
    (case sz_OPERATORS => decide)
    (case vv_OPERATORS => repeat (first | exact .nil | (refine .cons ⟨_, rfl⟩ ?_)))
    (case c_INSTRUCTION_WORDS => k_is)
    (case c_HALT => k_is)
    (case c_CONST => k_is)
    (case c_FIRST_OPERATOR => k_is)
    (case c_LOAD => k_is)
    (case c_STORE => k_is)
    (case c_JUMP => k_is)
    (case c_JUMPZERO => k_is)
    (case c_JUMPTO => k_is)
    (case c_USE => k_is)
    (case c_LEAVE => k_is)
    (case c_EXPRESSION_PLACES => k_is)
    (case lk_EXPRESSION_PLACES => k_is)
    (case lw_EXPRESSION_PLACES => first | rfl | decide)
    (case kl_EXPRESSION_PLACES => repeat (first | exact trivial | (refine ⟨⟨_, _, rfl, rfl⟩, ?_⟩)))
    (case lk_EXPRESSION_PLACES_1 => k_is)
    (case lk_EXPRESSION_PLACES_2 => k_is)
    (case lk_EXPRESSION_PLACES_3 => k_is)
    (case lk_EXPRESSION_PLACES_4 => k_is)
    (case lk_EXPRESSION_PLACES_5 => k_is)
    (case lk_EXPRESSION_PLACES_6 => k_is)
    (case lk_EXPRESSION_PLACES_7 => k_is)
    (case c_BLOCK_PLACES => k_is)
    (case lk_BLOCK_PLACES => k_is)
    (case lw_BLOCK_PLACES => first | rfl | decide)
    (case kl_BLOCK_PLACES => repeat (first | exact trivial | (refine ⟨⟨_, _, rfl, rfl⟩, ?_⟩)))
    (case lk_BLOCK_PLACES_1 => k_is)
    (case lk_BLOCK_PLACES_2 => k_is)
    (case c_FRAME_EXTRA => k_is)
    (case c_MOST_MEMORY => k_is)
    (case c_ANSWER => k_is)
    (case c_LAST_VALUE => k_is)
    (case c_SPARE => k_is)
    (case c_ZERO => k_is)
    (case c_TOP => k_is)
    (case c_TOP_CELL => k_is)
    (case b_bool => k_is)
    (case b_int => k_is)
    (case b_isinstance => k_is)
    (case b_len => k_is)
    (case b_list => k_is)
    (case b_max => k_is)
    (case b_min => k_is)
    (case b_range => k_is)
    (case b_str => k_is)
    (case b_tuple => k_is)
    (case tn_BlameError => k_is)
    (case tex_BlameError => k_is)
    (case tty_BlameError => k_is)
    (case tic_BlameError => k_is)
    (case tss_BlameError => k_is)
    (case tga_BlameError => k_is)
    (case trd_BlameError => k_is)
    (case tit_BlameError => k_is)
    (case tn_TooLarge => k_is)
    (case tex_TooLarge => k_is)
    (case tty_TooLarge => k_is)
    (case tic_TooLarge => k_is)
    (case tss_TooLarge => k_is)
    (case txl_TooLarge => k_is)
    (case tsa_TooLarge => k_is)
    (case tkc_TooLarge => k_is)
    (case tga_TooLarge => k_is)
    (case tgg_TooLarge => k_is)
    (case thd_TooLarge => k_is)
    (case tcc_TooLarge => k_is)
    (case tsp_TooLarge => k_is)
    (case ttk_TooLarge => k_is)
    (case tmo_TooLarge => k_is)
    (case taTooLarge_init => k_is)
    (case tiTooLarge_init => k_is)
    (case tlTooLarge_init => k_is)
    (case tcTooLarge_init => k_is)
    (case tkTooLarge_init => k_is)
    (case tx_TooLarge_what => k_is)
    (case tn_Code => k_is)
    (case tpg_Code => k_is)
    (case thd_Code => k_is)
    (case tpo_Code => k_is)
    (case tsa_Code => k_is)
    (case tmk_Code => k_is)
    (case tkc_Code => k_is)
    (case tcc_Code => k_is)
    (case tsp_Code => k_is)
    (case ttk_Code => k_is)
    (case tmo_Code => k_is)
    (case taCode_init => k_is)
    (case tiCode_init => k_is)
    (case tlCode_init => k_is)
    (case tcCode_init => k_is)
    (case tkCode_init => k_is)
    (case taCode_eq => k_is)
    (case tiCode_eq => k_is)
    (case tlCode_eq => k_is)
    (case tcCode_eq => k_is)
    (case tkCode_eq => k_is)
    (case tx_Code_entries => k_is)
    (case tx_Code_memory => k_is)
    (case tn_Compiler => k_is)
    (case tpg_Compiler => k_is)
    (case thd_Compiler => k_is)
    (case tpo_Compiler => k_is)
    (case tsa_Compiler => k_is)
    (case tmk_Compiler => k_is)
    (case tkc_Compiler => k_is)
    (case tcc_Compiler => k_is)
    (case tsp_Compiler => k_is)
    (case ttk_Compiler => k_is)
    (case tmo_Compiler => k_is)
    (case taCompiler_init => k_is)
    (case tiCompiler_init => k_is)
    (case tlCompiler_init => k_is)
    (case tcCompiler_init => k_is)
    (case tkCompiler_init => k_is)
    (case taCompiler_here => k_is)
    (case tiCompiler_here => k_is)
    (case tlCompiler_here => k_is)
    (case tcCompiler_here => k_is)
    (case tkCompiler_here => k_is)
    (case taCompiler_emit => k_is)
    (case tiCompiler_emit => k_is)
    (case tlCompiler_emit => k_is)
    (case tcCompiler_emit => k_is)
    (case tkCompiler_emit => k_is)
    (case taCompiler_add_data => k_is)
    (case tiCompiler_add_data => k_is)
    (case tlCompiler_add_data => k_is)
    (case tcCompiler_add_data => k_is)
    (case tkCompiler_add_data => k_is)
    (case taCompiler_add_exits => k_is)
    (case tiCompiler_add_exits => k_is)
    (case tlCompiler_add_exits => k_is)
    (case tcCompiler_add_exits => k_is)
    (case tkCompiler_add_exits => k_is)
    (case taCompiler_add_procedure => k_is)
    (case tiCompiler_add_procedure => k_is)
    (case tlCompiler_add_procedure => k_is)
    (case tcCompiler_add_procedure => k_is)
    (case tkCompiler_add_procedure => k_is)
    (case taCompiler_add_beginning => k_is)
    (case tiCompiler_add_beginning => k_is)
    (case tlCompiler_add_beginning => k_is)
    (case tcCompiler_add_beginning => k_is)
    (case tkCompiler_add_beginning => k_is)
    (case taCompiler_add_ending => k_is)
    (case tiCompiler_add_ending => k_is)
    (case tlCompiler_add_ending => k_is)
    (case tcCompiler_add_ending => k_is)
    (case tkCompiler_add_ending => k_is)
    (case taCompiler_caller_offset => k_is)
    (case tiCompiler_caller_offset => k_is)
    (case tlCompiler_caller_offset => k_is)
    (case tcCompiler_caller_offset => k_is)
    (case tkCompiler_caller_offset => k_is)
    (case taCompiler_local_offset => k_is)
    (case tiCompiler_local_offset => k_is)
    (case tlCompiler_local_offset => k_is)
    (case tcCompiler_local_offset => k_is)
    (case tkCompiler_local_offset => k_is)
    (case taCompiler_add_block => k_is)
    (case tiCompiler_add_block => k_is)
    (case tlCompiler_add_block => k_is)
    (case tcCompiler_add_block => k_is)
    (case tkCompiler_add_block => k_is)
    (case taCompiler_add_statement => k_is)
    (case tiCompiler_add_statement => k_is)
    (case tlCompiler_add_statement => k_is)
    (case tcCompiler_add_statement => k_is)
    (case tkCompiler_add_statement => k_is)
    (case taCompiler_add_put => k_is)
    (case tiCompiler_add_put => k_is)
    (case tlCompiler_add_put => k_is)
    (case tcCompiler_add_put => k_is)
    (case tkCompiler_add_put => k_is)
    (case taCompiler_add_call => k_is)
    (case tiCompiler_add_call => k_is)
    (case tlCompiler_add_call => k_is)
    (case tcCompiler_add_call => k_is)
    (case tkCompiler_add_call => k_is)
    (case taCompiler_add_use => k_is)
    (case tiCompiler_add_use => k_is)
    (case tlCompiler_add_use => k_is)
    (case tcCompiler_add_use => k_is)
    (case tkCompiler_add_use => k_is)
    (case taCompiler_add_if => k_is)
    (case tiCompiler_add_if => k_is)
    (case tlCompiler_add_if => k_is)
    (case tcCompiler_add_if => k_is)
    (case tkCompiler_add_if => k_is)
    (case taCompiler_add_while => k_is)
    (case tiCompiler_add_while => k_is)
    (case tlCompiler_add_while => k_is)
    (case tcCompiler_add_while => k_is)
    (case tkCompiler_add_while => k_is)
    (case taCompiler_add_value => k_is)
    (case tiCompiler_add_value => k_is)
    (case tlCompiler_add_value => k_is)
    (case tcCompiler_add_value => k_is)
    (case tkCompiler_add_value => k_is)
    (case taCompiler_add_check => k_is)
    (case tiCompiler_add_check => k_is)
    (case tlCompiler_add_check => k_is)
    (case tcCompiler_add_check => k_is)
    (case tkCompiler_add_check => k_is)
    (case taCompiler_link_calls => k_is)
    (case tiCompiler_link_calls => k_is)
    (case tlCompiler_link_calls => k_is)
    (case tcCompiler_link_calls => k_is)
    (case tkCompiler_link_calls => k_is)
    (case tx_Compiler_buffer_places => k_is)
    (case tx_Compiler_calls => k_is)
    (case tx_Compiler_checked => k_is)
    (case tx_Compiler_component => k_is)
    (case tx_Compiler_entries => k_is)
    (case tx_Compiler_first_frame => k_is)
    (case tx_Compiler_halt_place => k_is)
    (case tx_Compiler_leave_place => k_is)
    (case tx_Compiler_memory => k_is)
    (case tx_Compiler_starts => k_is)
    (case tx_Compiler_taken => k_is)
    (case tn_Component => k_is)
    (case tpg_Component => k_is)
    (case thd_Component => k_is)
    (case tpo_Component => k_is)
    (case tsa_Component => k_is)
    (case tmk_Component => k_is)
    (case tkc_Component => k_is)
    (case tcc_Component => k_is)
    (case tsp_Component => k_is)
    (case ttk_Component => k_is)
    (case tmo_Component => k_is)
    (case taComponent_init => k_is)
    (case tiComponent_init => k_is)
    (case tlComponent_init => k_is)
    (case tcComponent_init => k_is)
    (case tkComponent_init => k_is)
    (case taComponent_eq => k_is)
    (case tiComponent_eq => k_is)
    (case tlComponent_eq => k_is)
    (case tcComponent_eq => k_is)
    (case tkComponent_eq => k_is)
    (case tx_Component_buffers => k_is)
    (case tx_Component_procedures => k_is)
    (case tx_Component_room => k_is)
