import PyProof.Rows.All
import Wide.All
import OpenK.AllK
import Wide.FinOn
import HandS.ForMost
import HandS.IsInst
import HandS.TupAny
import HandS.Flow
import HandS.Walk
import HandS.Comp
import HandS.Exc
import HandS.TryOnly
import HandS.ExcOwn
import HandS.WordsExc
import HandS.ExcInit
import HandS.ExcIs
import HandS.ExcField
import HandS.HotCalls
import HandS.FStr
import HandS.TupSets
import HandS.SetFor
import HandS.Style
import HandS.OwnEq
import HandS.Deep
import HandS.ExcInitHot
import HandS.Zip
import HandS.NoneIn
import HandS.Star
import HandS.Small
import HandS.Zip0
import HandS.Iter
import PyProof.Draws
import HandS.Defaults
import HandS.MakeKwOnly
import HandS.CallSlots
import HandS.Strs
import HandS.SortKw
import KE.DataMinMax
import HandS.RaiseMore
import PySem.Challenge.RW_blameless_k08_whole_texts_are_read_exact
set_option Elab.async false
set_option linter.all false
set_option maxRecDepth 100000
set_option maxHeartbeats 4000000
/-! G: rules by kind of value, and the steps of a reading (own work). -/
namespace G
open PySem PySem.Spec PyProof.Rows L2

/-! ### operators by kind -/
section
variable {X : Cx}
def gAddS : R2 := fun x y H Q => ∃ i j, x = .str i ∧ y = .str j ∧ i.length + j.length ≤ sizeLine ∧ Q (.str (i ++ j)) H
def gAdd (K : PySem.W.Frag) : R2 := fun x y H Q => rI0 (fun i j => .int (i + j)) x y H Q ∨ gAddS x y H Q ∨ rCat x y H Q ∨ rCatA K x y H Q
theorem g_add {K : PySem.W.Frag} (hK : X.K = K := by rfl) : OpR X (binaryOp .Add) (gAdd K) := by subst hK; exact op_add.or (op_add_str.or (op_cat.or op_catA))
def gSubI : R2 := rI0 fun i j => .int (i - j)
theorem g_sub : OpR X (binaryOp .Sub) gSubI := op_sub
def gMul : R2 := rI CMul fun i j => .int (i * j)
theorem g_mul : OpR X (binaryOp .Mult) gMul := op_mul
def gDiv : R2 := rI CDiv fun i j => .int (i / j)
theorem g_div : OpR X (binaryOp .FloorDiv) gDiv := op_fdiv
def gMod : R2 := rI (fun _ j => 0 < j) fun i j => .int (i % j)
theorem g_mod : OpR X (binaryOp .Mod) gMod := op_mod
def gPow : R2 := rI CPow fun i j => .int (i ^ j.toNat)
theorem g_pow : OpR X (binaryOp .Pow) gPow := op_pow
def gLtS : R2 := fun x y H Q => ∃ i j, x = .str i ∧ y = .str j ∧ Q (.bl (decide (i.cps.toList < j.cps.toList))) H
def gLt : R2 := fun x y H Q => rI0 (fun i j => .bl (decide (i < j))) x y H Q ∨ gLtS x y H Q
theorem g_lt : OpR X (compareOp .Lt) gLt := op_lt.or op_lt_str
def gLeS : R2 := fun x y H Q => ∃ i j, x = .str i ∧ y = .str j ∧ Q (.bl (!decide (j.cps.toList < i.cps.toList))) H
def gLe : R2 := fun x y H Q => rI0 (fun i j => .bl (decide (i ≤ j))) x y H Q ∨ gLeS x y H Q
theorem g_le : OpR X (compareOp .LtE) gLe := op_le.or op_le_str
def gGt : R2 := rI0 fun i j => .bl (decide (j < i))
theorem g_gt : OpR X (compareOp .Gt) gGt := op_gt
def gGe : R2 := rI0 fun i j => .bl (decide (j ≤ i))
theorem g_ge : OpR X (compareOp .GtE) gGe := op_ge
theorem g_eq : OpR X (compareOp .Eq) rEq := op_eq
theorem g_ne : OpR X (compareOp .NotEq) rNe := op_ne
def gIs : R2 := fun x y H Q => y = .non ∧ Q (.bl (decide (x = .non))) H
theorem g_is : OpR X (compareOp .Is) gIs := op_isN
def gIsNot : R2 := fun x y H Q => y = .non ∧ Q (.bl (!decide (x = .non))) H
theorem g_isnot : OpR X (compareOp .IsNot) gIsNot := op_notN
def gInS : R2 := fun x y H Q => ∃ (c : Nat) (z : Str), x = .str ⟨#[c]⟩ ∧ y = .str z ∧ Q (.bl (decide (c ∈ z.cps.toList))) H
def gIn (K : PySem.W.Frag) : R2 := fun x y H Q => rIn K false x y H Q ∨ gInS x y H Q
theorem g_in {K : PySem.W.Frag} (hK : X.K = K := by rfl) : OpR X (compareOp .In) (gIn K) := by subst hK; exact op_in_seq.or op_in_sign
def gNotInS : R2 := fun x y H Q => ∃ (c : Nat) (z : Str), x = .str ⟨#[c]⟩ ∧ y = .str z ∧ Q (.bl (!decide (c ∈ z.cps.toList))) H
def gNotIn (K : PySem.W.Frag) : R2 := fun x y H Q => rIn K true x y H Q ∨ gNotInS x y H Q
theorem g_notin {K : PySem.W.Frag} (hK : X.K = K := by rfl) : OpR X (compareOp .NotIn) (gNotIn K) := by subst hK; exact op_notIn_seq.or op_notIn_sign
def gSl (K : PySem.W.Frag) : V → Option Int → Option Int → Hp → VK → Prop := fun x lo hi H Q => rSlL K x lo hi H Q ∨ rSlA K x lo hi H Q ∨ rSlS x lo hi H Q
theorem g_sl {K : PySem.W.Frag} (hK : X.K = K := by rfl) : SlR X (gSl K) := by subst hK; exact sl_list.or (sl_tupA.or sl_str)
theorem g_ix {K : PySem.W.Frag} (hK : X.K = K := by rfl) : IxR X (rIx K) := by subst hK; exact ix_seq
/-! calls -/
def gLen (K : PySem.W.Frag) : List V → Hp → VK → Prop := fun xs H Q => ∃ x n, xs = [x] ∧ LenV K x H n ∧ Q (.int (n : Nat)) H
theorem g_len {K : PySem.W.Frag} (hK : X.K = K := by rfl) : CallR X (.builtin "len") (gLen K) := by subst hK; exact call_len
def gIntN : List V → Hp → VK → Prop := fun xs H Q => (∃ i, xs = [.int i] ∧ Q (.int i) H) ∨ ∃ k, xs = [.bl k] ∧ Q (.int (if k then 1 else 0)) H
def gIntS : List V → Hp → VK → Prop := fun xs H Q => ∃ a n, xs = [.str a] ∧ PySem.intText? a = some n ∧ a.length ≤ 640 ∧ Q (.int n) H
def gInt : List V → Hp → VK → Prop := fun xs H Q => gIntN xs H Q ∨ gIntS xs H Q
theorem g_int : CallR X (.type "int") gInt := call_int1.or call_int_str
def gStr : List V → Hp → VK → Prop := fun xs H Q => ∃ i : Int, xs = [.int i] ∧ i.natAbs.log2 < 1920 ∧ Q (.str (toString i)) H
theorem g_str : CallR X (.type "str") gStr := call_str_int
def gMin : List V → Hp → VK → Prop := fun xs H Q => ∃ i j, xs = [.int i, .int j] ∧ Q (.int (if j < i then j else i)) H
theorem g_min (hc : X.calm = true) : CallR X (.builtin "min") gMin := call_min2 hc
def gList (K : PySem.W.Frag) : List V → Hp → VK → Prop := fun xs H Q => ∃ p ys, xs = [.ref p] ∧ (SqL K H p ys ∨ SqT K H p ys) ∧ ∀ l, H l = none → Q (.ref l) (upd H l (.lst ys))
theorem g_list {K : PySem.W.Frag} (hK : X.K = K := by rfl) : CallR X (.type "list") (gList K) := by subst hK; exact call_list_of
def gTupl (K : PySem.W.Frag) : List V → Hp → VK → Prop := fun xs H Q => ∃ a ys, xs = [.ref a] ∧ ((SqL K H a ys ∧ ∀ l, H l = none → Q (.ref l) (upd H l (.tup ys))) ∨ (SqT K H a ys ∧ Q (.ref a) H))
theorem g_tup {K : PySem.W.Frag} (hK : X.K = K := by rfl) : CallR X (.type "tuple") (gTupl K) := by subst hK; exact call_tuple_of
def gOrd : List V → Hp → VK → Prop := fun xs H Q => ∃ x : Str, xs = [.str x] ∧ x.length = 1 ∧ Q (.int (x.cps.getD 0 0 : Nat)) H
theorem g_ord : CallR X (.builtin "ord") gOrd := call_ord
theorem g_all (hc : X.calm = true) {K : PySem.W.Frag} (hK : X.K = K := by rfl) : CallR X (.builtin "all") (rAll K) := by subst hK; exact cr_all hc
theorem g_any (hc : X.calm = true) {K : PySem.W.Frag} (hK : X.K = K := by rfl) : CallR X (.builtin "any") (rAny K) := by subst hK; exact cr_any hc
def gJoin (K : PySem.W.Frag) : V → List V → Hp → VK → Prop := fun x xs H Q => ∃ a p, ∃ ys : List Str, x = .str a ∧ xs = [.ref p] ∧ (SqL K H p (ys.map V.str) ∨ SqT K H p (ys.map V.str)) ∧ (ys.map (·.length)).sum + ys.length * a.length ≤ 16777216 ∧ Q (.str (Txt.join a ys)) H
theorem g_join {K : PySem.W.Frag} (hK : X.K = K := by rfl) : MtR X "str.join" (gJoin K) := by subst hK; exact mt_join
def gSplit : V → List V → Hp → VK → Prop := fun x xs H Q => ∃ a b, x = .str a ∧ xs = [.str b] ∧ (b.length == 0) = false ∧ a.length + 2 ≤ sizeLine ∧ rNewStrs (Txt.split a b) H Q
theorem g_split : MtR X "str.split" gSplit := mt_split
def gIsi (K : PySem.W.Frag) : List V → Hp → VK → Prop := fun xs H Q => rIsi K xs H Q ∨ rIsiT K xs H Q
theorem g_isi {K : PySem.W.Frag} (hK : X.K = K := by rfl) : CallR X (.builtin "isinstance") (gIsi K) := by subst hK; exact call_isi.or call_isiT
end

section
variable {X : Cx} {K : PySem.W.Frag} {a b : Expr} {ta tb : TE} {rest : List Expr} {pos : Pos}
theorem g_andT (ha : PE X a ta) (hb : PE X (.BoolOp .And (b :: rest) pos) tb) (hK : X.K = K := by rfl) : PE X (.BoolOp .And (a :: b :: rest) pos) (tAndT K ta tb) := by subst hK; exact pe_andT ha hb
theorem g_orT (ha : PE X a ta) (hb : PE X (.BoolOp .Or (b :: rest) pos) tb) (hK : X.K = K := by rfl) : PE X (.BoolOp .Or (a :: b :: rest) pos) (tOrT K ta tb) := by subst hK; exact pe_orT ha hb
theorem g_notT (ha : PE X a ta) (hK : X.K = K := by rfl) : PE X (.UnaryOp .Not a pos) (tNotT K ta) := by subst hK; exact pe_notT ha
theorem bm_K {X : Cx} {K : PySem.W.Frag} {T : String} {e : Expr} {to : TE} {t : TA} {r : V → List V → Hp → VK → Prop} (h : PE X e (tBM X.K T r to t)) (hK : X.K = K := by rfl) : PE X e (tBM K T r to t) := by subst hK; exact h
theorem bm0_K {X : Cx} {K : PySem.W.Frag} {T : String} {e : Expr} {to : TE} {r : V → List V → Hp → VK → Prop} (h : PE X e (tBM0 X.K T r to)) (hK : X.K = K := by rfl) : PE X e (tBM0 K T r to) := by subst hK; exact h
theorem ptup_K {X : Cx} {K : PySem.W.Frag} {e : Expr} {t : TGs} {n : Nat} (h : PG X e (gTup X.K n t)) (hK : X.K = K := by rfl) : PG X e (gTup K n t) := by subst hK; exact h
theorem fld_K {X : Cx} {K : PySem.W.Frag} {e : Expr} {ta : TE} {f : Str} (h : PE X e (tFld X.K ta f)) (hK : X.K = K := by rfl) : PE X e (tFld K ta f) := by subst hK; exact h
theorem sfld_K {X : Cx} {K : PySem.W.Frag} {st : Stmt} {ta tv : TE} {f : Str} (h : PS X st (sFld X.K ta tv f)) (hK : X.K = K := by rfl) : PS X st (sFld K ta tv f) := by subst hK; exact h
def tTr (K : PySem.W.Frag) (ta : TE) : TT := fun σ H Q => ta σ H fun x H' => ∃ k, TruV K x H' k ∧ Q k H'
theorem g_truth (ha : PE X a ta) (he : ∀ whole, isTrue a X.env whole = (do let v ← whole; standAt a.pos; holding [v] (truthy v))) (hK : X.K = K := by rfl) : PT X a (tTr K ta) := by subst hK; exact pt_truth ha he
end
/-! ### a cut behind a statement: a word of the slots and the heap -/
def tCut (t u : TS) : TS := fun D σ H => ∃ W : L2.St → Hp → Prop, t { D with nx := W } σ H ∧ ∀ σ' H', W σ' H' → u D σ' H'
theorem pss_cut {X : Cx} {st : Stmt} {rest : List Stmt} {t u : TS} (h1 : PS X st t) (h2 : PSs X rest u) : PSs X (st :: rest) (tCut t u) := by
  constructor
  intro pins s σ H D I ⟨W, a, b⟩
  apply wpAny_execs_cons
  apply thn (h1.run pins s σ H _ I a)
  intro f s1 q
  cases f with
  | next =>
    obtain ⟨σ', H', I', q⟩ := q
    exact h2.run pins s1 σ' H' D I' (b σ' H' q)
  | ret v => exact q
  | brk => exact q
  | cont => exact q

theorem kit_N_tuple : kitB "NoneType" "tuple" = some false := by decide +kernel
theorem kit_N_list : kitB "NoneType" "list" = some false := by decide +kernel
theorem kit_N_bool : kitB "NoneType" "bool" = some false := by decide +kernel
theorem kit_N_int : kitB "NoneType" "int" = some false := by decide +kernel
theorem kit_N_str : kitB "NoneType" "str" = some false := by decide +kernel
theorem kit_B_tuple : kitB "bool" "tuple" = some false := by decide +kernel
theorem kit_B_list : kitB "bool" "list" = some false := by decide +kernel
theorem kit_B_bool : kitB "bool" "bool" = some true := by decide +kernel
theorem kit_B_int : kitB "bool" "int" = some true := by decide +kernel
theorem kit_B_str : kitB "bool" "str" = some false := by decide +kernel
theorem kit_I_tuple : kitB "int" "tuple" = some false := by decide +kernel
theorem kit_I_list : kitB "int" "list" = some false := by decide +kernel
theorem kit_I_bool : kitB "int" "bool" = some false := by decide +kernel
theorem kit_I_int : kitB "int" "int" = some true := by decide +kernel
theorem kit_I_str : kitB "int" "str" = some false := by decide +kernel
theorem kit_S_tuple : kitB "str" "tuple" = some false := by decide +kernel
theorem kit_S_list : kitB "str" "list" = some false := by decide +kernel
theorem kit_S_bool : kitB "str" "bool" = some false := by decide +kernel
theorem kit_S_int : kitB "str" "int" = some false := by decide +kernel
theorem kit_S_str : kitB "str" "str" = some true := by decide +kernel
theorem kit_L_tuple : kitB "list" "tuple" = some false := by decide +kernel
theorem kit_L_list : kitB "list" "list" = some true := by decide +kernel
theorem kit_L_bool : kitB "list" "bool" = some false := by decide +kernel
theorem kit_L_int : kitB "list" "int" = some false := by decide +kernel
theorem kit_L_str : kitB "list" "str" = some false := by decide +kernel
theorem kit_T_tuple : kitB "tuple" "tuple" = some true := by decide +kernel
theorem kit_T_list : kitB "tuple" "list" = some false := by decide +kernel
theorem kit_T_bool : kitB "tuple" "bool" = some false := by decide +kernel
theorem kit_T_int : kitB "tuple" "int" = some false := by decide +kernel
theorem kit_T_str : kitB "tuple" "str" = some false := by decide +kernel

theorem line_val : sizeLine = 16777216 := by decide
theorem slen_app (a b : Str) : (a ++ b).length = a.length + b.length := by
  rw [TL.len_tl, TL.tl_append, List.length_append, ← TL.len_tl, ← TL.len_tl]
theorem slen_one (c : Nat) : (⟨#[c]⟩ : Str).length = 1 := rfl
theorem log_ok {i : Int} (h0 : 0 ≤ i) (h1 : i < 18446744073709551616) : i.natAbs.log2 < 1920 := by
  have h : i.natAbs < 2 ^ 64 := by omega
  by_cases z : i.natAbs = 0
  · rw [z]; decide
  · exact Nat.lt_of_lt_of_le ((Nat.log2_lt z).mpr h) (by decide)
/-! ### steps of a reading -/
section
variable {K : PySem.W.Frag} {σ σ' : L2.St} {H : Hp} {Q : VK} {D : Ends} {ta tb tc te : TE} {t u : TT} {ts tu tw : TS} {x y v w : V} {i j : Int} {p q : Addr} {xs : List V} {r r' : R2} {b : Bool} {g : TG} {tr : TA}
theorem r_seq (h : tu { D with nx := tw D } σ H) : tSeq tu tw D σ H := h
theorem r_cut0 (h : tu { D with nx := tw D } σ H) : tCut tu tw D σ H := ⟨tw D, h, fun _ _ q => q⟩
theorem r_cut (W : L2.St → Hp → Prop) (h : tu { D with nx := W } σ H) (k : ∀ σ' H', W σ' H' → tw D σ' H') : tCut tu tw D σ H := ⟨W, h, k⟩
theorem r_tr {Q : Bool → Hp → Prop} (h : te σ H fun x H' => ∃ k, TruV K x H' k ∧ Q k H') : tTr K te σ H Q := h
theorem r_nx (h : D.nx σ H) : tNext D σ H := h
theorem r_asg (h : te σ H fun x H1 => g x σ H1 D.nx) : tAsg te g D σ H := h
theorem r_drop (h : te σ H fun _ H1 => D.nx σ H1) : tDrop te D σ H := h
theorem r_ret (h : te σ H D.rt) : tRet te D σ H := h
/-- what is left of a for, of a comprehension, when its walk is known -/
def ForIs (J : It) (H : Hp) (g : TG) (tb : TS) (D : Ends) (σ : L2.St) : Prop := ∃ W : Nat → Nat → L2.St → Hp → Prop, (∃ m, W 0 m σ H) ∧ ∀ i m σ H, W i m σ H →
      (J.stop i H ∧ D.nx σ H) ∨ (J.go i H ∧ ∃ N : L2.St → Hp → Prop, (∀ σ' H', N σ' H' → ∃ m', m' < m ∧ W (i + 1) m' σ' H') ∧ ∀ x H', J.yld i H x H' → g x σ H' fun σ2 H2 => tb { D with nx := N, ct := N, bk := D.nx } σ2 H2)
def LcIs (J : It) (H1 : Hp) (g : TG) (tt : TT) (te : TE) (vs : List Nat) (σ : L2.St) (Q : VK) : Prop := ∀ D, H1 D = none → ∃ W : Nat → Nat → Hp → Prop, (∃ m, W 0 m (upd H1 D (.lst []))) ∧ ∀ i m H, W i m H →
  (J.stop i H ∧ Q (.ref D) H) ∨ (J.go i H ∧ ∃ Nx : Hp → Prop, (∀ H', Nx H' → ∃ m', m' < m ∧ W (i + 1) m' H') ∧ ∀ x H', J.yld i H x H' → g x (wipe σ vs) H' fun σ2 H2 => wipe σ2 vs = wipe σ vs ∧ tt σ2 H2 fun b H3 =>
    if b = true then te σ2 H3 fun y H4 => ∃ acc, H4 D = some (.lst acc) ∧ acc.length < sizeLine ∧ Nx (upd H4 D (.lst (acc ++ [y]))) else Nx H3)
theorem r_for {wi : TI} (h : wi σ H fun J H1 => ForIs J H1 g tu D σ) : tFor wi g tu D σ H := h
theorem r_lc {wi : TI} {tt : TT} {vs : List Nat} (h : wi σ H fun J H1 => LcIs J H1 g tt te vs σ Q) : tLc wi g tt te vs σ H Q := h
theorem w_rng1 {n : Int} {R : Int → Prop} (h : 0 ≤ n ∧ n < 2 ^ 62) (k : R n) : ∃ j : Int, [V.int n] = [.int j] ∧ -(2 ^ 62) ≤ j ∧ j < 2 ^ 62 ∧ R j := ⟨n, rfl, by omega, h.2, k⟩
theorem w_rng2 {m n : Int} {R : Int → Int → Prop} (h : (-(2 ^ 62) ≤ m ∧ m < 2 ^ 62) ∧ -(2 ^ 62) ≤ n ∧ n < 2 ^ 62) (k : R m n) : ∃ i j : Int, [V.int m, V.int n] = [.int i, .int j] ∧ (-(2 ^ 62) ≤ i ∧ i < 2 ^ 62 ∧ -(2 ^ 62) ≤ j ∧ j < 2 ^ 62) ∧ R i j := ⟨m, n, rfl, ⟨h.1.1, h.1.2, h.2.1, h.2.2⟩, k⟩
theorem w_tup {R : Addr → Prop} {xs : List V} (h : SqT K H p xs) (k : R p) : ∃ a, V.ref p = .ref a ∧ (∃ xs, SqT K H a xs) ∧ R a := ⟨p, rfl, ⟨xs, h⟩, k⟩
theorem w_itL {R R' : Addr → Prop} {S : Str → Prop} {xs : List V} (h : SqL K H p xs) (k : R p) : (∃ a, V.ref p = .ref a ∧ (∃ xs, SqL K H a xs) ∧ R a) ∨ (∃ a, V.ref p = .ref a ∧ (∃ xs, SqT K H a xs) ∧ R' a) ∨ ∃ z, V.ref p = .str z ∧ S z := .inl ⟨p, rfl, ⟨xs, h⟩, k⟩
theorem w_itT {R R' : Addr → Prop} {S : Str → Prop} {xs : List V} (h : SqT K H p xs) (k : R' p) : (∃ a, V.ref p = .ref a ∧ (∃ xs, SqL K H a xs) ∧ R a) ∨ (∃ a, V.ref p = .ref a ∧ (∃ xs, SqT K H a xs) ∧ R' a) ∨ ∃ z, V.ref p = .str z ∧ S z := .inr (.inl ⟨p, rfl, ⟨xs, h⟩, k⟩)
theorem w_itS {R R' : Addr → Prop} {S : Str → Prop} {z : Str} (k : S z) : (∃ a, V.str z = .ref a ∧ (∃ xs, SqL K H a xs) ∧ R a) ∨ (∃ a, V.str z = .ref a ∧ (∃ xs, SqT K H a xs) ∧ R' a) ∨ ∃ y, V.str z = .str y ∧ S y := .inr (.inr ⟨z, rfl, k⟩)
theorem r_iRng1 {R : It → Hp → Prop} (h : tr σ H fun vs H1 => ∃ j : Int, vs = [.int j] ∧ -(2 ^ 62) ≤ j ∧ j < 2 ^ 62 ∧ R (Itr 0 j.toNat) H1) : iRng1 tr σ H R := h
theorem r_iRng2 {R : It → Hp → Prop} (h : tr σ H fun vs H1 => ∃ i j : Int, vs = [.int i, .int j] ∧ (-(2 ^ 62) ≤ i ∧ i < 2 ^ 62 ∧ -(2 ^ 62) ≤ j ∧ j < 2 ^ 62) ∧ R (Itr i (j - i).toNat) H1) : iRng2 tr σ H R := h
theorem r_iTup {R : It → Hp → Prop} (h : te σ H fun x H1 => ∃ a, x = .ref a ∧ (∃ xs, SqT K H1 a xs) ∧ R (Itt K a) H1) : iTup K te σ H R := h
/-- for i in range(n): a word of the turn, the slots and the heap -/
theorem l_range {n : Int} (W : Nat → L2.St → Hp → Prop) (w0 : W 0 σ H)
    (ws : ∀ (i : Nat) σ' H', (i : Int) < n → W i σ' H' → g (.int (i : Int)) σ' H' fun σ2 H2 => tu { D with nx := W (i + 1), ct := W (i + 1), bk := D.nx } σ2 H2) (wd : ∀ σ' H', W n.toNat σ' H' → D.nx σ' H') :
    ForIs (Itr 0 n.toNat) H g tu D σ := for_range (lo := 0) (n := n.toNat) W w0 (fun i σ' H' hi q => by rw [Int.zero_add]; exact ws i σ' H' (by omega) q) wd
/-- for i in range(m, n) -/
theorem l_range2 {m n : Int} (W : Nat → L2.St → Hp → Prop) (w0 : W 0 σ H)
    (ws : ∀ (i : Nat) σ' H', m + (i : Int) < n → W i σ' H' → g (.int (m + (i : Int))) σ' H' fun σ2 H2 => tu { D with nx := W (i + 1), ct := W (i + 1), bk := D.nx } σ2 H2) (wd : ∀ σ' H', W (n - m).toNat σ' H' → D.nx σ' H') :
    ForIs (Itr m (n - m).toNat) H g tu D σ := for_range (lo := m) (n := (n - m).toNat) W w0 (fun i σ' H' hi q => ws i σ' H' (by omega) q) wd
/-- for x in t (a tuple), in l (a list); hl: it stands still -/
theorem l_tup (W : Nat → L2.St → Hp → Prop) (w0 : W 0 σ H) (hl : ∀ i σ H, W i σ H → SqT K H p xs)
    (ws : ∀ (i : Nat) x σ' H', xs[i]? = some x → W i σ' H' → g x σ' H' fun σ2 H2 => tu { D with nx := W (i + 1), ct := W (i + 1), bk := D.nx } σ2 H2) (wd : ∀ σ' H', W xs.length σ' H' → D.nx σ' H') :
    ForIs (Itt K p) H g tu D σ := for_tup (xs := xs) W w0 (fun i σ H _ => hl i σ H) ws wd
theorem l_list (W : Nat → L2.St → Hp → Prop) (w0 : W 0 σ H) (hl : ∀ i σ H, W i σ H → SqL K H p xs)
    (ws : ∀ (i : Nat) x σ' H', xs[i]? = some x → W i σ' H' → g x σ' H' fun σ2 H2 => tu { D with nx := W (i + 1), ct := W (i + 1), bk := D.nx } σ2 H2) (wd : ∀ σ' H', W xs.length σ' H' → D.nx σ' H') :
    ForIs (Itl K p) H g tu D σ := for_list (xs := xs) W w0 (fun i σ H _ => hl i σ H) ws wd
theorem l_str {z : Str} (W : Nat → L2.St → Hp → Prop) (w0 : W 0 σ H)
    (ws : ∀ (i : Nat) c σ' H', (TL.tl z)[i]? = some c → W i σ' H' → g (.str ⟨#[c]⟩) σ' H' fun σ2 H2 => tu { D with nx := W (i + 1), ct := W (i + 1), bk := D.nx } σ2 H2) (wd : ∀ σ' H', W z.length σ' H' → D.nx σ' H') :
    ForIs (Its z) H g tu D σ := for_it walk_str W w0 (fun _ _ _ _ _ => trivial) (by
      rintro i x σ' H1 H2 _ q ⟨rfl, c, hc, rfl⟩
      exact ws i c σ' _ (by simpa using hc) q) wd
theorem r_retN (h : D.rt .non H) : tRetN D σ H := h
theorem r_ifS (h : t σ H fun b H1 => if b = true then tu D σ H1 else tw D σ H1) : tIfS t tu tw D σ H := h
theorem r_var {i : Nat} (h : σ[i]? = some (some v)) (k : Q v H) : tVar i σ H Q := ⟨v, h, k⟩
theorem r_c (k : Q v H) : tC v σ H Q := k
theorem r_op (h : ta σ H fun x H1 => tb σ H1 fun y H2 => r x y H2 Q) : tOp r ta tb σ H Q := h
theorem r_un {r : V → Hp → VK → Prop} (h : ta σ H fun x H1 => r x H1 Q) : tUn r ta σ H Q := h
theorem r_nil {Q : List V → Hp → Prop} (k : Q [] H) : tNil σ H Q := k
theorem r_cons {Q : List V → Hp → Prop} (h : ta σ H fun x H1 => tr σ H1 fun xs H2 => Q (x :: xs) H2) : tCons ta tr σ H Q := h
theorem r_cb {r : List V → Hp → VK → Prop} (h : tr σ H fun vs H1 => r vs H1 Q) : tCB r tr σ H Q := h
theorem r_call {sp : Sp} {dvs : List V} {E : XK} (h : tr σ H fun vs H1 => sp (vs ++ dvs) H1 Q E) : tCall sp dvs E tr σ H Q := h
theorem r_bm {T : String} {r : V → List V → Hp → VK → Prop} (h : te σ H fun x H1 => tyV K T x H1 ∧ tr σ H1 fun xs H2 => r x xs H2 Q) : tBM K T r te tr σ H Q := h
theorem r_bm0 {T : String} {r : V → List V → Hp → VK → Prop} (h : te σ H fun x H1 => tyV K T x H1 ∧ r x [] H1 Q) : tBM0 K T r te σ H Q := h
theorem r_tup (h : tr σ H fun xs H1 => xs.length ≤ sizeLine ∧ ∀ p, H1 p = none → Q (.ref p) (upd H1 p (.tup xs))) : tTup tr σ H Q := h
theorem r_lst (h : tr σ H fun xs H1 => xs.length ≤ sizeLine ∧ ∀ p, H1 p = none → Q (.ref p) (upd H1 p (.lst xs))) : tLst tr σ H Q := h
theorem r_name {i : Nat} {Q : L2.St → Hp → Prop} (h : Q (σ.set i (some v)) H) : gName i v σ H Q := h
theorem r_sub {s : TSet} {Q : L2.St → Hp → Prop} (h : ta σ H fun o H1 => tb σ H1 fun i H2 => s o i v H2 fun H3 => Q σ H3) : gSub ta tb s v σ H Q := h
theorem r_test {Q : Bool → Hp → Prop} (h : te σ H fun x H1 => ∃ k, x = .bl k ∧ Q k H1) : tTest te σ H Q := h
theorem r_tB {Q : Bool → Hp → Prop} (h : te σ H fun x H1 => ∃ k, x = .bl k ∧ Q k H1) : tB te σ H Q := h
theorem r_exbl {Q : Bool → Hp → Prop} (h : Q b H) : ∃ k, V.bl b = .bl k ∧ Q k H := ⟨b, rfl, h⟩
theorem r_exbl' {P : Bool → Prop} (h : P b) : ∃ k, V.bl b = .bl k ∧ P k := ⟨b, rfl, h⟩
theorem r_and {Q : Bool → Hp → Prop} (h : t σ H fun c H1 => if c = true then u σ H1 Q else Q false H1) : tAnd t u σ H Q := h
theorem r_or {Q : Bool → Hp → Prop} (h : t σ H fun c H1 => if c = true then Q true H1 else u σ H1 Q) : tOr t u σ H Q := h
theorem r_not {Q : Bool → Hp → Prop} (h : t σ H fun c H1 => Q (!c) H1) : tNot t σ H Q := h
theorem r_if (h : t σ H fun c H1 => if c = true then ta σ H1 Q else tb σ H1 Q) : tIf t ta tb σ H Q := h
theorem r_chain (h : ta σ H fun x H1 => tb σ H1 fun y H2 => r x y H2 fun z H3 => ∃ k, z = .bl k ∧ (if k = true then tc σ H3 fun w' H4 => r' y w' H4 Q else Q (.bl false) H3)) : tChain r r' ta tb tc σ H Q := h
theorem r_orT (h : ta σ H fun x H1 => ∃ k, TruV K x H1 k ∧ if k = true then Q x H1 else tb σ H1 Q) : tOrT K ta tb σ H Q := h
theorem r_andT (h : ta σ H fun x H1 => ∃ k, TruV K x H1 k ∧ if k = true then tb σ H1 Q else Q x H1) : tAndT K ta tb σ H Q := h
theorem r_notT (h : ta σ H fun x H1 => ∃ k, TruV K x H1 k ∧ Q (.bl (!k)) H1) : tNotT K ta σ H Q := h
theorem r_sl {r : V → Option Int → Option Int → Hp → VK → Prop} {tl th : TO} (h : te σ H fun x H1 => tl σ H1 fun l H2 => th σ H2 fun u H3 => r x l u H3 Q) : tSl r te tl th σ H Q := h
theorem r_nopart {Q : Option Int → Hp → Prop} (h : Q none H) : tNoPart σ H Q := h
theorem r_part {Q : Option Int → Hp → Prop} (h : te σ H fun x H1 => ∃ i, x = .int i ∧ Q (some i) H1) : tPart te σ H Q := h
theorem r_exint {R : Int → Prop} (h : R i) : ∃ k, V.int i = .int k ∧ R k := ⟨i, rfl, h⟩
theorem r_yes {Q : Bool → Hp → Prop} (h : Q true H) : tYes σ H Q := h
/-- what an item y asks, what one that is left out -/
def LcNx (W : Addr → Nat → List V → Hp → Prop) (D : Addr) (k : Nat) (y : V) (H : Hp) : Prop := ∃ acc, H D = some (.lst acc) ∧ acc.length < sizeLine ∧ ∃ a, upd H D (.lst (acc ++ [y])) D = some (.lst a) ∧ W D k a (upd H D (.lst (acc ++ [y])))
def LcSk (W : Addr → Nat → List V → Hp → Prop) (D : Addr) (k : Nat) (H : Hp) : Prop := ∃ a, H D = some (.lst a) ∧ W D k a H
/-- a list made in a comprehension, over any walk: W by the list's place, the turn, what is made, the heap -/
theorem l_lc {J : It} {n : Nat} {G : Hp → Prop} {Y : Nat → Hp → V → Hp → Prop} (w : Walk J n G Y) {tt : TT} {vs : List Nat} (W : Addr → Nat → List V → Hp → Prop) (w0 : ∀ D, H D = none → W D 0 [] (upd H D (.lst [])))
    (hG : ∀ D i acc H', H D = none → W D i acc H' → G H')
    (ws : ∀ D i acc x H1 H2, H D = none → i < n → W D i acc H1 → H1 D = some (.lst acc) → Y i H1 x H2 → g x (wipe σ vs) H2 fun σ2 H2 => wipe σ2 vs = wipe σ vs ∧ tt σ2 H2 fun b H3 =>
      if b = true then te σ2 H3 fun y H4 => LcNx W D (i + 1) y H4 else LcSk W D (i + 1) H3)
    (wd : ∀ D acc H', H D = none → W D n acc H' → H' D = some (.lst acc) → Q (.ref D) H') :
    LcIs J H g tt te vs σ Q := fun D hD =>
  lc_it w (fun i H' => ∃ acc, H' D = some (.lst acc) ∧ W D i acc H') ⟨[], upd_same, w0 D hD⟩ (fun i H' _ ⟨acc, _, q⟩ => hG D i acc H' hD q) (fun i x H1 H2 hi ⟨acc, e, q⟩ y => ws D i acc x H1 H2 hD hi q e y) fun H' ⟨acc, e, q⟩ => wd D acc H' hD q e
theorem lc_next {W : Addr → Nat → List V → Hp → Prop} {D : Addr} {k : Nat} {acc : List V} (h : H D = some (.lst acc)) (l : acc.length < sizeLine) (q : W D k (acc ++ [y]) (upd H D (.lst (acc ++ [y])))) : LcNx W D k y H := ⟨acc, h, l, _, upd_same, q⟩
theorem lc_skip {W : Addr → Nat → List V → Hp → Prop} {D : Addr} {k : Nat} {acc : List V} (h : H D = some (.lst acc)) (q : W D k acc H) : LcSk W D k H := ⟨acc, h, q⟩
/-- a for over any walk -/
theorem l_for {J : It} {n : Nat} {G : Hp → Prop} {Y : Nat → Hp → V → Hp → Prop} (w : Walk J n G Y) (W : Nat → L2.St → Hp → Prop) (w0 : W 0 σ H) (hG : ∀ i σ H, W i σ H → G H)
    (ws : ∀ (i : Nat) x σ' H1 H2, i < n → W i σ' H1 → Y i H1 x H2 → g x σ' H2 fun σ2 H2 => tu { D with nx := W (i + 1), ct := W (i + 1), bk := D.nx } σ2 H2) (wd : ∀ σ' H', W n σ' H' → D.nx σ' H') :
    ForIs J H g tu D σ :=
  for_it w W w0 (fun i σ H _ => hG i σ H) ws wd
/-! values -/
theorem b_lst {R : Prop} {xs : List V} (h : H p = some (.lst xs)) (k : R) : tyV K "list" (.ref p) H ∧ R := ⟨.inl ⟨rfl, xs, SqL.of h⟩, k⟩
theorem b_str {R : Prop} {z : Str} (k : R) : tyV K "str" (.str z) H ∧ R := ⟨rfl, k⟩
theorem v_append (h : H p = some (.lst xs)) (l : xs.length < sizeLine) (k : Q .non (upd H p (.lst (xs ++ [v])))) : rAppend (.ref p) [v] H Q := ⟨p, xs, v, rfl, rfl, h, l, k⟩
theorem v_extend {ys : List V} (h : H p = some (.lst xs)) (h2 : H q = some (.lst ys)) (l : xs.length + ys.length ≤ sizeLine) (k : Q .non (upd H p (.lst (xs ++ ys)))) : rExtend (.ref p) [.ref q] H Q := ⟨p, q, xs, ys, rfl, rfl, h, h2, l, k⟩
theorem v_join {a : Str} {ys : List Str} (h : H p = some (.lst (ys.map V.str))) (l : (ys.map (·.length)).sum + ys.length * a.length ≤ 16777216) (k : Q (.str (Txt.join a ys)) H) : gJoin K (.str a) [.ref p] H Q := ⟨a, p, ys, rfl, rfl, .inl (SqL.of h), l, k⟩
theorem v_split {a b : Str} (hb : (b.length == 0) = false) (l : a.length + 2 ≤ sizeLine) (k : ∀ p, H p = none → Q (.ref p) (upd H p (.lst ((Txt.split a b).map V.str)))) : gSplit (.str a) [.str b] H Q := ⟨a, b, rfl, rfl, hb, l, k⟩
theorem v_slL {lo hi : Option Int} (h : H p = some (.lst xs)) (k : ∀ l, H l = none → Q (.ref l) (upd H l (.lst (cutV xs lo hi)))) : gSl K (.ref p) lo hi H Q := .inl ⟨p, xs, rfl, SqL.of h, k⟩
theorem v_slS {lo hi : Option Int} {z : Str} (l : z.length ≤ sizeLine) (k : Q (.str (cutS z lo hi)) H) : gSl K (.str z) lo hi H Q := .inr (.inr ⟨z, rfl, l, k⟩)
theorem v_inS {c : Nat} {z : Str} (k : Q (.bl (decide (c ∈ z.cps.toList))) H) : gIn K (.str ⟨#[c]⟩) (.str z) H Q := .inr ⟨c, z, rfl, rfl, k⟩
theorem v_notinS {c : Nat} {z : Str} (k : Q (.bl (!decide (c ∈ z.cps.toList))) H) : gNotIn K (.str ⟨#[c]⟩) (.str z) H Q := .inr ⟨c, z, rfl, rfl, k⟩
theorem v_all {bs : List Bool} (h : H p = some (.lst (bs.map V.bl))) (k : Q (.bl (bs.all id)) H) : rAll K [.ref p] H Q := ⟨p, bs, rfl, SqL.of h, k⟩
theorem v_any {bs : List Bool} (h : H p = some (.lst (bs.map V.bl))) (k : Q (.bl (bs.any id)) H) : rAny K [.ref p] H Q := ⟨p, bs, rfl, SqL.of h, k⟩
theorem v_ord {c : Nat} (k : Q (.int (c : Nat)) H) : gOrd [.str ⟨#[c]⟩] H Q := ⟨⟨#[c]⟩, rfl, rfl, k⟩
theorem v_intS {z : Str} (e : PySem.intText? z = some i) (l : z.length ≤ 640) (k : Q (.int i) H) : gInt [.str z] H Q := .inr ⟨z, i, rfl, e, l, k⟩
theorem v_addI (k : Q (.int (i + j)) H) : gAdd K (.int i) (.int j) H Q := .inl ⟨i, j, rfl, rfl, k⟩
theorem v_addS {a b : Str} (h : a.length + b.length ≤ sizeLine) (k : Q (.str (a ++ b)) H) : gAdd K (.str a) (.str b) H Q := .inr (.inl ⟨a, b, rfl, rfl, h, k⟩)
theorem v_addL {xs ys : List V} (h1 : H p = some (.lst xs)) (h2 : H q = some (.lst ys)) (h : xs.length + ys.length ≤ sizeLine) (k : ∀ l, H l = none → Q (.ref l) (upd H l (.lst (xs ++ ys)))) : gAdd K (.ref p) (.ref q) H Q :=
  .inr (.inr (.inl ⟨p, q, xs, ys, rfl, rfl, h1, h2, h, k⟩))
theorem v_sub (k : Q (.int (i - j)) H) : gSubI (.int i) (.int j) H Q := ⟨i, j, rfl, rfl, k⟩
theorem v_mul (h : CMul i j) (k : Q (.int (i * j)) H) : gMul (.int i) (.int j) H Q := ⟨i, j, rfl, rfl, h, k⟩
theorem v_div (h : CDiv i j) (k : Q (.int (i / j)) H) : gDiv (.int i) (.int j) H Q := ⟨i, j, rfl, rfl, h, k⟩
theorem v_mod (h : 0 < j) (k : Q (.int (i % j)) H) : gMod (.int i) (.int j) H Q := ⟨i, j, rfl, rfl, h, k⟩
theorem v_pow (h : CPow i j) (k : Q (.int (i ^ j.toNat)) H) : gPow (.int i) (.int j) H Q := ⟨i, j, rfl, rfl, h, k⟩
theorem v_ltI (k : Q (.bl (decide (i < j))) H) : gLt (.int i) (.int j) H Q := .inl ⟨i, j, rfl, rfl, k⟩
theorem v_leI (k : Q (.bl (decide (i ≤ j))) H) : gLe (.int i) (.int j) H Q := .inl ⟨i, j, rfl, rfl, k⟩
theorem v_ltS {a b : Str} (k : Q (.bl (decide (a.cps.toList < b.cps.toList))) H) : gLt (.str a) (.str b) H Q := .inr ⟨a, b, rfl, rfl, k⟩
theorem v_leS {a b : Str} (k : Q (.bl (!decide (b.cps.toList < a.cps.toList))) H) : gLe (.str a) (.str b) H Q := .inr ⟨a, b, rfl, rfl, k⟩
theorem v_gt (k : Q (.bl (decide (j < i))) H) : gGt (.int i) (.int j) H Q := ⟨i, j, rfl, rfl, k⟩
theorem v_ge (k : Q (.bl (decide (j ≤ i))) H) : gGe (.int i) (.int j) H Q := ⟨i, j, rfl, rfl, k⟩
theorem v_eqI (k : Q (.bl (decide (i = j))) H) : rEq (.int i) (.int j) H Q := ⟨rfl, by
  have e : decide (V.int i = V.int j) = decide (i = j) := by
    by_cases h : i = j
    · subst h; simp
    · rw [decide_eq_false h, decide_eq_false (fun q => h (V.int.inj q))]
  rw [e]; exact k⟩
theorem v_eqS {a b : Str} (k : Q (.bl (decide (a = b))) H) : rEq (.str a) (.str b) H Q := ⟨rfl, by
  have e : decide (V.str a = V.str b) = decide (a = b) := by
    by_cases h : a = b
    · subst h; simp
    · rw [decide_eq_false h, decide_eq_false (fun q => h (V.str.inj q))]
  rw [e]; exact k⟩
theorem v_eqB {a b : Bool} (k : Q (.bl (decide (a = b))) H) : rEq (.bl a) (.bl b) H Q := ⟨rfl, by
  have e : decide (V.bl a = V.bl b) = decide (a = b) := by cases a <;> cases b <;> rfl
  rw [e]; exact k⟩
theorem v_neI (k : Q (.bl (!decide (i = j))) H) : rNe (.int i) (.int j) H Q := ⟨rfl, by
  have e : decide (V.int i = V.int j) = decide (i = j) := by
    by_cases h : i = j
    · subst h; simp
    · rw [decide_eq_false h, decide_eq_false (fun q => h (V.int.inj q))]
  rw [e]; exact k⟩
theorem v_neS {a b : Str} (k : Q (.bl (!decide (a = b))) H) : rNe (.str a) (.str b) H Q := ⟨rfl, by
  have e : decide (V.str a = V.str b) = decide (a = b) := by
    by_cases h : a = b
    · subst h; simp
    · rw [decide_eq_false h, decide_eq_false (fun q => h (V.str.inj q))]
  rw [e]; exact k⟩
theorem v_neB {a b : Bool} (k : Q (.bl (!decide (a = b))) H) : rNe (.bl a) (.bl b) H Q := ⟨rfl, by
  have e : decide (V.bl a = V.bl b) = decide (a = b) := by cases a <;> cases b <;> rfl
  rw [e]; exact k⟩
theorem v_is (k : Q (.bl (decide (x = .non))) H) : gIs x .non H Q := ⟨rfl, k⟩
theorem v_isnot (k : Q (.bl (!decide (x = .non))) H) : gIsNot x .non H Q := ⟨rfl, k⟩
theorem v_isN (k : Q (.bl true) H) : gIs .non .non H Q := ⟨rfl, k⟩
theorem v_isB {c : Bool} (k : Q (.bl false) H) : gIs (.bl c) .non H Q := ⟨rfl, k⟩
theorem v_isI (k : Q (.bl false) H) : gIs (.int i) .non H Q := ⟨rfl, k⟩
theorem v_isS {z : Str} (k : Q (.bl false) H) : gIs (.str z) .non H Q := ⟨rfl, k⟩
theorem v_isR (k : Q (.bl false) H) : gIs (.ref p) .non H Q := ⟨rfl, k⟩
theorem v_isnotN (k : Q (.bl false) H) : gIsNot .non .non H Q := ⟨rfl, k⟩
theorem v_isnotB {c : Bool} (k : Q (.bl true) H) : gIsNot (.bl c) .non H Q := ⟨rfl, k⟩
theorem v_isnotI (k : Q (.bl true) H) : gIsNot (.int i) .non H Q := ⟨rfl, k⟩
theorem v_isnotS {z : Str} (k : Q (.bl true) H) : gIsNot (.str z) .non H Q := ⟨rfl, k⟩
theorem v_isnotR (k : Q (.bl true) H) : gIsNot (.ref p) .non H Q := ⟨rfl, k⟩
theorem v_eqN (k : Q (.bl true) H) : rEq .non .non H Q := ⟨rfl, k⟩
theorem v_neN (k : Q (.bl false) H) : rNe .non .non H Q := ⟨rfl, k⟩
theorem v_lenLs (h : SqL K H p xs) (k : Q (.int (xs.length : Nat)) H) : gLen K [.ref p] H Q := ⟨.ref p, _, rfl, .inl ⟨xs, h, rfl⟩, k⟩
theorem v_lenTs (h : SqT K H p xs) (k : Q (.int (xs.length : Nat)) H) : gLen K [.ref p] H Q := ⟨.ref p, _, rfl, .inr ⟨xs, h, rfl⟩, k⟩
theorem v_ixLs (h : SqL K H p xs) (e : atI xs i = some v) (k : Q v H) : rIx K (.ref p) (.int i) H Q := .inl ⟨p, xs, i, v, rfl, rfl, h, e, k⟩
theorem v_ixTs (h : SqT K H p xs) (e : atI xs i = some v) (k : Q v H) : rIx K (.ref p) (.int i) H Q := .inr (.inl ⟨p, xs, i, v, rfl, rfl, h, e, k⟩)
theorem v_ixL (h : H p = some (.lst xs)) (e : atI xs i = some v) (k : Q v H) : rIx K (.ref p) (.int i) H Q := .inl ⟨p, xs, i, v, rfl, rfl, SqL.of h, e, k⟩
theorem v_ixT (h : H p = some (.tup xs)) (e : atI xs i = some v) (k : Q v H) : rIx K (.ref p) (.int i) H Q := .inr (.inl ⟨p, xs, i, v, rfl, rfl, SqT.of h, e, k⟩)
theorem v_ixS {z : Str} {c : Nat} (h : z.length ≤ sizeLine) (e : atI z.cps.toList i = some c) (k : Q (.str ⟨#[c]⟩) H) : rIx K (.str z) (.int i) H Q := .inr (.inr ⟨z, i, c, rfl, rfl, h, e, k⟩)
theorem v_setL {R : Hp → Prop} {n : Nat} (h : H p = some (.lst xs)) (e : ixN xs.length i = some n) (k : R (upd H p (.lst (xs.set n v)))) : rSetL (.ref p) (.int i) v H R := ⟨p, xs, i, n, rfl, rfl, h, e, k⟩
theorem v_lenL (h : H p = some (.lst xs)) (k : Q (.int (xs.length : Nat)) H) : gLen K [.ref p] H Q := ⟨.ref p, _, rfl, .inl ⟨xs, SqL.of h, rfl⟩, k⟩
theorem v_lenT (h : H p = some (.tup xs)) (k : Q (.int (xs.length : Nat)) H) : gLen K [.ref p] H Q := ⟨.ref p, _, rfl, .inr ⟨xs, SqT.of h, rfl⟩, k⟩
theorem v_lenS {z : Str} (h : z.length ≤ sizeLine) (k : Q (.int (z.length : Nat)) H) : gLen K [.str z] H Q := ⟨.str z, _, rfl, ⟨h, rfl⟩, k⟩
theorem v_intI (k : Q (.int i) H) : gInt [.int i] H Q := .inl (.inl ⟨i, rfl, k⟩)
theorem v_intB (k : Q (.int (if b then 1 else 0)) H) : gInt [.bl b] H Q := .inl (.inr ⟨b, rfl, k⟩)
theorem v_min (k : Q (.int (if j < i then j else i)) H) : gMin [.int i, .int j] H Q := ⟨i, j, rfl, k⟩
theorem v_listL (h : H p = some (.lst xs)) (k : ∀ l, H l = none → Q (.ref l) (upd H l (.lst xs))) : gList K [.ref p] H Q := ⟨p, xs, rfl, .inl (SqL.of h), k⟩
theorem v_isi {a T : String} (ht : TyX K H x (.type a)) (hk : kitB a T = some b) (k : Q (.bl b) H) : gIsi K [x, .ty T] H Q := .inl ⟨x, .ty T, _, _, b, rfl, .ty T, ht, kit_ty hk, k⟩
theorem v_isiI {T : String} (hk : kitB "int" T = some b) (k : Q (.bl b) H) : gIsi K [.int i, .ty T] H Q := v_isi (.base (.int i)) hk k
theorem v_isiB {c : Bool} {T : String} (hk : kitB "bool" T = some b) (k : Q (.bl b) H) : gIsi K [.bl c, .ty T] H Q := v_isi (.base (.bl c)) hk k
theorem v_isiS {z : Str} {T : String} (hk : kitB "str" T = some b) (k : Q (.bl b) H) : gIsi K [.str z, .ty T] H Q := v_isi (.base (.str z)) hk k
theorem v_isiN {T : String} (hk : kitB "NoneType" T = some b) (k : Q (.bl b) H) : gIsi K [.non, .ty T] H Q := v_isi (.base .non) hk k
theorem tyx_l (h : SqL K H p xs) : TyX K H (.ref p) (.type "list") := by
  rcases h with (h | ⟨o, h⟩) | ⟨o, its, n, hk, hc, _⟩
  · exact .base (.lst h)
  · exact .base (.frz h)
  · exact .kList hk hc
theorem tyx_t (h : SqT K H p xs) : TyX K H (.ref p) (.type "tuple") := by
  rcases h with (h | ⟨o, h⟩) | ⟨o, its, n, hk, hc, _⟩
  · exact .base (.tup h)
  · exact .fTuple h
  · exact .kTuple hk hc
theorem v_isiL {T : String} (h : SqL K H p xs) (hk : kitB "list" T = some b) (k : Q (.bl b) H) : gIsi K [.ref p, .ty T] H Q := v_isi (tyx_l h) hk k
theorem v_isiT {T : String} (h : SqT K H p xs) (hk : kitB "tuple" T = some b) (k : Q (.bl b) H) : gIsi K [.ref p, .ty T] H Q := v_isi (tyx_t h) hk k
theorem v_str (h : i.natAbs.log2 < 1920) (k : Q (.str (toString i)) H) : gStr [.int i] H Q := ⟨i, rfl, h, k⟩
/-! tests -/
theorem i_t {A B : Prop} (h : A) : if true = true then A else B := by rw [if_pos rfl]; exact h
theorem i_f {A B : Prop} (h : B) : if false = true then A else B := by rw [if_neg Bool.false_ne_true]; exact h
theorem i_nt {A B : Prop} (h : B) : if (!true) = true then A else B := by rw [if_neg (by decide)]; exact h
theorem i_nf {A B : Prop} (h : A) : if (!false) = true then A else B := by show (if true = true then A else B); rw [if_pos rfl]; exact h
theorem i_d {c A B : Prop} [Decidable c] (h1 : c → A) (h2 : ¬ c → B) : if decide c = true then A else B := by
  by_cases h : c
  · rw [decide_eq_true h]; exact i_t (h1 h)
  · rw [decide_eq_false h]; exact i_f (h2 h)
theorem i_nd {c A B : Prop} [Decidable c] (h1 : ¬ c → A) (h2 : c → B) : if (!decide c) = true then A else B := by
  by_cases h : c
  · rw [decide_eq_true h]; exact i_f (h2 h)
  · rw [decide_eq_false h]; exact i_t (h1 h)
theorem i_dt {c A B : Prop} [Decidable c] (h : c) (k : A) : if decide c = true then A else B := by rw [decide_eq_true h]; exact i_t k
theorem i_df {c A B : Prop} [Decidable c] (h : ¬ c) (k : B) : if decide c = true then A else B := by rw [decide_eq_false h]; exact i_f k
theorem i_ndt {c A B : Prop} [Decidable c] (h : ¬ c) (k : A) : if (!decide c) = true then A else B := by rw [decide_eq_false h]; exact i_t k
theorem i_ndf {c A B : Prop} [Decidable c] (h : c) (k : B) : if (!decide c) = true then A else B := by rw [decide_eq_true h]; exact i_f k
theorem i_nn {c : Bool} {A B : Prop} (h : if c = true then A else B) : if (!!c) = true then A else B := by rw [Bool.not_not]; exact h
theorem i_b {c : Bool} {A B : Prop} (h1 : c = true → A) (h2 : c = false → B) : if c = true then A else B := by
  cases c with
  | true => exact i_t (h1 rfl)
  | false => exact i_f (h2 rfl)
end
section
variable {K : PySem.W.Frag} {H : Hp} {Q : Bool → Hp → Prop}
theorem t_bl {R : Bool → Prop} {b : Bool} (h : R b) : ∃ k, TruV K (.bl b) H k ∧ R k := ⟨b, rfl, h⟩
theorem t_non {R : Bool → Prop} (h : R false) : ∃ k, TruV K .non H k ∧ R k := ⟨_, rfl, h⟩
theorem t_int {R : Bool → Prop} {i : Int} (h : R (i != 0)) : ∃ k, TruV K (.int i) H k ∧ R k := ⟨_, rfl, h⟩
theorem t_str {R : Bool → Prop} {z : Str} (l : z.length ≤ sizeLine) (h : R ((z.length : Int) != 0)) : ∃ k, TruV K (.str z) H k ∧ R k := ⟨_, ⟨l, rfl⟩, h⟩
theorem t_lst {R : Bool → Prop} {p : Addr} {xs : List V} (l : H p = some (.lst xs)) (h : R (!xs.isEmpty)) : ∃ k, TruV K (.ref p) H k ∧ R k := ⟨_, .inl ⟨xs, SqL.of l, rfl⟩, h⟩
end
/-! ### a walk over a list, a tuple or a text -/
def gIt (K : PySem.W.Frag) (tl : TE) : TI := fun σ H R => tl σ H fun x H1 => (∃ a, x = .ref a ∧ (∃ xs, SqL K H1 a xs) ∧ R (Itl K a) H1) ∨ (∃ a, x = .ref a ∧ (∃ xs, SqT K H1 a xs) ∧ R (Itt K a) H1) ∨ ∃ z, x = .str z ∧ R (Its z) H1
theorem g_it {X : Cx} {K : PySem.W.Frag} {tg l : Expr} {tl : TE} (hl : PE X l tl) (hK : X.K = K := by rfl) : PI X tg l (gIt K tl) := by
  subst hK
  constructor
  intro pins s σ H R I h
  apply thn (hl.run pins s σ H _ I h)
  rintro v s1 ⟨x, H1, I1, r1, q1⟩
  rcases q1 with ⟨a, e, ⟨xs, hq⟩, q⟩ | ⟨a, e, ⟨xs, hq⟩, q⟩ | ⟨z, e, q⟩
  · subst e; cases r1
    obtain ⟨its, rv, pl, hz⟩ := I1.list hq
    apply wpAny_pyIter_list pl.isList
    refine ⟨s1.heap.objs.size, [s1.heap.objs.size], _, _, H1, rfl, I1.kept (t' := s1.toks) fun b o eo => Heap.get?_push_of_some _ eo, turn_list a _, ⟨_, Heap.get?_push_size _ rfl, rfl, rfl⟩, ?_, q⟩
    intro b hb
    obtain rfl : b = s1.heap.objs.size := by simpa using hb
    exact I1.fpOk (Nat.le_refl _) (I1.hok.fresh (Nat.le_refl _))
  · subst e; cases r1
    obtain ⟨its, rv, pl, hz⟩ := I1.tuple hq
    apply wpAny_pyIter_tuple (show s1.heap.IsTuple a its.toArray from pl)
    refine ⟨s1.heap.objs.size, [s1.heap.objs.size], _, _, H1, rfl, I1.kept (t' := s1.toks) fun b o eo => Heap.get?_push_of_some _ eo, turn_tuple a _, ⟨_, Heap.get?_push_size _ rfl, rfl, rfl⟩, ?_, q⟩
    intro b hb
    obtain rfl : b = s1.heap.objs.size := by simpa using hb
    exact I1.fpOk (Nat.le_refl _) (I1.hok.fresh (Nat.le_refl _))
  · subst e
    obtain ⟨t, rfl⟩ := r1
    cases ha : z.cps.all (· < 128)
    · exact wpAny_pyIter_wide ha (pi_one (tk := s1.toks) I1 _ (turn_str _ z t "str_iterator" (.inr rfl)) ⟨_, Heap.get?_push_size _ rfl, rfl, rfl⟩ q)
    · exact wpAny_pyIter_ascii ha (pi_one (tk := s1.toks) I1 _ (turn_str _ z t "str_ascii_iterator" (.inl rfl)) ⟨_, Heap.get?_push_size _ rfl, rfl, rfl⟩ q)

theorem r_gIt {K : PySem.W.Frag} {te : TE} {σ : L2.St} {H : Hp} {R : It → Hp → Prop} (h : te σ H fun x H1 => (∃ a, x = .ref a ∧ (∃ xs, SqL K H1 a xs) ∧ R (Itl K a) H1) ∨ (∃ a, x = .ref a ∧ (∃ xs, SqT K H1 a xs) ∧ R (Itt K a) H1) ∨ ∃ z, x = .str z ∧ R (Its z) H1) : gIt K te σ H R := h

/-! ### defs of the text: where they stand, what they promise -/
/-- the def st stands under the module's name x -/
def FunAt (K : PySem.W.Frag) (mg : Str → Option Value) (x qual : Str) (st : Stmt) : Prop := ∃ f fd, mg x = some (.ref f) ∧ Fun K x qual st f fd
/-- the def under the name x keeps the promise sp -/
structure Cal (P : Program) (w : World) (K : PySem.W.Frag) (mg : Str → Option Value) (base : Heap) (CX : CXT) (k : Nat) (x : Str) (ps : List Str) (sp : Sp) : Prop where
  ex : ∃ f fd, mg x = some (.ref f) ∧ PySem.W.keepIn K (.ref f) = true ∧ (∃ oc od sl, K.lookup f = some ⟨oc, od, .func fd, sl⟩) ∧ Binds K fd ps [] ∧ FnOk P w K mg base CX k f fd ps sp
section
variable {P : Program} {w : World} {K : PySem.W.Frag} {mg : Str → Option Value} {base : Heap} {CX : CXT} {j k : Nat} {x qual : Str} {ps N : List Str} {sp sp' : Sp} {st : Stmt}
theorem Cal.mono (C : Cal P w K mg base CX j x ps sp) (h : j ≤ k) : Cal P w K mg base CX k x ps sp := by
  obtain ⟨f, fd, m, kp, lk, b, F⟩ := C.ex
  exact ⟨f, fd, m, kp, lk, b, F.mono h⟩
theorem Cal.imp (C : Cal P w K mg base CX k x ps sp) (h : ∀ vs H Q E, sp' vs H Q E → sp vs H Q E) : Cal P w K mg base CX k x ps sp' := by
  obtain ⟨f, fd, m, kp, lk, b, F⟩ := C.ex
  exact ⟨f, fd, m, kp, lk, b, F.imp h⟩
/-- THE RULE: a def of the text that lets no exception out -/
theorem def_ok (F : FunAt K mg x qual st) (S : FnScope N ps (defScope st))
    (hb : ∀ (kV doc pm : Value) (an : Option Addr) (cdv ct : Value) (us : List Value), us.length = ps.length → bindArgs (PySem.W.fnOf x qual (defArgs st) (defBody st) (defScope st) .none kV doc pm an cdv ct) ⟨us, []⟩ = pure (ps.zip us))
    (len : ∀ vs H Q E, sp vs H Q E → vs.length = ps.length)
    (body : ∀ (f : Addr) (cdv : Value) (A : Around) (outer : List Env) (s : Shared) (H : Hp) (vs : List V) (Q : VK) (E : XK), Room k (A.deeper (envOfC qual (defScope st) s.heap.objs.size f cdv)) → sp vs H Q E →
      ∃ t, PSs (cxOf CX0 P w K mg base N qual (defScope st) f cdv A outer s H E).nox (defBody st) t ∧ t { nx := fun _ H' => Q .non H', rt := Q } (start N vs) H) : Cal P w K mg base CX0 (k + 1) x ps sp := by
  obtain ⟨f, fd, m, G⟩ := F
  have lk : ∃ oc od sl, K.lookup f = some ⟨oc, od, .func fd, sl⟩ := by
    obtain ⟨oc, od, _, _, _, _, _, _, sl, _, lk, _⟩ := G.ex
    exact ⟨oc, od, sl, lk⟩
  exact ⟨f, fd, m, G.kp, lk, G.binds hb, G.ok S len fun cdv A outer s H vs Q E hr h => body f cdv A outer s H vs Q E hr h⟩
end
/-- the law's own def, at the place where the top has left it -/
theorem Cal.at_ {P : Program} {w : World} {K : PySem.W.Frag} {mg : Str → Option Value} {base : Heap} {CX : CXT} {k : Nat} {x qual : Str} {ps : List Str} {sp : Sp} {st : Stmt} {f : Addr} {fd : FuncData} (C : Cal P w K mg base CX k x ps sp) (m : mg x = some (.ref f)) (F : Fun K x qual st f fd) : FnOk P w K mg base CX k f fd ps sp := by
  obtain ⟨f', fd', m', kp, ⟨oc, od, sl, lk⟩, b, G⟩ := C.ex
  obtain rfl : f' = f := by
    rw [m] at m'
    injection m' with e
    injection e with e
    exact e.symm
  obtain ⟨oc', od', _, _, _, _, _, _, sl', _, lk', _⟩ := F.ex
  rw [lk] at lk'
  injection lk' with e
  injection e with _ _ e _
  injection e with e
  subst e
  exact G
/-- of a promise that asks what cannot be -/
theorem def_none {P : Program} {w : World} {K : PySem.W.Frag} {mg : Str → Option Value} {base : Heap} {CX : CXT} {k : Nat} {x qual : Str} {ps : List Str} {sp : Sp} {st : Stmt} (F : FunAt K mg x qual st)
    (hb : ∀ (kV doc pm : Value) (an : Option Addr) (cdv ct : Value) (us : List Value), us.length = ps.length → bindArgs (PySem.W.fnOf x qual (defArgs st) (defBody st) (defScope st) .none kV doc pm an cdv ct) ⟨us, []⟩ = pure (ps.zip us))
    (no : ∀ vs H Q E, ¬ sp vs H Q E) : Cal P w K mg base CX k x ps sp := by
  obtain ⟨f, fd, m, G⟩ := F
  have lk : ∃ oc od sl, K.lookup f = some ⟨oc, od, .func fd, sl⟩ := by
    obtain ⟨oc, od, _, _, _, _, _, _, sl, _, lk, _⟩ := G.ex
    exact ⟨oc, od, sl, lk⟩
  exact ⟨f, fd, m, G.kp, lk, G.binds hb, ⟨fun vs H Q E h => (no vs H Q E h).elim, fun _ _ _ H _ _ vs Q E _ _ _ _ h => (no vs H Q E h).elim⟩⟩
section
variable {X : Cx} {CX : CXT} {k : Nat} {x : Str} {ps : List Str} {sp : Sp} {E : XK} {p pos : Pos} {e : Expr} {es : List Expr} {t : TA}
/-- a call of such a def -/
theorem g_call (C : Cal X.prog X.w X.K X.mg X.base CX k x ps sp) (hr : Room k X.A) (hg : Gl X x) (hx : Passes CX X E) (ha : PA X (e :: es) t) (hdb : (x == ("__debug__" : Str)) = false := by decide)
    (he : starEach (e :: es) X.env = (false, eval e X.env) :: starEach es X.env := by rfl) (hpl : (backTo pos (starEach es X.env)).any (·.1) = false := by rfl) : PE X (.Call (.Name x p) (e :: es) [] pos) (tCall sp [] E t) := by
  obtain ⟨f, fd, m, kp, lk, b, F⟩ := C.ex
  exact pe_call F hr hg m kp b .nil hx ha hdb he hpl
theorem g_call0 (C : Cal X.prog X.w X.K X.mg X.base CX k x ps sp) (hr : Room k X.A) (hg : Gl X x) (hx : Passes CX X E) (hdb : (x == ("__debug__" : Str)) = false := by decide) : PE X (.Call (.Name x p) [] [] pos) (tCall sp [] E tNil) := by
  obtain ⟨f, fd, m, kp, lk, b, F⟩ := C.ex
  exact pe_call0 F hr hg m kp b .nil hx hdb
/-- a module's number or text -/
theorem g_const {v : V} {u : Value} (hg : Gl X x) (hm : X.mg x = some u) (r : RelV v u) (hd : (x == ("__debug__" : Str)) = false := by decide) : PE X (.Name x pos) (tC v) := pe_glob hg hm r hd
theorem g_cint {i : Int} (hm : ∃ t, X.mg x = some (.int i t)) (hg : Gl X x) (hd : (x == ("__debug__" : Str)) = false := by decide) : PE X (.Name x pos) (tC (.int i)) := by
  obtain ⟨t, m⟩ := hm
  exact pe_glob hg m ⟨t, rfl⟩ hd
theorem g_cstr {z : Str} (hm : ∃ t, X.mg x = some (.str z t)) (hg : Gl X x) (hd : (x == ("__debug__" : Str)) = false := by decide) : PE X (.Name x pos) (tC (.str z)) := by
  obtain ⟨t, m⟩ := hm
  exact pe_glob hg m ⟨t, rfl⟩ hd
end
/-- the heap behind a store -/
theorem upd_at {H : Hp} {a b : Addr} {o : HO} : upd H a o b = if b = a then some o else H b := rfl
/-- what was there before the new object p -/
theorem _root_.L2.Same.laid {H H' : Hp} {p : Addr} {o : HO} (s : Same H H') (n : H' p = none) : Same H (upd H' p o) := fun b u e => by
  rw [upd_ne (ne_of_none (s b u e) n)]; exact s b u e
end G

set_option Elab.async false
set_option linter.all false
set_option maxRecDepth 100000
set_option maxHeartbeats 4000000
/-! Ex: own errors below an own base class (own work). -/
namespace PySem.W
open PySem PySem.Spec PySem.Calls PyProof.Rows
section
variable {prog : Program} {w : World} {A : Around} {E : Value → Shared → Prop} {s : Shared} {K : Frag} {x D : Addr} {ox : Obj} {od : Option Obj}
theorem exfind {a g : Value} {n : Str} (h1 : (clsIn K D).isSome = true) (h2 : findIn K (.ref D) n = some (some a)) (h3 : specialIn K a "__get__" = some (some g)) (h4 : takesIn K a = some true) : findObj K D od n = some (.bind g a) := by
  obtain ⟨c, e⟩ := Option.isSome_iff_exists.mp h1
  unfold findObj
  rw [e, Option.bind_some, h2, Option.bind_some]
  simp [h3, h4]
/-- x.__class__ of an error x, with or without a dict -/
theorem exclass {R : Option Value → Shared → Prop} (g1 : findIn K (.ref D) "__getattribute__" = some (some (.builtin "BaseException.__getattribute__"))) (g2 : findIn K (.ref D) "__getattr__" = some none) (g3 : subIn K (.ref D) (.type "BaseException") = some true)
    (g4 : hasDictIn K D = true) (g5 : findIn K (.ref D) "__class__" = some (some (.builtin "object.__class__"))) (g6 : specialIn K (.builtin "object.__class__") "__get__" = some (some (.builtin "getset_descriptor.__get__")))
    (g7 : takesIn K (.builtin "object.__class__") = some true) (g8 : mroIn K D (.type "object") = some true) (X : K.In s.heap) (J : InstAt s.heap x ox D od) (q : R (some (.ref D)) { s with toks := s.toks + 1 }) :
    wpAny (model prog w) A (getAttr? (.ref x) "__class__") R E s := by
  have fo : findObj K D od "__class__" = some (.bind (.builtin "getset_descriptor.__get__") (.builtin "object.__class__")) := exfind (by obtain ⟨c, e, _⟩ := any_some g4; rw [e]; rfl) g5 g6 g7
  obtain ⟨hh, gg, dd, tt, oo⟩ := s
  have T0 := J.type (M := model prog w)
  have T1 := looks_findIn (M := model prog w) X g1
  have T2 := looks_findIn (M := model prog w) X g2
  have T3 := looks_find (M := model prog w) X J fo
  have TS : Looks (model prog w) hh (isInstance (.ref x) (.type "BaseException")) true := T0.andThen (looks_subIn X g3)
  have b0 : (Value.builtin "BaseException.__getattribute__" == Value.builtin "object.__getattribute__") = false := by decide +kernel
  have b1 : (onTheHeap (Value.ref D) && Value.builtin "BaseException.__getattribute__" == Value.builtin "object.__getattribute__") = false := by rw [b0]; rfl
  have b2 : (false && onTheHeap (Value.builtin "BaseException.__getattribute__")) = false := rfl
  unfold getAttr? getAttrBy? getAttrBy
  apply wpAny_bind
  apply wpAny_mkText
  apply wpAny_bind
  apply wpAny_attempt
  apply wpAny_holding
  apply wpAny_bind
  apply T0.at
  apply wpAny_bind
  apply T1.at
  show wpAny (model prog w) A (if (onTheHeap (Value.ref D) && Value.builtin "BaseException.__getattribute__" == Value.builtin "object.__getattribute__") = true then _ else _) _ _ _
  rw [b1, if_neg Bool.false_ne_true]
  unfold getAttrByItsOwn hookBefore
  apply wpAny_bind
  rw [if_pos (show onTheHeap (Value.ref D) = true from rfl)]
  apply T2.at
  apply wpAny_bind
  apply wpAny_attempt
  apply wpAny_holding
  unfold callGetattribute
  rw [b2, if_neg Bool.false_ne_true]
  unfold boundAndCalled
  rw [PySem.F.excAttr_ValueError.ga.bind (.ref x)]
  apply wpAny_bind
  apply wpAny_pure
  show wpAny (model prog w) _ (call (.builtin "BaseException.__getattribute__") [.ref x, .str "__class__" tt]) _ _ _
  apply wpAny_call
  refine codeAny_call_builtin PySem.F.excAttr_ValueError.ga.plain
    PySem.F.entry_bexc_ga ?_
  refine @check_slot (model prog w) _ _ ⟨hh, gg, dd, tt + 1, oo⟩ "BaseException.__getattribute__" "BaseException" "__getattribute__" (.ref x) [.str "__class__" tt] [] _
    (by decide +kernel) (by decide +kernel) TS (PySem.F.args_bexc_ga (.ref x) (.str "__class__" tt)) ?_
  unfold Builtin.«object.__getattribute__»
  apply wpAny_bind
  refine wpAny_of_eq (a := ((Value.ref x : Value), [Value.str "__class__" tt]))
    (by first | rfl | (simp only [slotArgs]; rfl)) ?_
  apply wpAny_bind
  apply wpAny_pure
  apply wpAny_bind
  apply T0.at
  apply wpAny_bind
  apply T3.at
  show wpAny (model prog w) _ (holding [Value.builtin "object.__class__"] (call (.builtin "getset_descriptor.__get__") [.builtin "object.__class__", .ref x, .ref D]) >>= ret) _ _ _
  apply wpAny_bind
  apply wpAny_holding
  apply wpAny_call
  refine class_get (s := ⟨hh, gg, dd, tt + 1, oo⟩) (ox := ox) (od := od) X J g8 ?_
  apply wpAny_pure
  show wpAny (model prog w) _ (handedOut (.ref D)) _ _ _
  rw [handedOut_of (v := .ref D) rfl]
  first
    | exact wpAny_pure (wpAny_pure q)
    | exact wpAny_pure q
    | exact wpAny_pure (wpAny_bind (wpAny_pure (wpAny_pure q)))
theorem exkit (g1 : findIn K (.ref D) "__getattribute__" = some (some (.builtin "BaseException.__getattribute__"))) (g2 : findIn K (.ref D) "__getattr__" = some none) (g3 : subIn K (.ref D) (.type "BaseException") = some true)
    (g4 : hasDictIn K D = true) (g5 : findIn K (.ref D) "__class__" = some (some (.builtin "object.__class__"))) (g6 : specialIn K (.builtin "object.__class__") "__get__" = some (some (.builtin "getset_descriptor.__get__")))
    (g7 : takesIn K (.builtin "object.__class__") = some true) (g8 : mroIn K D (.type "object") = some true) : KitX K (.ref x) (.ref D) (fun h => InstAt h x ox D od) where
  ty := fun _ _ _ J => J.type
  it := fun _ _ X _ => by
    obtain ⟨c, e, _⟩ := any_some g4
    unfold clsIn at e
    split at e
    · rename_i h1
      intro A' R' E' s' kk qq
      unfold isType loadHead
      exact wpAny_bind (wpAny_loadPart (kk _ _ (X _ _ h1)) (wpAny_pure qq))
    · cases e
  ne := fun h tp d1 its n sl X ht => by
    obtain ⟨c, e, _⟩ := any_some g4
    apply Bool.eq_false_iff.mpr
    intro z
    obtain rfl : D = tp := Value.ref.inj (beq_iff_eq.mp z)
    unfold clsIn at e
    split at e
    · rename_i h1
      cases (X _ _ h1).symm.trans ht
    · cases e
  ca := fun X J k => exclass g1 g2 g3 g4 g5 g6 g7 g8 X J k
end
end PySem.W
namespace G
open PySem PySem.Spec PyProof.Rows L2
/-- what the text says of an error class below the base B (whose __init__ is ValueError's) -/
structure ExK (K : PySem.W.Frag) (C : Addr) : Prop where
  ox : OexC K C
  ga : PySem.W.findIn K (.ref C) "__getattribute__" = some (some (.builtin "BaseException.__getattribute__"))
  gg : PySem.W.findIn K (.ref C) "__getattr__" = some none
  hd : PySem.W.hasDictIn K C = true
  cl : PySem.W.findIn K (.ref C) "__class__" = some (some (.builtin "object.__class__"))
  sp : PySem.W.specialIn K (.builtin "object.__class__") "__get__" = some (some (.builtin "getset_descriptor.__get__"))
  tk : PySem.W.takesIn K (.builtin "object.__class__") = some true
  mo : PySem.W.mroIn K C (.type "object") = some true
/-- the base class, whose __init__ is read off it -/
structure ExB (K : PySem.W.Frag) (B : Addr) : Prop where
  ga : PySem.W.specialIn K (.ref B) "__getattribute__" = some (some (.builtin "type.__getattribute__"))
  rd : PySem.W.readsIn K B (.type "type") = true
  it : PySem.W.findCls K (.ref B) (.type "type") "__init__" = some (.val (.builtin "ValueError.__init__"))
section
variable {X : Cx} {K : PySem.W.Frag} {B : Addr} {x : Str} {e : Expr} {es : List Expr} {ta : TA} {p1 p2 pos : Pos}
/-- Base.__init__(self, ..) -/
theorem pe_binit {pl : Sem Bool} (hK : X.K = K) (b : ExB K B) (hm : X.mg x = some (.ref B)) (hg : Gl X x) (ha : PA X (e :: es) ta) (hdb : (x == ("__debug__" : Str)) = false := by decide)
    (hc : eval (.Call (.Attribute (.Name x p1) "__init__" p2) (e :: es) [] pos) X.env = (do
      let ov ← eval (.Name x p1) X.env
      standAt p2.atName
      let (f, first) ← holding [ov] (getMethod ov "__init__" pl)
      callWith pos f first (backTo pos (starEach (e :: es) X.env)) (backToKw pos (keywordEach [] X.env))) := by rfl)
    (he : starEach (e :: es) X.env = (false, eval e X.env) :: starEach es X.env := by rfl) (hpl : (backTo pos (starEach es X.env)).any (·.1) = false := by rfl) :
    PE X (.Call (.Attribute (.Name x p1) "__init__" p2) (e :: es) [] pos) (tVeI K ta) := by
  subst hK
  constructor
  intro pins s σ H Q I h
  refine PySem.W.methodCall_KW (ld_glob I hg hm ?_ hdb) hc
  refine PySem.W.method_cls I.kIn b.ga (PySem.W.cls_value I.kIn b.rd b.it (by decide +kernel) ?_)
  refine PyProof.Rows.callWith_method1 (thn (ha.run pos pins _ σ H _ (I.tok _) h) ?_) he hpl
  rintro us s1 ⟨vs, H1, I1, r1, a, C, ws, ev, hl, T, ea, q⟩
  subst ev
  cases r1 with
  | @cons _ u0 _ ur ra rw' =>
    obtain rfl : u0 = Value.ref a := ra
    refine oinit_ok T I1 ea ?_ fun s' J => ⟨.non, H1, J, rfl, q⟩
    have z := Paired.length rw'
    rw [line_val]
    omega
/-- isinstance(e, c), e the error that the suite holds, at a; its class cls, its dict d -/
def gIsE (K : PySem.W.Frag) (a : Addr) (cls : Value) (d : Option Addr) : List V → Hp → VK → Prop := fun xs H Q => ∃ (c : V) (cv : Value) (D dd : Addr) (fs : List (Str × V)) (b : Bool), xs = [.ref a, c] ∧ ClsV c cv ∧ cls = .ref D ∧ ExK K D ∧ d = some dd ∧ H dd = some (.xd fs) ∧ PySem.W.kitOne K (.ref D) cv = some b ∧ Q (.bl b) H
theorem inst_of {a D dd : Addr} {oe : Obj} {pn pins : List (Addr × Obj)} {σ : L2.St} {H : Hp} {s : Shared} {fs : List (Str × V)} (I : Inv (X.suite a ((a, oe) :: pn)) pins σ H s) (hz : Zc (.ref D) (some dd) oe) (hf : ∃ vs, oe.data = .fields vs) (ed : H dd = some (.xd fs)) :
    ∃ od, PySem.W.InstAt s.heap a oe D (some od) := by
  obtain ⟨hget, _⟩ := I.pin (a, oe) (List.mem_append.mpr (.inl List.mem_cons_self))
  obtain ⟨vs, hv⟩ := hf
  obtain ⟨mA, hns, _⟩ := (show ObjOk X.prog X.w H s.heap dd (.xd fs) from I.hok dd _ ed)
  obtain ⟨od, ho, _⟩ := lookIn_ns hns
  exact ⟨od, hget, hz.1, by unfold PySem.W.notCls; rw [hv] <;> rfl, by rw [hz.2]; exact ho⟩
theorem call_isE' {a : Addr} {oe : Obj} {cls : Value} {d : Option Addr} {pn : List (Addr × Obj)} (hz : Zc cls d oe) (hf : ∃ vs, oe.data = .fields vs) (hK : X.K = K) : CallR (X.suite a ((a, oe) :: pn)) (.builtin "isinstance") (gIsE K a cls d) := by
  subst hK
  intro pins s σ H xs us Q I r h
  obtain ⟨c, cv, D, dd, fs, b, rfl, hcv, rfl, T, rfl, ed, e, q⟩ := h
  cases r with
  | cons rx rr =>
    cases rr with
    | cons rt rr =>
      cases rr
      cases rx
      have ec := hcv.eq rt
      subst ec
      obtain ⟨od, J⟩ := inst_of I hz hf ed
      exact PySem.W.kia_one (PySem.W.exkit T.ga T.gg T.ox.exC T.hd T.cl T.sp T.tk T.mo) I.kIn J e (fun z => nomatch z) fun tk => ⟨.bl b, H, I.kept (t' := tk) fun _ _ z => z, rfl, q⟩
/-- e.f -/
def tXfE (K : PySem.W.Frag) (a : Addr) (cls : Value) (d : Option Addr) (f : Str) (te : TE) : TE := fun σ H Q => te σ H fun x H1 => ∃ (D dd : Addr) (fs : List (Str × V)) (v : V), x = .ref a ∧ cls = .ref D ∧ ExK K D ∧ PySem.W.findIn K (.ref D) f = some none ∧ d = some dd ∧ H1 dd = some (.xd fs) ∧ fs.lookup f = some v ∧ Q v H1
theorem pe_xfE {a : Addr} {oe : Obj} {cls : Value} {d : Option Addr} {pn : List (Addr × Obj)} {e : Expr} {te : TE} {pos : Pos} {n : Str} (hz : Zc cls d oe) (hf : ∃ vs, oe.data = .fields vs) (hK : X.K = K) (he : PE (X.suite a ((a, oe) :: pn)) e te)
    (hb : attributeBase e n X.env (eval e X.env) = eval e X.env := by rfl) : PE (X.suite a ((a, oe) :: pn)) (.Attribute e n pos) (tXfE K a cls d n te) := by
  subst hK
  constructor
  intro pins s σ H Q I h
  apply attr_of hb
  apply thn (he.run pins s σ H _ I h)
  rintro u s1 ⟨x, H1, I1, rx, D, dd, fs, v, ex, rfl, T, hno, rfl, ed, l, q⟩
  subst ex
  obtain rfl : u = Value.ref a := rx
  obtain ⟨ha, _⟩ := I1.pin (a, oe) (List.mem_append_left _ List.mem_cons_self)
  obtain ⟨vs, hd⟩ := hf
  obtain ⟨mA, hns, hr⟩ := (show ObjOk X.prog X.w H1 s1.heap dd (.xd fs) from I1.hok dd _ ed)
  obtain ⟨od, ho, hl⟩ := lookIn_ns hns
  obtain ⟨u, hu, ru⟩ := RelO.some_of (v := v) (o := mA n) (by rw [← l]; exact hr n)
  have J : PySem.W.InstAt s1.heap a oe D (some od) := ⟨ha, hz.1, by unfold PySem.W.notCls; rw [hd] <;> rfl, by rw [hz.2]; exact ho⟩
  exact HandSPX.exc_get I1.kIn J T.ga T.gg T.ox.exC (PySem.W.findObj_own T.hd hno rfl (by rw [hl, hu])) (handed_of ru) ⟨v, H1, I1.tok _, ru, q⟩
end
end G
namespace G
open PySem PySem.Spec PyProof.Rows L2
/-! ### raise C(e) -/
/-- what C's own __init__ is to do with a new error -/
def MkIs (C : Addr) (sp : Sp) (vs : List V) (H1 : Hp) (Q : XK) : Prop := vs.length ≤ 1000 ∧ ∀ a, H1 a = none → sp (.ref a :: (vs ++ [])) (upd H1 a (exo a C none))
  (fun v H2 => v = .non ∧ ∃ (d : Addr) (fs : List (Str × V)), H2 a = some (exo a C (some d)) ∧ H2 d = some (exd d fs) ∧ H1 d = none ∧ Q (.ref C) (some d) (upd (del H2 a) d (.xd fs))) (fun _ _ _ => False)
def tRs (t : L2.St → Hp → XK → Prop) (W : WX) : TS := fun _ σ H => t σ H fun cls d H' => W cls d σ H'
theorem g_raise {X : Cx} {W : WX} {e : Expr} {t : L2.St → Hp → XK → Prop} {pos : Pos} (hc : X.calm = true) (tk : Takes X W) (he : PMk X e t) : PS X (.Raise (some e) none pos) (tRs t W) := ps_raise hc tk he
theorem r_rs {C : Addr} {sp : Sp} {ta : TA} {W : WX} {D : Ends} {σ : L2.St} {H : Hp} (h : ta σ H fun vs H1 => MkIs C sp vs H1 (fun cls d H' => W cls d σ H')) : tRs (tMkO C sp [] ta) W D σ H := h
/-- the error class under the name x, at C; its __init__ keeps sp -/
structure ExCal (P : Program) (w : World) (K : PySem.W.Frag) (mg : Str → Option Value) (base : Heap) (CX : CXT) (k : Nat) (x : Str) (C : Addr) (ps : List Str) (sp : Sp) : Prop where
  at_ : mg x = some (.ref C)
  ex : ExK K C
  ini : ∃ f fd, PySem.W.findIn K (.ref C) "__init__" = some (some (.ref f)) ∧ PySem.W.typeIn K (.ref f) = some (.type "function") ∧ Binds K fd ps [] ∧ FnOk P w K mg base CX k f fd ps sp
theorem g_mkex {X : Cx} {k : Nat} {x : Str} {C : Addr} {ps : List Str} {sp : Sp} {p pos : Pos} {e : Expr} {es : List Expr} {ta : TA} (c : ExCal X.prog X.w X.K X.mg X.base CX0 k x C ps sp) (hr : Room (k + 1) X.A) (hg : Gl X x) (ha : PA X (e :: es) ta)
    (hdb : (x == ("__debug__" : Str)) = false := by decide) (he : starEach (e :: es) X.env = (false, eval e X.env) :: starEach es X.env := by rfl) (hpl : (backTo pos (starEach es X.env)).any (·.1) = false := by rfl) :
    PMk X (.Call (.Name x p) (e :: es) [] pos) (tMkO C sp [] ta) := by
  obtain ⟨f, fd, h1, h2, hb, F⟩ := c.ini
  exact pmk_oex c.ex.ox h1 h2 F hr hb .nil pass0 hg c.at_ ha hdb he hpl
/-- an error's field may be an int or a text -/
def FmtV : V → Prop
  | .int i => i.natAbs.log2 < 1920
  | .str z => z.length ≤ 1000
  | _ => False
/-- the __init__ that calls the base's and stores its one argument -/
def spExI (C : Addr) (f : Str) : Sp := fun vs H Q _ => ∃ (a : Addr) (v : V), vs = [.ref a, v] ∧ H a = some (exo a C none) ∧ FmtV v ∧ ∀ dx H', H' a = some (exo a C (some dx)) → H' dx = some (exd dx [(f, v)]) → H dx = none → dx ≠ a → (∀ b, b ≠ a → b ≠ dx → H' b = H b) → Q .non H'
/-- an error of the class at C with the field f leaves the heap H -/
def Lets (C : Addr) (f : Str) (v : V) (H : Hp) (Q : XK) : Prop := ∀ d H', Same H H' → H d = none → H' d = some (.xd [(f, v)]) → Q (.ref C) (some d) H'
theorem mk_is {C : Addr} {f : Str} {v : V} {H : Hp} {Q : XK} (hv : FmtV v) (k : Lets C f v H Q) : MkIs C (spExI C f) [v] H Q := by
  refine ⟨by show 1 ≤ 1000; decide, fun a ha => ⟨a, v, rfl, upd_same, hv, fun dx H' h1 h2 h3 h4 h5 => ⟨rfl, dx, _, h1, h2, ?_, k dx _ (fun b o e => ?_) ?_ upd_same⟩⟩⟩
  · rw [upd_ne h4] at h3; exact h3
  · have nba : b ≠ a := ne_of_none e ha
    have nbd : b ≠ dx := fun z => by
      rw [z] at e
      rw [upd_ne h4, e] at h3
      cases h3
    rw [upd_ne nbd, del_ne nba, h5 b nba nbd, upd_ne nba]
    exact e
  · rw [upd_ne h4] at h3; exact h3
/-! f-strings -/
theorem r_fmtI {te : TE} {σ : L2.St} {H : Hp} {Q : VK} (h : te σ H fun x H1 => (∃ y : Str, x = .str y ∧ y.length ≤ sizeLine ∧ Q (.str y) H1) ∨ ∃ i : Int, x = .int i ∧ i.natAbs.log2 < 1920 ∧ Q (.str (toString i)) H1) : tFmt te σ H Q := h
/-- the field's store in such an __init__, and the base's __init__: their readings -/
theorem r_vei {K : PySem.W.Frag} {ta : TA} {σ : L2.St} {H : Hp} {Q : VK} (h : ta σ H fun vs H1 => ∃ (a C : Addr) (ws : List V), vs = .ref a :: ws ∧ ws.length ≤ 1000 ∧ OexC K C ∧ H1 a = some (exo a C none) ∧ Q .non H1) : tVeI K ta σ H Q := h
theorem ost_K {X : Cx} {K : PySem.W.Frag} {st : Stmt} {to te : TE} {f : Str} (h : PS X st (tOst X.K f to te)) (hK : X.K = K := by rfl) : PS X st (tOst K f to te) := by subst hK; exact h
/-- the two statements of such an __init__ -/
theorem exinit_reads {K : PySem.W.Frag} {C : Addr} {f : Str} {tj : TE} {vs : List V} {H : Hp} {Q : VK} {E : XK} (hx : ExK K C) (hno : PySem.W.findIn K (.ref C) f = some none) (h : spExI C f vs H Q E)
    (hj : ∀ (a : Addr) (v : V) (H : Hp) (R : VK), FmtV v → (∀ z : Str, R (.str z) H) → tj [some (.ref a), some v] H R) :
    tSeq (tDrop (tVeI K (tCons (tVar 0) (tCons tj tNil)))) (tOst K f (tVar 0) (tVar 1)) { nx := fun _ H' => Q .non H', rt := Q } (L2.start ["self", "at"] vs) H := by
  obtain ⟨a, v, rfl, ha, hv, k⟩ := h
  refine ⟨.ref a, rfl, hj a v H _ hv fun z => ⟨a, C, [.str z], rfl, (by show 1 ≤ 1000; decide), hx.ox, ha, ?_⟩⟩
  refine ⟨v, rfl, .ref a, rfl, a, C, rfl, hx.ox, hno, .inl ⟨ha, fun dx hdx hne => k dx _ upd_same ?_ hdx hne fun b n1 n2 => ?_⟩⟩
  · rw [upd_ne hne, upd_same]
  · rw [upd_ne n1, upd_ne n2]
end G

set_option Elab.async false
set_option linter.all false
set_option maxRecDepth 100000
set_option maxHeartbeats 4000000
/-! Es: sets of tuples made of a tuple, their size; own ==; new objects whose __init__ may raise (own work). -/
namespace G
open PySem PySem.Spec PyProof.Rows L2 TS
section
variable {P : Program} {w : World} {A : Around} {E : Value → Shared → Prop} {s : Shared}
/-- the new set -/
abbrev ns0 (w : World) : Obj := { cls := .type "set", dict := none, data := .set #[] 0 (.fresh 0 0 (!w.params.followText "set-order")) }
set_option maxHeartbeats 6400000 in
/-- set(t), t a tuple of tuples of ints -/
theorem set_tup {l : Addr} {items : Array Value} (ks : List (Addr × List Int)) {Q : Value → Shared → Prop} (hh : A.handled = none) (hl : s.heap.IsTuple l items) (hit : items.toList = ks.map fun p => Value.ref p.1)
    (hk : ∀ p ∈ ks, IsT P w s.heap p.2 p.1) (hfew : ks.length < 64) (hu : A.units + 3 < cLine)
    (h : ∀ (h' : Heap) (tk : Nat) L es ep t, SetTR P w h' s.heap.objs.size L es ep t → Got ks ks.length L → (∀ b o, s.heap.get? b = some o → h'.get? b = some o) → Q (.ref s.heap.objs.size) { s with heap := h', toks := tk }) :
    wpAny (model P w) A (call (.type "set") [.ref l]) Q E s := by
  have n1 : items.size = ks.length := by
    have q := congrArg List.length hit
    rwa [Array.length_toList, List.length_map] at q
  obtain ⟨cc, tl, hmro⟩ := F.called_set.mro
  have m1 := F.called_set.made
  have m2 := F.called_set.sub
  apply wpAny_call
  apply codeAny_of_tree
  show wpAny (model P w) _ (callAny (.type "set") _) _ _ _
  apply wpAny_pure
  refine ⟨Code.quiet_builtin _ (by decide +kernel), ?_⟩
  apply codeAny_builtin F.entry_type_call
  rw [Around.under_plain
    (weight_type_call_type "set" [.ref l] []) rfl]
  have m3 := F.called_set.notType
  have m4 := F.called_set.canCreate
  have m5 := F.typeCall_set_1 (.ref l)
  repeat (any_goals (first | assumption | wp_step))
  refine codeAny_mono (code_set_led1 (.ref l) (E := E)
    (Q₁ := fun ob s1 => ob = .ref s.heap.objs.size ∧ s1 = { s with heap := s.heap.push (ns0 w) }) ⟨rfl, rfl⟩) ?_
  intro r s1 hr
  cases r with
  | error e => exact hr
  | ok fl =>
    cases fl with
    | next => exact hr.elim
    | brk => exact hr.elim
    | cont => exact hr.elim
    | ret ob =>
      obtain ⟨rfl, rfl⟩ := hr
      have z0 : (s.heap.push (ns0 w)).get? s.heap.objs.size = some (ns0 w) := Heap.get?_push_size _ rfl
      have zT : Shared.TypeIs { s with heap := s.heap.push (ns0 w) } (.ref s.heap.objs.size) "set" := ⟨_, z0, rfl⟩
      clear m1 m3 m4 m5
      have m6 := F.called_set.init.lookup
      have m7 := F.called_set.init.bind (.ref s.heap.objs.size)
      repeat (any_goals (first | assumption | wp_step))
      refine codeAny_mono (codeAny_call_builtin
        (R := wants (fun r s2 => r = .none ∧ ∃ h' tk L es ep t, s2 = { s with heap := h', toks := tk } ∧ SetTR P w h' s.heap.objs.size L es ep t ∧ Got ks ks.length L ∧ (∀ b o, s.heap.get? b = some o → h'.get? b = some o)) E)
        F.called_set.init.plain F.entry_set_init (check_set_init_1 zT ?_)) ?_
      · clear m2 m6 m7
        obtain ⟨⟨k1, k2, k3, k4⟩, hol, hcl, nl, hdl⟩ := hl
        simp only at hcl hdl
        subst hcl
        subst hdl
        have y1 : (s.heap.push (ns0 w)).get? l = some { cls := .type "tuple", dict := k2, data := .seq items nl, slots := k4 } := Heap.get?_push_of_some _ hol
        have m8 := F.sub_tuple_set
        have m9 := F.sub_tuple_frozenset
        have ne1 : (Value.type "tuple" == Value.type "dict") = false := by decide
        have y2 : (s.heap.push (ns0 w)).IsTuple l items := ⟨_, y1, rfl, nl, rfl⟩
        unfold Builtin.«set.__init__» noKeywords Builtin.Frozenset.updateFrom
        generalize gP : pyIter = PI
        wp_walk
        subst gP
        apply wpAny_pyIter_tuple y2
        apply wpAny_bind
        apply wpAny_runValue
        have l1 : l < s.heap.objs.size := Heap.lt_size hol
        have l2 : A.in1.in1.in1.handled = none := by simp [hh]
        have l3 : (s.heap.push (ns0 w)).objs.size = s.heap.objs.size + 1 := Heap.size_push ..
        have l4 : l ≠ (s.heap.push (ns0 w)).objs.size := by rw [l3]; exact Nat.ne_of_lt (Nat.lt_succ_of_lt l1)
        have l5 : s.heap.objs.size ∉ [(s.heap.push (ns0 w)).objs.size, l] := by
          rw [l3]
          simp only [List.mem_cons, List.not_mem_nil, or_false, not_or]
          exact ⟨Nat.ne_of_lt (Nat.lt_succ_self _), fun z => absurd l1 (by rw [z]; exact Nat.lt_irrefl _)⟩
        have v1 : ∀ (i : Nat) (v : Value), items[i]? = some v → ∃ p, ks[i]? = some p ∧ v = .ref p.1 := by
          intro i v hv
          have q : items.toList[i]? = some v := by rwa [Array.getElem?_toList]
          rw [hit, List.getElem?_map] at q
          cases z : ks[i]? with
          | none => rw [z] at q; cases q
          | some p => rw [z] at q; exact ⟨p, rfl, (Option.some.inj q).symm⟩
        have v2 : ∀ b, s.heap.objs.size ≤ b → s.heap.get? b = none := by
          intro b hb
          cases q : s.heap.get? b with
          | none => rfl
          | some o => exact absurd (Nat.lt_of_lt_of_le (Heap.lt_size q) hb) (Nat.lt_irrefl _)
        refine set_update_tups ((Walks.tuple l2 _ l l4 items).toS) s.heap.objs.size l5 ks n1 hfew v1 s.heap hk (v2 _ (Nat.le_refl _))
          (fun b hb => v2 b (by rw [List.mem_singleton.mp hb, l3]; exact Nat.le_succ _)) hu
          (items.size - 0) 0 _ (by omega) (Nat.zero_le _) ⟨⟨_, Heap.get?_push_size _ rfl, rfl, rfl⟩, (y2.push _)⟩
          (fun b o e => Heap.get?_push_of_some _ (Heap.get?_push_of_some _ e)) ?_ ?_
        · exact ⟨[], #[], 0, _, setTR_fresh (Heap.get?_push_of_some _ z0), Got.zero ks⟩
        · intro s' L es ep t hm q1 q2 q3
          obtain ⟨h', g2, d', tk', os'⟩ := s'
          obtain rfl : g2 = s.gens := hm.gens
          obtain rfl : d' = s.drawn := hm.drawn
          obtain rfl : os' = s.os := hm.os
          show wpAny (model P w) _ _ _ _ _
          apply wpAny_pure
          show wpAny (model P w) _ (ret Value.none) _ _ _
          rw [n1] at q2
          exact wpAny_pure ⟨rfl, h', tk', L, es, ep, t, rfl, q1, q2, q3⟩
      · intro r2 s2 hr2
        cases r2 with
        | error e => exact hr2
        | ok f2 =>
          cases f2 with
          | next => exact hr2.elim
          | brk => exact hr2.elim
          | cont => exact hr2.elim
          | ret r =>
            obtain ⟨rfl, h', tk, L, es, ep, t, rfl, q1, q2, q3⟩ := hr2
            repeat (any_goals (first | assumption | wp_step))
            exact h _ _ _ _ _ _ q1 q2 q3
/-- len(set(t)) -/
theorem len_set {L : List (Addr × List Int)} {a : Addr} {es : Array (Int × Value)} {ep : Nat} {t : SetTable} {Q : Value → Shared → Prop} (R : SetTR P w s.heap a L es ep t) (h : Q (.int (L.length : Nat) (s.toks + 1)) { s with toks := s.toks + 1 + 1 }) :
    wpAny (model P w) A (call (.builtin "len") [.ref a]) Q E s := by
  obtain ⟨o, ho, hex, hd⟩ := R.ob
  have e : es.size = L.length := by
    have z := congrArg List.length R.rows
    unfold rowsOf at z
    rwa [Array.length_toList, List.length_map] at z
  rw [← e] at h
  exact call_len_set ho hex hd R.fits (by rw [e]; have := R.few; omega) h
end
section
variable {X : Cx} {K : PySem.W.Frag}
/-- the expression len(set(t)), t a tuple of tuples of ints: the number of distinct ones -/
def tLenSetT (K : PySem.W.Frag) (ta : TE) : TE := fun σ H Q => ta σ H fun x H1 => ∃ (l : Addr) (ks : List (Addr × List Int)), x = V.ref l ∧ SqT K H1 l (ks.map fun p => V.ref p.1) ∧ (∀ p ∈ ks, SqT K H1 p.1 (p.2.map V.int)) ∧ ks.length < 64 ∧
  ∀ n : Nat, (∃ L : List (List Int), L.Nodup ∧ L.length = n ∧ (∀ k, k ∈ L ↔ k ∈ ks.map (·.2))) → Q (.int n) H1
theorem pe_lenSetT {a : Expr} {ta : TE} {p p2 q pos : Pos} (hc : X.calm = true) (hg : Gl X "len") (hm : X.mg "len" = none) (hg2 : Gl X "set") (hm2 : X.mg "set" = none) (hu : X.A.units + 64 < cLine) (ha : PE X a ta)
    (na : starEach [a] X.env = (false, eval a X.env) :: starEach [] X.env := by rfl) (hK : X.K = K := by rfl) : PE X (.Call (.Name "len" p) [.Call (.Name "set" p2) [a] [] q] [] pos) (tLenSetT K ta) := by
  subst hK
  constructor
  intro pins s σ H Q I h
  refine Call_ (ld_blt I hg hm PySem.boot_len ?_)
  refine PyProof.Rows.callWith_builtin1 (PyProof.Rows.args_cons ?_ rfl) rfl rfl
  refine Call_ (ld_blt I hg2 hm2 PyProof.Rows.boot_set ?_)
  refine PyProof.Rows.callWith_type1 (PyProof.Rows.args_cons (thn (ha.run pins s σ H _ I h) ?_) na) na rfl
  rintro v s1 ⟨x, H1, I1, r1, l, ks, rfl, hq, hk, hf, q1⟩
  apply PyProof.Rows.args_nil
  cases r1
  obtain ⟨its, r, ⟨o, ho, hcl, n, hd⟩, hz⟩ := I1.tuple hq
  refine set_tup (P := X.prog) (w := X.w) ks (I1.ok.hd hc) ⟨o, ho, hcl, n, hd⟩ (by simpa using refs_of_vals r) (fun p hp => I1.isT (hk p hp)) hf (by omega) ?_
  intro h' tk L es ep t R g k
  apply PyProof.Rows.args_nil
  refine len_set R ⟨.int (L.length : Nat), H1, ?_, ⟨_, rfl⟩, q1 _ ⟨L.map (·.2), R.nd, by rw [List.length_map], fun k => ⟨fun hm => ?_, fun hm => ?_⟩⟩⟩
  · exact (I1.kept (t' := tk) k).tok _
  · obtain ⟨p, hp, rfl⟩ := List.mem_map.mp hm
    exact List.mem_map_of_mem (List.mem_of_mem_take (g.sub p hp))
  · obtain ⟨p, hp, rfl⟩ := List.mem_map.mp hm
    exact g.all p (by rw [List.take_length]; exact hp)
end
end G

set_option Elab.async false
set_option linter.all false
set_option maxRecDepth 100000
set_option maxHeartbeats 4000000
/-! Rs: defs that raise (errors without context), try, except suites, methods, own ==, data of any depth (own work). -/
namespace G
open PySem PySem.Spec PyProof.Rows L2
abbrev HX (P : Program) (w : World) : CXT := L2N.CX P w
/-- the def st is the method m of the class at C -/
def MetAt (K : PySem.W.Frag) (C : Addr) (m qual : Str) (st : Stmt) : Prop := ∃ f fd, PySem.W.findIn K (.ref C) m = some (some (.ref f)) ∧ PySem.W.isFn K (.ref f) = true ∧ Fun K m qual st f fd
/-- the method m of the class at C keeps the promise sp -/
structure MCal (P : Program) (w : World) (K : PySem.W.Frag) (mg : Str → Option Value) (base : Heap) (CX : CXT) (k : Nat) (C : Addr) (m : Str) (ps : List Str) (sp : Sp) : Prop where
  ex : ∃ f fd, Meth K C m f ∧ Binds K fd ps [] ∧ FnOk P w K mg base CX k f fd ps sp
section
variable {P : Program} {w : World} {K : PySem.W.Frag} {mg : Str → Option Value} {base : Heap} {CX : CXT} {j k : Nat} {x qual m : Str} {ps N : List Str} {sp sp' : Sp} {st : Stmt} {C : Addr}
theorem MCal.mono (c : MCal P w K mg base CX j C m ps sp) (h : j ≤ k) : MCal P w K mg base CX k C m ps sp := by
  obtain ⟨f, fd, a, b, F⟩ := c.ex
  exact ⟨f, fd, a, b, F.mono h⟩
theorem MCal.imp (c : MCal P w K mg base CX k C m ps sp) (h : ∀ vs H Q E, sp' vs H Q E → sp vs H Q E) : MCal P w K mg base CX k C m ps sp' := by
  obtain ⟨f, fd, a, b, F⟩ := c.ex
  exact ⟨f, fd, a, b, F.imp h⟩
/-- a method that lets no exception out -/
theorem met_ok (F : MetAt K C m qual st) (S : FnScope N ps (defScope st))
    (hb : ∀ (kV doc pm : Value) (an : Option Addr) (cdv ct : Value) (us : List Value), us.length = ps.length → bindArgs (PySem.W.fnOf m qual (defArgs st) (defBody st) (defScope st) .none kV doc pm an cdv ct) ⟨us, []⟩ = pure (ps.zip us))
    (len : ∀ vs H Q E, sp vs H Q E → vs.length = ps.length)
    (body : ∀ (f : Addr) (cdv : Value) (A : Around) (outer : List Env) (s : Shared) (H : Hp) (vs : List V) (Q : VK) (E : XK), Room k (A.deeper (envOfC qual (defScope st) s.heap.objs.size f cdv)) → sp vs H Q E →
      ∃ t, PSs (cxOf CX0 P w K mg base N qual (defScope st) f cdv A outer s H E).nox (defBody st) t ∧ t { nx := fun _ H' => Q .non H', rt := Q } (start N vs) H) : MCal P w K mg base CX0 (k + 1) C m ps sp := by
  obtain ⟨f, fd, a, i, G⟩ := F
  exact ⟨f, fd, ⟨a, i, G.kp⟩, G.binds hb, G.ok S len fun cdv A outer s H vs Q E hr h => body f cdv A outer s H vs Q E hr h⟩
/-- a def that may raise -/
theorem fn_okX {f : Addr} {fd : FuncData} (F : Fun K x qual st f fd) (S : FnScope N ps (defScope st)) (len : ∀ vs H Q E, sp vs H Q E → vs.length = ps.length)
    (hbody : ∀ (cdv : Value) (A : Around) (outer : List Env) (s : Shared) (H : Hp) (vs : List V) (Q : VK) (E : XK), Room k (A.deeper (envOfC qual (defScope st) s.heap.objs.size f cdv)) → sp vs H Q E →
      ∃ t, PSs (cxOf (HX P w) P w K mg base N qual (defScope st) f cdv A outer s H E) (defBody st) t ∧ t { nx := fun _ H' => Q .non H', rt := Q } (start N vs) H) : FnOk P w K mg base (HX P w) (k + 1) f fd ps sp := by
  obtain ⟨oc, od, kV, doc, pm, an, cdv, ct, osl, rfl, lk, hcd⟩ := F.ex
  exact fn_of lk hcd S len fun A outer s H vs Q E hr hsp => hbody cdv A outer s H vs Q E hr hsp
theorem def_okX (F : FunAt K mg x qual st) (S : FnScope N ps (defScope st))
    (hb : ∀ (kV doc pm : Value) (an : Option Addr) (cdv ct : Value) (us : List Value), us.length = ps.length → bindArgs (PySem.W.fnOf x qual (defArgs st) (defBody st) (defScope st) .none kV doc pm an cdv ct) ⟨us, []⟩ = pure (ps.zip us))
    (len : ∀ vs H Q E, sp vs H Q E → vs.length = ps.length)
    (body : ∀ (f : Addr) (cdv : Value) (A : Around) (outer : List Env) (s : Shared) (H : Hp) (vs : List V) (Q : VK) (E : XK), Room k (A.deeper (envOfC qual (defScope st) s.heap.objs.size f cdv)) → sp vs H Q E →
      ∃ t, PSs (cxOf (HX P w) P w K mg base N qual (defScope st) f cdv A outer s H E) (defBody st) t ∧ t { nx := fun _ H' => Q .non H', rt := Q } (start N vs) H) : Cal P w K mg base (HX P w) (k + 1) x ps sp := by
  obtain ⟨f, fd, m, G⟩ := F
  have lk : ∃ oc od sl, K.lookup f = some ⟨oc, od, .func fd, sl⟩ := by
    obtain ⟨oc, od, _, _, _, _, _, _, sl, _, lk, _⟩ := G.ex
    exact ⟨oc, od, sl, lk⟩
  exact ⟨f, fd, m, G.kp, lk, G.binds hb, fn_okX G S len fun cdv A outer s H vs Q E hr h => body f cdv A outer s H vs Q E hr h⟩
theorem met_okX (F : MetAt K C m qual st) (S : FnScope N ps (defScope st))
    (hb : ∀ (kV doc pm : Value) (an : Option Addr) (cdv ct : Value) (us : List Value), us.length = ps.length → bindArgs (PySem.W.fnOf m qual (defArgs st) (defBody st) (defScope st) .none kV doc pm an cdv ct) ⟨us, []⟩ = pure (ps.zip us))
    (len : ∀ vs H Q E, sp vs H Q E → vs.length = ps.length)
    (body : ∀ (f : Addr) (cdv : Value) (A : Around) (outer : List Env) (s : Shared) (H : Hp) (vs : List V) (Q : VK) (E : XK), Room k (A.deeper (envOfC qual (defScope st) s.heap.objs.size f cdv)) → sp vs H Q E →
      ∃ t, PSs (cxOf (HX P w) P w K mg base N qual (defScope st) f cdv A outer s H E) (defBody st) t ∧ t { nx := fun _ H' => Q .non H', rt := Q } (start N vs) H) : MCal P w K mg base (HX P w) (k + 1) C m ps sp := by
  obtain ⟨f, fd, a, i, G⟩ := F
  exact ⟨f, fd, ⟨a, i, G.kp⟩, G.binds hb, fn_okX G S len fun cdv A outer s H vs Q E hr h => body f cdv A outer s H vs Q E hr h⟩
end
section
variable {X : Cx} {CX : CXT} {k : Nat} {C : Addr} {x m : Str} {ps : List Str} {sp : Sp} {W : WX} {p pos apos : Pos} {e o : Expr} {es : List Expr} {t : TA} {to : TE} {pl : Sem Bool}
theorem takesE (hs : X.stack = X.env :: X.outer) (hf : X.env.frame = some X.env.locals) (hex : X.ex = []) {E : XK} {E₁ : Value → Shared → Prop}
    (hx : X.xe = fun e s' => wpAny (model X.prog X.w) X.A (leaving X.env e) (fun _ s'' => L2N.CX X.prog X.w X.outer X.H_0 X.s_0 E e s'') E₁ s') : L2N.Takes X (fun cls d _ H => E cls d H) := L2N.takes_of hs hf hex hx
theorem takesN {X : Cx} : L2N.Takes X (fun _ _ _ _ => False) := fun _ _ x => by
  obtain ⟨_, _, _, _, _, _, _, _, _, _, _, _, _, _, _, _, z⟩ := x
  exact z.elim
/-- a call of a def that may raise -/
theorem g_callX (c : Cal X.prog X.w X.K X.mg X.base (HX X.prog X.w) k x ps sp) (hr : Room k X.A) (hg : Gl X x) (tk : L2N.Takes X W) (ha : PA X (e :: es) t) (hdb : (x == ("__debug__" : Str)) = false := by decide)
    (he : starEach (e :: es) X.env = (false, eval e X.env) :: starEach es X.env := by rfl) (hpl : (backTo pos (starEach es X.env)).any (·.1) = false := by rfl) : PE X (.Call (.Name x p) (e :: es) [] pos) (tCallS sp (WE W) t) := by
  obtain ⟨f, fd, m, kp, lk, b, F⟩ := c.ex
  exact pe_callS F hr hg m kp b (fun σ => L2N.passAt tk σ) ha hdb he hpl
theorem r_callX {σ : L2.St} {H : Hp} {Q : VK} (h : t σ H fun vs H1 => sp vs H1 Q (fun cls d H' => W cls d σ H')) : tCallS sp (WE W) t σ H Q := h
/-- o.m(..), o.m() of an own class, nothing let out -/
theorem g_meth (c : MCal X.prog X.w X.K X.mg X.base CX k C m ps sp) (cl : Cls X.K C) (hr : Room k X.A) {E : XK} (hx : Passes CX X E) (he : PE X o to) (ha : PA X (e :: es) t)
    (hst : starEach (e :: es) X.env = (false, eval e X.env) :: starEach es X.env := by rfl) (hpl : (backTo pos (starEach es X.env)).any (·.1) = false := by rfl)
    (ht : eval (.Call (.Attribute o m apos) (e :: es) [] pos) X.env = (do
      let ov ← eval o X.env
      standAt apos.atName
      let (f, first) ← holding [ov] (getMethod ov m pl)
      callWith pos f first (backTo pos (starEach (e :: es) X.env)) (backToKw pos (keywordEach [] X.env))) := by rfl) : PE X (.Call (.Attribute o m apos) (e :: es) [] pos) (tMeth C m sp [] E to t) := by
  obtain ⟨f, fd, hm, b, F⟩ := c.ex
  exact pe_meth he cl hm F hr b .nil hx ha hst hpl ht
theorem g_meth0 (c : MCal X.prog X.w X.K X.mg X.base CX k C m ps sp) (cl : Cls X.K C) (hr : Room k X.A) {E : XK} (hx : Passes CX X E) (he : PE X o to)
    (ht : eval (.Call (.Attribute o m apos) [] [] pos) X.env = (do
      let ov ← eval o X.env
      standAt apos.atName
      let (f, first) ← holding [ov] (getMethod ov m pl)
      callWith pos f first (backTo pos (starEach [] X.env)) (backToKw pos (keywordEach [] X.env))) := by rfl) : PE X (.Call (.Attribute o m apos) [] [] pos) (tMeth C m sp [] E to tNil) := by
  obtain ⟨f, fd, hm, b, F⟩ := c.ex
  exact pe_meth0 he cl hm F hr b .nil hx ht
theorem r_meth {σ : L2.St} {H : Hp} {Q : VK} {E : XK} (h : to σ H fun x H1 => ∃ a dx fs, x = .ref a ∧ H1 a = some (.ins C dx fs) ∧ fs.lookup m = none ∧ t σ H1 fun vs H2 => sp (x :: (vs ++ [])) H2 Q E) : tMeth C m sp [] E to t σ H Q := h
/-! ### C(..) whose __init__ may raise -/
/-- what the text says of a class of plain instances -/
structure ClK (K : PySem.W.Frag) (C : Addr) : Prop where
  cl : Cls K C
  mks : PySem.W.makesIn K C = true
  kp : PySem.W.keepIn K (.ref C) = true
  cc : PySem.W.findIn K (.ref C) "__class__" = some (some (.builtin "object.__class__"))
  sp : PySem.W.specialIn K (.builtin "object.__class__") "__get__" = some (some (.builtin "getset_descriptor.__get__"))
  tk : PySem.W.takesIn K (.builtin "object.__class__") = some true
  mo : PySem.W.mroIn K C (.type "object") = some true
/-- what __init__ is to do with a new instance -/
def MkI (C : Addr) (sp : Sp) (vs : List V) (H1 : Hp) (Q : VK) (E : XK) : Prop := ∀ x dx, H1 x = none → H1 dx = none → dx ≠ x → sp (.ref x :: vs) (upd (upd H1 dx (.own x)) x (.ins C dx [])) (fun v H2 => v = .non ∧ Q (.ref x) H2) E
def tMkX (C : Addr) (sp : Sp) (E : L2.St → XK) (t : TA) : TE := fun σ H Q => t σ H fun vs H1 => MkI C sp vs H1 Q (E σ)
theorem g_makeX (cl : ClK X.K C) (c : MCal X.prog X.w X.K X.mg X.base (HX X.prog X.w) k C "__init__" ps sp) (hr : Room (k + 1) X.A) (hg : Gl X x) (hm : X.mg x = some (.ref C)) (tk : L2N.Takes X W) (ha : PA X (e :: es) t)
    (hdb : (x == ("__debug__" : Str)) = false := by decide) (he : starEach (e :: es) X.env = (false, eval e X.env) :: starEach es X.env := by rfl) (hpl : (backTo pos (starEach es X.env)).any (·.1) = false := by rfl) :
    PE X (.Call (.Name x p) (e :: es) [] pos) (tMkX C sp (WE W) t) := by
  obtain ⟨f, fd, M, hb, F⟩ := c.ex
  constructor
  intro pins s0 σ H0 Q I0 h0
  refine wpAny_Call_Name_kw (ld_glob I0 hg hm ?_ hdb)
  refine PySem.W.callWith_K (h₀ := X.base) I0.ok.mod.kin cl.kp (thn (ha.run pos pins s0 σ H0 _ I0 h0) fun us s ⟨vs, H, I, r, h⟩ => ⟨I.kIn, ?_⟩) he hpl
  show wpAny _ _ (call (.ref C) us) _ _ _
  have hq := h (s.heap.objs.size + 1) s.heap.objs.size (I.hok.fresh (Nat.le_succ _)) (I.hok.fresh (Nat.le_refl _)) (Nat.ne_of_lt (Nat.lt_succ_self _))
  have I2 := Inv.made (C := C) I
  have r2 : Vals (V.ref (s.heap.objs.size + 1) :: vs) (Value.ref (s.heap.objs.size + 1) :: us) := .cons rfl r
  have hl : (Value.ref (s.heap.objs.size + 1) :: us ++ []).length = ps.length := by
    have e := r2.length
    rw [F.len _ _ _ _ hq] at e
    rw [List.append_nil]
    exact e.symm
  have b2 := hb _ (Value.ref (s.heap.objs.size + 1) :: us) I2.kIn hl
  rw [List.append_nil] at b2
  refine wpAny_call (make_map (f := f) I.kIn cl.mks M.at_ (beq_iff_eq.mp M.fn) (codeAny_mono (F.run _ X.stack _ _ ⟨Value.ref (s.heap.objs.size + 1) :: us, []⟩ (Value.ref (s.heap.objs.size + 1) :: us) _ _ (WE W σ) (hr.make C us [])
    (I2.env0.make C us []) b2 r2 hq) fun r s' hq' => ?_))
  cases r with
  | error e => exact L2N.passAt tk σ pins _ _ e s' I2 hq'
  | ok fl =>
    cases fl with
    | ret u =>
      obtain ⟨v, H', I3, rv, ev, q3⟩ := I2.after hq'
      subst ev
      exact ⟨rv, ⟨V.ref (s.heap.objs.size + 1), H', I3, rfl, q3⟩⟩
    | next => exact False.elim hq'
    | brk => exact False.elim hq'
    | cont => exact False.elim hq'
theorem r_mkX {σ : L2.St} {H : Hp} {Q : VK} (h : t σ H fun vs H1 => MkI C sp vs H1 Q (fun cls d H' => W cls d σ H')) : tMkX C sp (WE W) t σ H Q := h
/-! ### raise C(e), of an own error class -/
theorem g_mkexN {ta : TA} (hm : X.mg x = some (.ref C)) (cx : ExK X.K C) (c : MCal X.prog X.w X.K X.mg X.base CX0 k C "__init__" ps sp) (hr : Room (k + 1) X.A) (hg : Gl X x) (ha : PA X (e :: es) ta)
    (hdb : (x == ("__debug__" : Str)) = false := by decide) (he : starEach (e :: es) X.env = (false, eval e X.env) :: starEach es X.env := by rfl) (hpl : (backTo pos (starEach es X.env)).any (·.1) = false := by rfl) :
    L2N.PMk X (.Call (.Name x p) (e :: es) [] pos) (tMkO C sp [] ta) := by
  obtain ⟨fI, fd, M, hb, F1⟩ := c.ex
  have T := cx.ox
  have iC := M.at_
  have tI := beq_iff_eq.mp M.fn
  intro pins s σ H Q I h
  obtain ⟨nm, q, N, bs, bm, sn, sub, ab, col, dd, k0, k1, k2, k3, k5, hC, hbm⟩ := T.cls
  refine wpAny_Call_Name_kw (ld_glob I hg hm ?_ hdb)
  refine PySem.W.callWith_K (h₀ := X.base) I.ok.mod.kin T.kC (thn (ha.run pos pins s σ H _ I h) fun us s1 ⟨vs, H1, I1, r1, hz, q1⟩ => ⟨I1.kIn, ?_⟩) he hpl
  show wpAny _ _ (call (.ref C) us) _ _ _
  obtain ⟨hp, g, dr, tk, os⟩ := s1
  have hsz : hp.objs.size ≤ hp.objs.size + 1 := Nat.le_succ _
  have hn : H1 (hp.objs.size + 1) = none := I1.hok.fresh hsz
  have hq := q1 (hp.objs.size + 1) hn
  have kk : ∀ b o, hp.get? b = some o → ((hp.push (PySem.W.kdv_tup us)).push (PySem.HandSPX.excO C hp.objs.size)).get? b = some o := fun b o e => Heap.get?_push_of_some _ (Heap.get?_push_of_some _ e)
  have hget : ((hp.push (PySem.W.kdv_tup us)).push (PySem.HandSPX.excO C hp.objs.size)).get? (hp.objs.size + 1) = some (PySem.HandSPX.excO C hp.objs.size) := by heap_get
  have I2 : Inv X pins σ (upd H1 (hp.objs.size + 1) (exo (hp.objs.size + 1) C none)) ⟨(hp.push (PySem.W.kdv_tup us)).push (PySem.HandSPX.excO C hp.objs.size), g, dr, tk, os⟩ :=
    I1.laid (t' := tk) (a := hp.objs.size + 1) (o := exo (hp.objs.size + 1) C none) (h' := (hp.push (PySem.W.kdv_tup us)).push (PySem.HandSPX.excO C hp.objs.size)) kk hsz (exo_ok hget)
  have r2 : Vals (V.ref (hp.objs.size + 1) :: (vs ++ [])) (Value.ref (hp.objs.size + 1) :: (us ++ [])) := .cons rfl (r1.append .nil)
  have hl : (Value.ref (hp.objs.size + 1) :: us ++ []).length = ps.length := by
    have e := r2.length
    rw [F1.len _ _ _ _ hq] at e
    exact e.symm
  have b2 : BindsTo ⟨(hp.push (PySem.W.kdv_tup us)).push (PySem.HandSPX.excO C hp.objs.size), g, dr, tk, os⟩ fd ⟨Value.ref (hp.objs.size + 1) :: us, []⟩ (ps.zip (Value.ref (hp.objs.size + 1) :: (us ++ []))) := hb _ (Value.ref (hp.objs.size + 1) :: us) I2.kIn hl
  have hus : us.length ≤ sizeLine := by
    rw [← Paired.length r1, sizeLine_eq]
    omega
  refine wpAny_call (PySem.HandSPX.call_own F.excBase_ValueError (fun Y => PySem.HandSPX.refsVE_contains Y bm hbm) (I1.kIn _ _ hC) (PySem.W.looks_findIn I1.kIn iC) (fun self => PySem.W.bind_fn I1.kIn self tI) hus
    (codeAny_mono (F1.run _ X.stack _ _ ⟨Value.ref (hp.objs.size + 1) :: us, []⟩ (Value.ref (hp.objs.size + 1) :: (us ++ [])) _ _ (fun _ _ _ => False) (hr.make C us []) (I2.env0.make C us []) b2 r2 hq) fun r s' hq' => ?_))
  cases r with
  | error er => exact (show False from hq').elim
  | ok fl =>
    cases fl with
    | ret u =>
      obtain ⟨v, H2, os2, bare2, un2, hok2, rv, ev, d, fs, ea, ed, hd1, q2⟩ := hq'
      subst ev
      obtain ⟨h2, g2, d2, t2, os'⟩ := s'
      obtain ⟨t0, G, J, kG, ge, hoe, na⟩ := mk_end0 (d2 := d2) (t2 := t2) I1 hsz kk un2 hok2 os2 bare2 ea ed hd1
      refine ⟨rv, ⟨hp.objs.size + 1, _, _, ⟨G, g2, d2, t2, os'⟩, _, .ref C, some d, rfl, J, kG, ge, hoe, ⟨rfl, rfl, fun vs hv => ?_⟩, rfl, rfl, na, rfl, bare2, raises_own T.exC T.tyC, q2⟩⟩
      cases hv
      rfl
    | next => exact False.elim hq'
    | brk => exact False.elim hq'
    | cont => exact False.elim hq'
theorem g_raiseN {t : L2.St → Hp → XK → Prop} (hc : X.calm = true) (tk : L2N.Takes X W) (he : L2N.PMk X e t) : PS X (.Raise (some e) none pos) (tRs t W) := L2N.ps_raise hc tk he
end
/-! ### try: .. except x as n: .. -/
def tTry (K : PySem.W.Frag) (c : Value) (i : Nat) (tb : WX → TS) (ts : Addr → Value → Option Addr → TS) (Wout : WX) : TS := fun D σ H => tb (wAs K c i ts Wout D) D σ H
theorem g_try {X : Cx} {K : PySem.W.Frag} {x n : Str} {c : Value} {i : Nat} {body suite : List Stmt} {b₀ : Stmt} {np pos pos' : Pos} {tb : WX → TS} {ts : Addr → Value → Option Addr → TS} {Wout : WX} (hs : X.stack = X.env :: X.outer) (hf : X.env.frame = some X.env.locals) (hN : X.N.Nodup) (hi : X.N[i]? = some n) (hln : X.env.kindOf n = some .local) (hc : Names X x c) (tk : L2N.Takes X Wout)
    (hb : ∀ (W : WX) (pn : List (Addr × Obj)) (xe : Value → Shared → Prop), L2N.Takes (X.tr pn xe) W → PassesOwn (model X.prog X.w) X.A X.env xe → PSs (X.tr pn xe) body (tb W))
    (hsu : ∀ (a : Addr) (oe : Obj) (cls : Value) (d : Option Addr) (pn : List (Addr × Obj)), L2N.Zn cls d oe → (∃ vs, oe.data = .fields vs) → PSs (X.suite a ((a, oe) :: pn)) (b₀ :: suite) (ts a cls d)) (hK : X.K = K := by rfl) :
    PS X (.Try body [.ExceptHandler (some (.Name x np)) (some n) (b₀ :: suite) pos'] [] [] pos) (tTry K c i tb ts Wout) := by
  subst hK
  exact L2N.ps_try_as hs hf hN hi hln hc tk hb hsu
theorem r_try {K : PySem.W.Frag} {c : Value} {i : Nat} {tb : WX → TS} {ts : Addr → Value → Option Addr → TS} {Wout : WX} {D : Ends} {σ : L2.St} {H : Hp} (h : tb (wAs K c i ts Wout D) D σ H) : tTry K c i tb ts Wout D σ H := h
/-- an error that the clause names -/
theorem r_caught {K : PySem.W.Frag} {c cls : Value} {d : Option Addr} {i : Nat} {ts : Addr → Value → Option Addr → TS} {Wout : WX} {D : Ends} {σ : L2.St} {H : Hp} (e : PySem.W.exmOne K cls c = some true)
    (h : ∀ a, H a = none → ts a cls d { nx := fun σ' H' => D.nx (σ'.set i none) H', rt := D.rt, bk := fun σ' H' => D.bk (σ'.set i none) H', ct := fun σ' H' => D.ct (σ'.set i none) H' } (σ.set i (some (.ref a))) H) : wAs K c i ts Wout D cls d σ H :=
  ⟨true, e, fun _ => h, fun z => Bool.noConfusion z⟩
/-! ### calls in an except suite -/
theorem hot_of {X : Cx} {a : Addr} {oe : Obj} {cls : Value} {d : Option Addr} {pn : List (Addr × Obj)} (hz : L2N.Zn cls d oe) (hf : ∃ vs, oe.data = .fields vs) : L2H.HotC (X.suite a ((a, oe) :: pn)) := by
  obtain ⟨vs, hd⟩ := hf
  exact ⟨(a, oe), ⟨rfl, vs, hd, hz.2.2 vs hd⟩, List.mem_cons_self⟩
structure CalH (P : Program) (w : World) (K : PySem.W.Frag) (mg : Str → Option Value) (base : Heap) (CX : CXT) (k : Nat) (x : Str) (ps : List Str) (sp : Sp) : Prop where
  ex : ∃ f fd, mg x = some (.ref f) ∧ PySem.W.keepIn K (.ref f) = true ∧ Binds K fd ps [] ∧ L2H.FnH P w K mg base CX k f fd ps sp
section
variable {P : Program} {w : World} {K : PySem.W.Frag} {mg : Str → Option Value} {base : Heap} {CX : CXT} {j k : Nat} {x qual : Str} {ps N : List Str} {sp : Sp} {st : Stmt}
theorem def_okH (F : FunAt K mg x qual st) (S : FnScope N ps (defScope st))
    (hb : ∀ (kV doc pm : Value) (an : Option Addr) (cdv ct : Value) (us : List Value), us.length = ps.length → bindArgs (PySem.W.fnOf x qual (defArgs st) (defBody st) (defScope st) .none kV doc pm an cdv ct) ⟨us, []⟩ = pure (ps.zip us))
    (len : ∀ vs H Q E, sp vs H Q E → vs.length = ps.length)
    (body : ∀ (f : Addr) (cdv : Value) (A : Around) (outer : List Env) (s : Shared) (H : Hp) (vs : List V) (Q : VK) (E : XK) (p : Addr × Obj), L2H.Hot1 A p → L2H.RoomH k (A.deeper (envOfC qual (defScope st) s.heap.objs.size f cdv)) → sp vs H Q E →
      ∃ t, PSs (L2H.cxH CX0 P w K mg base N qual (defScope st) f cdv A outer s H E p) (defBody st) t ∧ t { nx := fun _ H' => Q .non H', rt := Q } (start N vs) H) : CalH P w K mg base CX0 (k + 1) x ps sp := by
  obtain ⟨f, fd, m, G⟩ := F
  obtain ⟨oc, od, kV, doc, pm, an, cdv, ct, osl, rfl, lk, hcd⟩ := G.ex
  exact ⟨f, _, m, G.kp, G.binds hb, L2H.fn_ofH lk hcd S len fun A outer s H vs Q E p hp hr h => body f cdv A outer s H vs Q E p hp hr h⟩
end
theorem g_callH {X : Cx} {k : Nat} {x : Str} {ps : List Str} {sp : Sp} {p pos : Pos} {e : Expr} {es : List Expr} {t : TA} (c : CalH X.prog X.w X.K X.mg X.base CX0 k x ps sp) (hr : L2H.RoomH k X.A) (hc : L2H.HotC X) (hg : Gl X x) (ha : PA X (e :: es) t) (hdb : (x == ("__debug__" : Str)) = false := by decide)
    (he : starEach (e :: es) X.env = (false, eval e X.env) :: starEach es X.env := by rfl) (hpl : (backTo pos (starEach es X.env)).any (·.1) = false := by rfl) : PE X (.Call (.Name x p) (e :: es) [] pos) (tCallS sp (fun _ _ _ _ => False) t) := by
  obtain ⟨f, fd, m, kp, b, F⟩ := c.ex
  exact L2H.pe_callH F hr hc hg m kp b (fun _ _ _ _ _ _ _ h => h.elim) ha hdb he hpl
theorem r_callH {σ : L2.St} {H : Hp} {Q : VK} {sp : Sp} {t : TA} (h : t σ H fun vs H1 => sp vs H1 Q (fun _ _ _ => False)) : tCallS sp (fun _ _ _ _ => False) t σ H Q := h
/-! ### x == y of an own class -/
def rEqO (C : Addr) (sp : Sp) : R2 := fun x y H Q => ∃ (a b : Addr) (dx dy : Addr) (fs gs : List (Str × V)), x = .ref a ∧ y = .ref b ∧ H a = some (.ins C dx fs) ∧ H b = some (.ins C dy gs) ∧ sp [x, y] H (fun v H' => ∃ z, v = .bl z ∧ Q (.bl z) H') E0
theorem op_eqO {X : Cx} {k : Nat} {C : Addr} {ps : List Str} {sp : Sp} (c : MCal X.prog X.w X.K X.mg X.base CX0 k C "__eq__" ps sp) (hr : Room k X.A) : OpR X (compareOp .Eq) (rEqO C sp) := by
  intro pins s σ H x y u v Q I rx ry h
  obtain ⟨a, b, dx, dy, fs, gs, rfl, rfl, ha, hb', hsp⟩ := h
  obtain ⟨f, fd, M, hb, F⟩ := c.ex
  cases rx
  cases ry
  obtain ⟨mA, J, _⟩ := ins_get I.hok ha
  obtain ⟨mB, J', _⟩ := ins_get I.hok hb'
  obtain ⟨od, J, _⟩ := J.look
  obtain ⟨od', J', _⟩ := J'.look
  obtain ⟨m, hF⟩ := I.fr
  show wpAny _ _ (richCompare .Eq (.ref a) (.ref b)) _ _ _
  refine PySem.W.cmp_K (op := .Eq) (tb := .ref C) hr.units0 hF I.ok.mod.kin J J'.type (by simp [PySem.W.notFirst]) M.at_ M.fn ?_
  have hl := F.len _ _ _ _ hsp
  have r2 : Vals [V.ref a, V.ref b] [Value.ref a, Value.ref b] := .cons rfl (.cons rfl .nil)
  refine wpAny_call (codeAny_mono (F.run X.A X.stack s H ⟨[.ref a, .ref b], []⟩ [.ref a, .ref b] [.ref a, .ref b] _ E0 hr I.env0 (by
    have := hb s [.ref a, .ref b] I.kIn (by simpa using hl)
    simpa using this) r2 hsp) fun r s' hq => ?_)
  cases r with
  | error e => exact (show False from hq).elim
  | ok fl =>
    cases fl with
    | ret w =>
      obtain ⟨z, H', I', rz, z', ez, q⟩ := I.after hq
      subst ez
      cases rz
      exact ⟨.bl z', H', I', rfl, q⟩
    | next => exact False.elim hq
    | brk => exact False.elim hq
    | cont => exact False.elim hq
/-! isinstance of an instance -/
theorem v_isiO {K : PySem.W.Frag} {H : Hp} {a C dx : Addr} {fs : List (Str × V)} {Q : VK} (h : H a = some (.ins C dx fs)) (c : ClK K C) (k : Q (.bl true) H) : gIsi K [.ref a, .ref C] H Q :=
  .inl ⟨.ref a, .ref C, _, _, true, rfl, .own C, .base (.ins h c.cl c.cc c.sp c.tk c.mo), if_pos (beq_self_eq_true _), k⟩
/-! ### data of any depth -/
theorem Dp.same {K : PySem.W.Frag} {H H' : Hp} (s : Same H H') : ∀ (d : PyData) (v : V), Dp K H v d → Dp K H' v d := by
  intro d v h
  refine Dp.rec (motive_1 := fun v d _ => Dp K H' v d) (motive_2 := fun vs ds _ => DpAll K H' vs ds) ?_ ?_ ?_ ?_ ?_ ?_ ?_ ?_ h
  · exact .non
  · exact .bl
  · exact .int
  · exact .str
  · exact fun h _ ih => .lst (h.ext s) ih
  · exact fun h _ ih => .tup (h.ext s) ih
  · exact .nil
  · exact fun _ _ a b => .cons a b
section
variable {X : Cx} {K : PySem.W.Frag}
theorem g_eqD {k : Nat} (hr : Room k X.A) (hK : X.K = K := by rfl) : OpR X (compareOp .Eq) (rEqD K) := by subst hK; exact op_eqD (by have := hr.un; omega)
theorem g_neD {k : Nat} (hr : Room k X.A) (hK : X.K = K := by rfl) : OpR X (compareOp .NotEq) (rNeD K) := by subst hK; exact op_neD (by have := hr.un; omega)
theorem g_neDH {k : Nat} (hr : L2H.RoomH k X.A) (hK : X.K = K := by rfl) : OpR X (compareOp .NotEq) (rNeD K) := by subst hK; exact op_neD (by have := hr.un; omega)
theorem g_inD {k : Nat} (hr : Room k X.A) (hK : X.K = K := by rfl) : OpR X (compareOp .In) (rInD K) := by subst hK; exact op_inD (by have := hr.un; omega)
theorem g_notinD {k : Nat} (hr : Room k X.A) (hK : X.K = K := by rfl) : OpR X (compareOp .NotIn) (rNotInD K) := by subst hK; exact op_notInD (by have := hr.un; omega)
theorem g_revL {e : Expr} {te : TE} {k : Nat} {p1 p2 p3 pos : Pos} (he : PE X e te) (hK : X.K = K := by rfl) : PE X (.Subscript e (.Slice none none (some (.UnaryOp .USub (.Constant (.int 1) k p1) p2)) p3) pos) (tRevL K te) := by subst hK; exact pe_revL he
theorem r_revL {te : TE} {σ : L2.St} {H : Hp} {Q : VK} (h : te σ H fun x H1 => ∃ a xs, x = .ref a ∧ SqL K H1 a xs ∧ ∀ p, H1 p = none → Q (.ref p) (upd H1 p (.lst xs.reverse))) : tRevL K te σ H Q := h
end
end G

set_option Elab.async false
set_option linter.all false
set_option maxRecDepth 100000
set_option maxHeartbeats 4000000
/-! Pd: data of any depth on the heap, by embeddings; readings of fields, unpacked tuples (own work). -/
namespace G
open PySem PySem.Spec PyProof.Rows L2
/-! ### embeddings of plain types into data -/
structure Emb {α : Type} [DecidableEq α] (f : α → PyData) (n : Nat) : Prop where
  eq : ∀ x y, PyData.eqv (f x) (f y) = decide (x = y)
  can : ∀ x, PyData.canLay0 (f x) = true
  dep : ∀ x, PyData.depth (f x) ≤ n
theorem dec_congr {P Q : Prop} [Decidable P] [Decidable Q] (h : P ↔ Q) : decide P = decide Q := by
  by_cases p : P
  · rw [decide_eq_true p, decide_eq_true (h.mp p)]
  · rw [decide_eq_false p, decide_eq_false fun q => p (h.mpr q)]
theorem eqvAll_map {α : Type} [DecidableEq α] {f : α → PyData} (h : ∀ x y, PyData.eqv (f x) (f y) = decide (x = y)) : ∀ xs ys : List α, PyData.eqvAll (xs.map f) (ys.map f) = decide (xs = ys)
  | [], [] => by simp [PyData.eqvAll]
  | [], y :: ys => by simp [PyData.eqvAll]
  | x :: xs, [] => by simp [PyData.eqvAll]
  | x :: xs, y :: ys => by
    rw [List.map_cons, List.map_cons, PyData.eqvAll, h, eqvAll_map h xs ys, ← Bool.decide_and]
    exact dec_congr (by rw [List.cons.injEq])
theorem canAll_map {α : Type} {f : α → PyData} (h : ∀ x, PyData.canLay0 (f x) = true) : ∀ xs : List α, PyData.canLayAll0 (xs.map f) = true
  | [] => by simp [PyData.canLayAll0]
  | x :: xs => by rw [List.map_cons, PyData.canLayAll0, h, canAll_map h xs]; rfl
theorem depAll_map {α : Type} {f : α → PyData} {n : Nat} (h : ∀ x, PyData.depth (f x) ≤ n) : ∀ xs : List α, PyData.depthAll (xs.map f) ≤ n
  | [] => by simp [PyData.depthAll]
  | x :: xs => by
    rw [List.map_cons, PyData.depthAll]
    exact Nat.max_le.mpr ⟨h x, depAll_map h xs⟩
section
variable {α β : Type} [DecidableEq α] [DecidableEq β] {f : α → PyData} {g : β → PyData} {m n : Nat}
theorem Emb.int : Emb PyData.int 0 := ⟨fun x y => by
  rw [PyData.eqv]
  by_cases h : x = y <;> simp [h], fun x => by simp [PyData.canLay0], fun x => by simp [PyData.depth]⟩
theorem Emb.list (e : Emb f n) : Emb (fun xs : List α => PyData.list (xs.map f)) (n + 1) :=
  ⟨fun x y => by rw [PyData.eqv, eqvAll_map e.eq], fun x => by rw [PyData.canLay0, canAll_map e.can], fun x => by rw [PyData.depth]; have := depAll_map e.dep x; omega⟩
theorem Emb.tup (e : Emb f n) : Emb (fun xs : List α => PyData.tuple (xs.map f)) (n + 1) :=
  ⟨fun x y => by rw [PyData.eqv, eqvAll_map e.eq], fun x => by rw [PyData.canLay0, canAll_map e.can], fun x => by rw [PyData.depth]; have := depAll_map e.dep x; omega⟩
theorem Emb.pair (e : Emb f m) (d : Emb g n) : Emb (fun p : α × β => PyData.tuple [f p.1, g p.2]) (m + n + 1) :=
  ⟨fun x y => by
    rw [PyData.eqv, PyData.eqvAll, PyData.eqvAll, PyData.eqvAll, e.eq, d.eq, Bool.and_true, ← Bool.decide_and]
    exact dec_congr (by rw [Prod.ext_iff]), fun x => by rw [PyData.canLay0, PyData.canLayAll0, PyData.canLayAll0, PyData.canLayAll0, e.can, d.can]; rfl,
   fun x => by
    rw [PyData.depth, PyData.depthAll, PyData.depthAll, PyData.depthAll]
    have h1 := e.dep x.1
    have h2 := d.dep x.2
    have h3 : max (f x.1).depth (max (g x.2).depth 0) ≤ m + n := Nat.max_le.mpr ⟨by omega, Nat.max_le.mpr ⟨by omega, by omega⟩⟩
    omega⟩
theorem Emb.sh (e : Emb f n) (hn : n ≤ 64) (x : α) : SeqAt.shaped (f x) = true := by
  have h := e.dep x
  unfold SeqAt.shaped
  rw [e.can, decide_eq_true (by omega)]
  rfl
theorem Emb.any (e : Emb f n) (x : α) : ∀ xs : List α, ((xs.map f).any fun z => PyData.eqv z (f x)) = decide (x ∈ xs)
  | [] => by simp
  | y :: ys => by
    rw [List.map_cons, List.any_cons, e.eq, Emb.any e x ys, ← Bool.decide_or]
    exact dec_congr (by rw [List.mem_cons]; exact ⟨fun h => h.imp Eq.symm id, fun h => h.imp Eq.symm id⟩)
end
/-! ### data on the heap -/
section
variable {K : PySem.W.Frag} {H H' : Hp} {v : V} {vs : List V} {ds : List PyData} {a : Addr}
theorem dpAll_len : ∀ {vs : List V} {ds : List PyData}, DpAll K H vs ds → vs.length = ds.length
  | [], [], _ => rfl
  | _ :: _, _ :: _, .cons _ h => by rw [List.length_cons, List.length_cons, dpAll_len h]
theorem dpAll_get : ∀ {vs : List V} {ds : List PyData} (_ : DpAll K H vs ds) (i : Nat) (v : V) (d : PyData), vs[i]? = some v → ds[i]? = some d → Dp K H v d
  | _ :: _, _ :: _, .cons h _, 0, v, d, h1, h2 => by
    cases h1
    cases h2
    exact h
  | _ :: _, _ :: _, .cons _ h, i + 1, v, d, h1, h2 => dpAll_get h i v d h1 h2
  | [], [], _, i, v, d, h1, _ => by simp at h1
theorem dpAll_of : ∀ {vs : List V} {ds : List PyData}, vs.length = ds.length → (∀ (i : Nat) (v : V) (d : PyData), vs[i]? = some v → ds[i]? = some d → Dp K H v d) → DpAll K H vs ds
  | [], [], _, _ => .nil
  | v :: vs, d :: ds, hl, h => .cons (h 0 v d rfl rfl) (dpAll_of (by simpa using hl) fun i v d h1 h2 => h (i + 1) v d h1 h2)
  | [], _ :: _, hl, _ => by simp at hl
  | _ :: _, [], hl, _ => by simp at hl
theorem dp_int {i : Int} (h : Dp K H v (.int i)) : v = .int i := by cases h; rfl
theorem dp_two {d e : PyData} (h : Dp K H v (.tuple [d, e])) : ∃ p x y, v = .ref p ∧ SqT K H p [x, y] ∧ Dp K H x d ∧ Dp K H y e := by
  cases h with
  | tup hs ha =>
    cases ha with
    | cons h1 r =>
      cases r with
      | cons h2 r =>
        cases r
        exact ⟨_, _, _, rfl, hs, h1, h2⟩
theorem of_two {d e : PyData} {p : Addr} {x y : V} (h : SqT K H p [x, y]) (h1 : Dp K H x d) (h2 : Dp K H y e) : Dp K H (.ref p) (.tuple [d, e]) := .tup h (.cons h1 (.cons h2 .nil))
variable {α : Type} {f : α → PyData} {xs : List α}
theorem dp_tup (h : Dp K H v (.tuple (xs.map f))) : ∃ a vs, v = .ref a ∧ SqT K H a vs ∧ vs.length = xs.length ∧ ∀ (i : Nat) y x, vs[i]? = some y → xs[i]? = some x → Dp K H y (f x) := by
  cases h with
  | tup hs ha => exact ⟨_, _, rfl, hs, by simpa using dpAll_len ha, fun i y x h1 h2 => dpAll_get ha i y _ h1 (by rw [List.getElem?_map, h2]; rfl)⟩
theorem dp_lst (h : Dp K H v (.list (xs.map f))) : ∃ a vs, v = .ref a ∧ SqL K H a vs ∧ vs.length = xs.length ∧ ∀ (i : Nat) y x, vs[i]? = some y → xs[i]? = some x → Dp K H y (f x) := by
  cases h with
  | lst hs ha => exact ⟨_, _, rfl, hs, by simpa using dpAll_len ha, fun i y x h1 h2 => dpAll_get ha i y _ h1 (by rw [List.getElem?_map, h2]; rfl)⟩
theorem of_tup (hs : SqT K H a vs) (hl : vs.length = xs.length) (h : ∀ (i : Nat) y x, vs[i]? = some y → xs[i]? = some x → Dp K H y (f x)) : Dp K H (.ref a) (.tuple (xs.map f)) :=
  .tup hs (dpAll_of (by simpa using hl) fun i v d h1 h2 => by
    rw [List.getElem?_map] at h2
    cases e : xs[i]? with
    | none => rw [e] at h2; cases h2
    | some x => rw [e] at h2; cases h2; exact h i v x h1 e)
theorem of_lst (hs : SqL K H a vs) (hl : vs.length = xs.length) (h : ∀ (i : Nat) y x, vs[i]? = some y → xs[i]? = some x → Dp K H y (f x)) : Dp K H (.ref a) (.list (xs.map f)) :=
  .lst hs (dpAll_of (by simpa using hl) fun i v d h1 h2 => by
    rw [List.getElem?_map] at h2
    cases e : xs[i]? with
    | none => rw [e] at h2; cases h2
    | some x => rw [e] at h2; cases h2; exact h i v x h1 e)
/-- a tuple of ints -/
theorem dp_ints {is : List Int} (h : Dp K H v (.tuple (is.map PyData.int))) : ∃ a, v = .ref a ∧ SqT K H a (is.map V.int) := by
  obtain ⟨a, vs, rfl, hs, hl, hi⟩ := dp_tup h
  have e : vs = is.map V.int := by
    refine List.ext_getElem? fun i => ?_
    rw [List.getElem?_map]
    cases e1 : vs[i]? with
    | none =>
      have : is[i]? = none := List.getElem?_eq_none (by rw [← hl]; exact List.getElem?_eq_none_iff.mp e1)
      rw [this]; rfl
    | some y =>
      have hlt := (List.getElem?_eq_some_iff.mp e1).1
      have e2 : is[i]? = some is[i] := List.getElem?_eq_getElem (by omega)
      rw [e2, dp_int (hi i y _ e1 e2)]; rfl
  rw [e] at hs
  exact ⟨a, rfl, hs⟩
theorem of_ints {is : List Int} (h : SqT K H a (is.map V.int)) : Dp K H (.ref a) (.tuple (is.map PyData.int)) := of_tup h (by simp) fun i y x h1 h2 => by
  rw [List.getElem?_map, h2] at h1
  cases h1
  exact .int x
/-- all the pairs of ints of a tuple -/
theorem pairs_tup {ps : List (Int × Int)} (h : Dp K H v (.tuple (ps.map fun p => PyData.tuple [PyData.int p.1, PyData.int p.2]))) :
    ∃ (a : Addr) (ks : List (Addr × List Int)), v = .ref a ∧ SqT K H a (ks.map fun k => V.ref k.1) ∧ ks.map (·.2) = ps.map (fun p => [p.1, p.2]) ∧ ∀ k ∈ ks, SqT K H k.1 (k.2.map V.int) := by
  cases h with
  | @tup a vs _ hs ha =>
    suffices q : ∀ (ps : List (Int × Int)) (vs : List V), DpAll K H vs (ps.map fun p => PyData.tuple [PyData.int p.1, PyData.int p.2]) → ∃ ks : List (Addr × List Int), vs = ks.map (fun k => V.ref k.1) ∧ ks.map (·.2) = ps.map (fun p => [p.1, p.2]) ∧ ∀ k ∈ ks, SqT K H k.1 (k.2.map V.int) by
      obtain ⟨ks, e, h2, h3⟩ := q ps vs ha
      rw [e] at hs
      exact ⟨a, ks, rfl, hs, h2, h3⟩
    intro ps
    induction ps with
    | nil =>
      intro vs h
      cases h
      exact ⟨[], rfl, rfl, by simp⟩
    | cons p ps ih =>
      intro vs h
      cases h with
      | cons h1 h2 =>
        obtain ⟨ks, rfl, e2, e3⟩ := ih _ h2
        obtain ⟨q, x, y, rfl, hq, hx, hy⟩ := dp_two h1
        rw [dp_int hx, dp_int hy] at hq
        refine ⟨(q, [p.1, p.2]) :: ks, rfl, by rw [List.map_cons, List.map_cons, e2], fun k hk => ?_⟩
        rcases List.mem_cons.mp hk with rfl | hk
        · exact hq
        · exact e3 k hk
end
/-! ### readings -/
section
variable {K : PySem.W.Frag} {σ : L2.St} {H : Hp} {Q : VK} {D : Ends} {te ta tv : TE} {x y v : V} {p a C dx : Addr} {fs : List (Str × V)} {f : Str}
theorem v_unp2 {g1 g2 : TG} {Q : L2.St → Hp → Prop} (h : SqT K H p [x, y]) (k : g1 x σ H fun σ' H' => g2 y σ' H' Q) : gTup K 2 (gCons g1 (gCons g2 gNil)) (.ref p) σ H Q :=
  ⟨p, _, rfl, h, rfl, x, _, rfl, by
    have e : (fun σ' H' => gCons g2 gNil [y] σ' H' Q) = fun σ' H' => ∃ v r, [y] = v :: r ∧ g2 v σ' H' fun σ2 H2 => gNil r σ2 H2 Q := rfl
    have m : ∀ σ' H', g2 y σ' H' Q → gCons g2 gNil [y] σ' H' Q := fun σ' H' z => ⟨y, [], rfl, by
      have e2 : (fun σ2 H2 => gNil [] σ2 H2 Q) = Q := funext fun σ2 => funext fun H2 => propext ⟨fun z => z.2, fun z => ⟨rfl, z⟩⟩
      rw [e2]; exact z⟩
    have e3 : (fun σ' H' => gCons g2 gNil [y] σ' H' Q) = fun σ' H' => g2 y σ' H' Q := funext fun σ' => funext fun H' => propext ⟨fun ⟨v, r, e, z⟩ => by
      cases e
      have e2 : (fun σ2 H2 => gNil [] σ2 H2 Q) = Q := funext fun σ2 => funext fun H2 => propext ⟨fun z => z.2, fun z => ⟨rfl, z⟩⟩
      rw [e2] at z; exact z, m σ' H'⟩
    rw [e3]; exact k⟩
theorem r_fld (h : te σ H fun x H1 => ∃ a C dx fs v, x = .ref a ∧ H1 a = some (.ins C dx fs) ∧ Cls K C ∧ NoAttr K C f ∧ fs.lookup f = some v ∧ Q v H1) : tFld K te f σ H Q := h
theorem v_fld (h : H a = some (.ins C dx fs)) (c : Cls K C) (n : PySem.W.findIn K (.ref C) f = some none) (l : fs.lookup f = some v) (k : Q v H) : ∃ a' C dx fs v, (V.ref a : V) = .ref a' ∧ H a' = some (.ins C dx fs) ∧ Cls K C ∧ NoAttr K C f ∧ fs.lookup f = some v ∧ Q v H := ⟨a, C, dx, fs, v, rfl, h, c, n, l, k⟩
theorem r_sfld (h : tv σ H fun y H1 => ta σ H1 fun x H2 => ∃ a C dx fs, x = .ref a ∧ H2 a = some (.ins C dx fs) ∧ Cls K C ∧ NoAttr K C f ∧ fs.length < 1000 ∧ D.nx σ (upd H2 a (.ins C dx (putF f y fs)))) : sFld K ta tv f D σ H := h
theorem v_eqD {α : Type} [DecidableEq α] {F : α → PyData} {n : Nat} (e : Emb F n) (hn : n ≤ 64) {u v : α} (h1 : Dp K H x (F u)) (h2 : Dp K H y (F v)) (k : Q (.bl (decide (u = v))) H) : rEqD K x y H Q := ⟨_, _, h1, h2, e.sh hn _, e.sh hn _, by rw [e.eq]; exact k⟩
theorem v_neD {α : Type} [DecidableEq α] {F : α → PyData} {n : Nat} (e : Emb F n) (hn : n ≤ 64) {u v : α} (h1 : Dp K H x (F u)) (h2 : Dp K H y (F v)) (k : Q (.bl (!decide (u = v))) H) : rNeD K x y H Q := ⟨_, _, h1, h2, e.sh hn _, e.sh hn _, by rw [e.eq]; exact k⟩
theorem v_inD {α : Type} [DecidableEq α] {F : α → PyData} {n : Nat} (e : Emb F n) (hn : n ≤ 63) {u : α} {us : List α} [Decidable (u ∈ us)] (h1 : Dp K H x (F u)) (h2 : Dp K H y (.list (us.map F))) (k : Q (.bl (decide (u ∈ us))) H) : rInD K x y H Q :=
  ⟨_, _, h1, h2, e.sh (by omega) _, e.list.sh (by omega) us, by
    have z : ∀ b, b = decide (u ∈ us) → Q (.bl b) H := by rintro _ rfl; exact k
    exact z _ (by rw [e.any]; exact @dec_congr _ _ (_) (_) Iff.rfl)⟩
theorem v_notinD {α : Type} [DecidableEq α] {F : α → PyData} {n : Nat} (e : Emb F n) (hn : n ≤ 63) {u : α} {us : List α} [Decidable (u ∈ us)] (h1 : Dp K H x (F u)) (h2 : Dp K H y (.list (us.map F))) (k : Q (.bl (!decide (u ∈ us))) H) : rNotInD K x y H Q :=
  ⟨_, _, h1, h2, e.sh (by omega) _, e.list.sh (by omega) us, by
    have z : ∀ b, b = decide (u ∈ us) → Q (.bl (!b)) H := by rintro _ rfl; exact k
    exact z _ (by rw [e.any]; exact @dec_congr _ _ (_) (_) Iff.rfl)⟩
theorem r_lenSetT (h : te σ H fun x H1 => ∃ (l : Addr) (ks : List (Addr × List Int)), x = V.ref l ∧ SqT K H1 l (ks.map fun p => V.ref p.1) ∧ (∀ p ∈ ks, SqT K H1 p.1 (p.2.map V.int)) ∧ ks.length < 64 ∧
  ∀ n : Nat, (∃ L : List (List Int), L.Nodup ∧ L.length = n ∧ (∀ k, k ∈ L ↔ k ∈ ks.map (·.2))) → Q (.int n) H1) : tLenSetT K te σ H Q := h
/-- tuple(l), l a new list of a comprehension: nothing else asked -/
theorem v_tupL {xs : List V} (h : H p = some (.lst xs)) (k : ∀ l, H l = none → Q (.ref l) (upd H l (.tup xs))) : gTupl K [.ref p] H Q := ⟨p, xs, rfl, .inl ⟨SqL.of h, k⟩⟩
theorem un64 {k : Nat} {A : Around} (hr : Room k A) : A.units + 64 < cLine := by have := hr.un; omega
theorem un65 {k : Nat} {A : Around} (hr : Room k A) : A.units + 65 < cLine := by have := hr.un; omega
theorem op_eqDK {X : Cx} (hu : X.A.units + 64 < cLine) (hK : X.K = K := by rfl) : OpR X (compareOp .Eq) (rEqD K) := by subst hK; exact op_eqD hu
theorem op_neDK {X : Cx} (hu : X.A.units + 64 < cLine) (hK : X.K = K := by rfl) : OpR X (compareOp .NotEq) (rNeD K) := by subst hK; exact op_neD hu
theorem op_inDK {X : Cx} (hu : X.A.units + 65 < cLine) (hK : X.K = K := by rfl) : OpR X (compareOp .In) (rInD K) := by subst hK; exact op_inD hu
theorem op_notInDK {X : Cx} (hu : X.A.units + 65 < cLine) (hK : X.K = K := by rfl) : OpR X (compareOp .NotIn) (rNotInD K) := by subst hK; exact op_notInD hu
end
theorem short_of {α : Type} [DecidableEq α] : ∀ ps : List α, ¬ ps.Nodup → ∃ qs : List α, qs.length < ps.length ∧ ∀ k, k ∈ ps → k ∈ qs
  | [], h => absurd List.nodup_nil h
  | a :: l, h => by
    by_cases m : a ∈ l
    · refine ⟨l, by simp, fun k hk => ?_⟩
      rcases List.mem_cons.mp hk with rfl | hk
      · exact m
      · exact hk
    · obtain ⟨qs, h1, h2⟩ := short_of l fun n => h (List.nodup_cons.mpr ⟨m, n⟩)
      refine ⟨a :: qs, by simpa using h1, fun k hk => ?_⟩
      rcases List.mem_cons.mp hk with rfl | hk
      · exact List.mem_cons_self
      · exact List.mem_cons_of_mem _ (h2 k hk)
/-- the number of distinct members -/
theorem nodup_card {ps : List (Int × Int)} {L : List (List Int)} (h1 : L.Nodup) (h2 : ∀ k, k ∈ L ↔ k ∈ ps.map fun p => [p.1, p.2]) : L.length < ps.length ↔ ¬ ps.Nodup := by
  have inj : ∀ p q : Int × Int, [p.1, p.2] = [q.1, q.2] → p = q := fun p q h => by
    injection h with a b
    injection b with b _
    exact Prod.ext a b
  have sub1 : L ⊆ ps.map fun p => [p.1, p.2] := fun k hk => (h2 k).mp hk
  have le : L.length ≤ ps.length := by
    have := h1.length_le_of_subset sub1
    rwa [List.length_map] at this
  constructor
  · intro hlt hn
    have hm : (ps.map fun p => [p.1, p.2]).Nodup := List.Pairwise.map _ (fun a b h e => h (inj a b e)) hn
    have := hm.length_le_of_subset (fun k hk => (h2 k).mpr hk)
    rw [List.length_map] at this
    omega
  · intro hn
    obtain ⟨qs, q1, q2⟩ := short_of ps hn
    have := h1.length_le_of_subset (l₂ := qs.map fun p => [p.1, p.2]) fun k hk => by
      obtain ⟨p, hp, rfl⟩ := List.mem_map.mp ((h2 k).mp hk)
      exact List.mem_map_of_mem (q2 p hp)
    rw [List.length_map] at this
    omega
/-- f'text{v}' in such an __init__ -/
theorem fmt2 {p : Str} (hp : p.length ≤ 1000) {a : Addr} {v : V} {H : Hp} {R : VK} (hv : FmtV v) (k : ∀ z : Str, R (.str z) H) : tJs [tC (.str p), tFmt (tVar 1)] Str.empty [some (.ref a), some v] H fun out H1 => R (.str out) H1 := by
  have e0 : (Str.empty ++ p).length ≤ 1000 := by rw [slen_app]; have : Str.empty.length = 0 := rfl; omega
  refine ⟨p, rfl, by rw [line_val]; omega, ?_⟩
  cases v with
  | int i =>
    refine ⟨_, rfl, .inr ⟨i, rfl, hv, _, rfl, ?_, k _⟩⟩
    have e := int_text_length_le (k := 1920) (by decide) hv
    rw [slen_app, line_val]
    show _ + (Str.ofString (toString i)).length ≤ _
    rw [PySem.ofString_length]
    omega
  | str z =>
    have hz : z.length ≤ 1000 := hv
    refine ⟨_, rfl, .inl ⟨z, rfl, by rw [line_val]; omega, _, rfl, ?_, k _⟩⟩
    rw [slen_app, line_val]
    omega
  | _ => exact hv.elim
/-! ### new data -/
/-- what is new in H', and of what was there in H that of Hb -/
def mx (Hb H H' : Hp) : Hp := fun b => match H b with
  | none => H' b
  | some _ => Hb b
abbrev nw (H H' : Hp) : Hp := mx (fun _ => none) H H'
theorem mx_new {Hb H H' : Hp} {b : Addr} (h : H b = none) : mx Hb H H' b = H' b := by unfold mx; rw [h]
theorem mx_old {Hb H H' : Hp} {b : Addr} {o : HO} (h : H b = some o) : mx Hb H H' b = Hb b := by unfold mx; rw [h]
theorem Same.over {H H' : Hp} {p : Addr} {o : HO} (s : Same H H') (n : H p = none) : Same H (upd H' p o) := fun b u e => by
  rw [upd_ne (ne_of_none e n)]
  exact s b u e
theorem same_none {H H' : Hp} {b : Addr} (s : Same H H') (n : H' b = none) : H b = none := by
  cases e : H b with
  | none => rfl
  | some o => rw [s b o e] at n; cases n
theorem mx_same {Hb H H' : Hp} (sb : Same Hb H) (s : Same H H') : Same (mx Hb H H') H' := fun b o e => by
  cases h : H b with
  | none => rwa [mx_new h] at e
  | some u =>
    rw [mx_old h] at e
    exact s _ _ (sb _ _ e)
theorem mx_base {Hb H H' : Hp} (sb : Same Hb H) : Same Hb (mx Hb H H') := fun b o e => by rw [mx_old (sb _ _ e)]; exact e
theorem mx_mono {Hb H H1 H2 : Hp} (s : Same H1 H2) : Same (mx Hb H H1) (mx Hb H H2) := fun b o e => by
  cases h : H b with
  | none => rw [mx_new h] at e ⊢; exact s _ _ e
  | some u => rw [mx_old h] at e ⊢; exact e
/-- new since H1 is new since H -/
theorem mx_back {Hb H H1 H2 : Hp} (sb : Same Hb H) (s : Same H H1) : Same (mx Hb H1 H2) (mx Hb H H2) := fun b o e => by
  cases h : H1 b with
  | none => rw [mx_new h] at e; rw [mx_new (same_none s h)]; exact e
  | some u => rw [mx_old h] at e; rw [mx_old (sb _ _ e)]; exact e
theorem mx_self {H H' : Hp} (s : Same H H') : Same H' (mx H H H') := fun b o e => by
  cases h : H b with
  | none => rw [mx_new h]; exact e
  | some u => rw [mx_old h]; rw [s _ _ h] at e; rw [h]; exact e
theorem same_nil {H : Hp} : Same (fun _ => none) H := fun b o e => by cases e
theorem del_le {H : Hp} {D : Addr} : Same (del H D) H := fun b o e => by
  by_cases h : b = D
  · rw [h, del_same] at e; cases e
  · rwa [del_ne h] at e
theorem Same.del {H H' : Hp} {D : Addr} (s : Same H H') : Same (del H D) (del H' D) := fun b o e => by
  by_cases h : b = D
  · rw [h, del_same] at e; cases e
  · rw [del_ne h] at e ⊢; exact s _ _ e
theorem Same.out {H H' : Hp} {D : Addr} (s : Same H H') (n : H D = Option.none) : Same H (L2.del H' D) := fun b o e => by
  show L2.del H' D b = _
  rw [del_ne (ne_of_none e n)]
  exact s _ _ e
/-- what a comprehension has made so far: H the heap ahead of it, Hb what of it the items may hold -/
def WD (K : PySem.W.Frag) (Hb H : Hp) {α : Type} (f : α → PyData) (xs : List α) : Addr → Nat → List V → Hp → Prop := fun D i acc H' => Same H H' ∧ acc.length = i ∧ ∀ (j : Nat) y a, acc[j]? = some y → xs[j]? = some a → Dp K (L2.del (mx Hb H H') D) y (f a)
theorem lcD_next {K : PySem.W.Frag} {Hb H H1 H4 : Hp} {α : Type} {f : α → PyData} {xs : List α} {D : Addr} {i : Nat} {acc : List V} {a : α} {v : V} (sb : Same Hb H) (hD : H D = none) (hx : xs[i]? = some a) (hW : WD K Hb H f xs D i acc H1) (hL : H1 D = some (.lst acc)) (hz : xs.length ≤ 1000000)
    (s4 : Same H1 H4) (d4 : Dp K (mx Hb H1 H4) v (f a)) : LcNx (WD K Hb H f xs) D (i + 1) v H4 := by
  obtain ⟨s1, hc, ha⟩ := hW
  have hi : i < xs.length := (List.getElem?_eq_some_iff.mp hx).1
  have e0 : L2.del (mx Hb H (upd H4 D (.lst (acc ++ [v])))) D = L2.del (mx Hb H H4) D := funext fun b => by
    by_cases h : b = D
    · rw [h, del_same, del_same]
    · rw [del_ne h, del_ne h]
      cases e : H b with
      | none => rw [mx_new e, mx_new e, upd_ne h]
      | some u => rw [mx_old e, mx_old e]
  refine lc_next (s4 _ _ hL) (by rw [line_val]; omega) ⟨Same.over (s1.trans s4) hD, by simp [hc], fun j y b hj hb => ?_⟩
  rw [e0]
  by_cases hji : j < acc.length
  · rw [List.getElem?_append_left hji] at hj
    exact Dp.same (Same.del (mx_mono s4)) _ _ (ha j y b hj hb)
  · have hlt := (List.getElem?_eq_some_iff.mp hj).1
    rw [List.length_append, List.length_singleton] at hlt
    obtain rfl : j = acc.length := by omega
    rw [List.getElem?_append_right (Nat.le_refl _), Nat.sub_self] at hj
    cases hj
    subst hc
    rw [hx] at hb
    cases hb
    refine Dp.same (fun b o e => ?_) _ _ d4
    have q := mx_back sb s1 b o e
    by_cases h : b = D
    · subst h
      rw [mx_old hL] at e
      rw [sb _ _ e] at hD
      cases hD
    · rw [del_ne h]; exact q
theorem lcD {K : PySem.W.Frag} {σ : L2.St} {H : Hp} {Q : VK} {J : It} {n : Nat} {G : Hp → Prop} {Y : Nat → Hp → V → Hp → Prop} (w : Walk J n G Y) {g : TG} {tt : TT} {te : TE} {vs : List Nat} {α : Type} {f : α → PyData} (xs : List α) (Hb : Hp) (hn : xs.length = n) (hG : ∀ H', Same H H' → G H')
    (ws : ∀ D i a x acc H1 H2, H D = none → xs[i]? = some a → WD K Hb H f xs D i acc H1 → H1 D = some (.lst acc) → Y i H1 x H2 → g x (wipe σ vs) H2 fun σ2 H2 => wipe σ2 vs = wipe σ vs ∧ tt σ2 H2 fun b H3 =>
      if b = true then te σ2 H3 fun y H4 => LcNx (WD K Hb H f xs) D (i + 1) y H4 else LcSk (WD K Hb H f xs) D (i + 1) H3)
    (wd : ∀ D H' ys, H D = none → Same H H' → H' D = some (.lst ys) → Dp K (mx Hb H H') (.ref D) (.list (xs.map f)) → (∀ l, H' l = none → Dp K (mx Hb H (upd H' l (.tup ys))) (.ref l) (.tuple (xs.map f))) → Q (.ref D) H') :
    LcIs J H g tt te vs σ Q := by
  refine l_lc w (WD K Hb H f xs) (fun D hD => ⟨Same.over (Same.refl H) hD, rfl, fun j y a h => by simp at h⟩) (fun D i acc H' hD ⟨s, _⟩ => hG H' s) ?_ ?_
  · rintro D i acc x H1 H2 hD hi hW hL y
    exact ws D i _ x acc H1 H2 hD (List.getElem?_eq_getElem (by omega)) hW hL y
  · rintro D ys H' hD ⟨s1, hc, ha⟩ hL
    refine wd D H' ys hD s1 hL ?_ fun l hl => ?_
    · refine of_lst (SqL.of (by rw [mx_new hD]; exact hL)) (by omega) fun i y x h1 h2 => ?_
      exact Dp.same del_le _ _ (ha i y x h1 h2)
    · refine of_tup (SqT.of (by rw [mx_new (same_none s1 hl)]; exact upd_same)) (by omega) fun i y x h1 h2 => ?_
      exact Dp.same (fun b o e => mx_mono (Same.over (Same.refl H') hl) b o (del_le b o e)) _ _ (ha i y x h1 h2)
/-! slices of lists -/
theorem v_slLs {K : PySem.W.Frag} {H : Hp} {Q : VK} {p : Addr} {xs : List V} {lo hi : Option Int} (h : SqL K H p xs) (k : ∀ l, H l = none → Q (.ref l) (upd H l (.lst (cutV xs lo hi)))) : gSl K (.ref p) lo hi H Q := .inl ⟨p, xs, rfl, h, k⟩
theorem cut_take {xs : List V} {n : Nat} : cutV xs none (some (n : Int)) = xs.take n := by
  unfold cutV
  have e1 : HT.sIx xs.length 0 none = 0 := rfl
  rw [e1, List.drop_zero, Nat.sub_zero]
  have e2 : HT.sIx xs.length xs.length (some (n : Int)) = min n xs.length := HT.sIx_nat _ _ _
  rw [e2]
  by_cases h : n ≤ xs.length
  · rw [Nat.min_eq_left h]
  · rw [Nat.min_eq_right (by omega), List.take_of_length_le (Nat.le_refl _), List.take_of_length_le (by omega)]
theorem cut_drop {xs : List V} {n : Nat} : cutV xs (some (n : Int)) none = xs.drop n := by
  unfold cutV
  have e1 : HT.sIx xs.length xs.length none = xs.length := rfl
  have e2 : HT.sIx xs.length 0 (some (n : Int)) = min n xs.length := HT.sIx_nat _ _ _
  rw [e1, e2]
  by_cases h : n ≤ xs.length
  · rw [Nat.min_eq_left h, List.take_of_length_le (by rw [List.length_drop]; omega)]
  · rw [Nat.min_eq_right (by omega), List.drop_of_length_le (Nat.le_refl _), List.drop_of_length_le (by omega)]
    simp
/-! ### the heap with some objects hidden: those that the law still writes -/
def hid (H : Hp) (L : List Addr) : Hp := fun b => if b ∈ L then none else H b
theorem hid_out {H : Hp} {L : List Addr} {b : Addr} (h : b ∉ L) : hid H L b = H b := if_neg h
theorem hid_in {H : Hp} {L : List Addr} {b : Addr} (h : b ∈ L) : hid H L b = none := if_pos h
theorem hid_le {H : Hp} {L : List Addr} : Same (hid H L) H := fun b o e => by
  by_cases h : b ∈ L
  · rw [hid_in h] at e; cases e
  · rwa [hid_out h] at e
theorem hid_upd {H : Hp} {L : List Addr} {q : Addr} {o : HO} (h : q ∈ L) : hid (upd H q o) L = hid H L := funext fun b => by
  by_cases hb : b ∈ L
  · rw [hid_in hb, hid_in hb]
  · rw [hid_out hb, hid_out hb, upd_ne fun z => hb (by rw [z]; exact h)]
theorem hid_eq {H H' : Hp} {L : List Addr} {q : Addr} (h : q ∈ L) (e : ∀ b, b ≠ q → H' b = H b) : hid H' L = hid H L := funext fun b => by
  by_cases hb : b ∈ L
  · rw [hid_in hb, hid_in hb]
  · rw [hid_out hb, hid_out hb, e b fun z => hb (by rw [z]; exact h)]
theorem hid_new {H : Hp} {L : List Addr} {q : Addr} {o : HO} (h : H q = none) : Same (hid H L) (hid (upd H q o) L) := fun b u e => by
  by_cases hb : b ∈ L
  · rw [hid_in hb] at e; cases e
  · rw [hid_out hb] at e ⊢
    rw [upd_ne (ne_of_none e h)]; exact e
theorem hid_same {H H' : Hp} {L : List Addr} (s : Same H H') : Same (hid H L) (hid H' L) := fun b u e => by
  by_cases hb : b ∈ L
  · rw [hid_in hb] at e; cases e
  · rw [hid_out hb] at e ⊢; exact s _ _ e
theorem hid_sub {H : Hp} {L L' : List Addr} (h : ∀ b ∈ L', b ∈ L) : Same (hid H L) (hid H L') := fun b u e => by
  by_cases hb : b ∈ L
  · rw [hid_in hb] at e; cases e
  · rw [hid_out hb] at e
    rw [hid_out fun z => hb (h b z)]; exact e
theorem hid_more {H : Hp} {L L' : List Addr} {q : Addr} {o : HO} (hq : H q = none) (h : ∀ b ∈ L', b ∈ L ∨ b = q) : Same (hid H L) (hid (upd H q o) L') := fun b u e => by
  by_cases hb : b ∈ L
  · rw [hid_in hb] at e; cases e
  · rw [hid_out hb] at e
    have n := ne_of_none e hq
    rw [hid_out fun z => (h b z).elim hb n, upd_ne n]; exact e
/-- the list at R holds the data xs, its items ys; L is hidden (R among it) -/
structure LstS (K : PySem.W.Frag) (H : Hp) (L : List Addr) (R : Addr) {α : Type} (f : α → PyData) (xs : List α) (ys : List V) : Prop where
  at_ : H R = some (.lst ys)
  len : ys.length = xs.length
  it : ∀ (i : Nat) y x, ys[i]? = some y → xs[i]? = some x → Dp K (hid H L) y (f x)
section
variable {K : PySem.W.Frag} {H H' : Hp} {L L' : List Addr} {R q : Addr} {α : Type} {f : α → PyData} {xs : List α} {ys : List V} {x : α} {y : V} {o : HO}
theorem LstS.nil (h : H R = some (.lst [])) : LstS K H L R f [] [] := ⟨h, rfl, fun i y x h => by simp at h⟩
theorem LstS.grow (a : LstS K H L R f xs ys) (h : H' R = some (.lst ys)) (s : Same (hid H L) (hid H' L')) : LstS K H' L' R f xs ys := ⟨h, a.len, fun i y x h1 h2 => Dp.same s _ _ (a.it i y x h1 h2)⟩
theorem LstS.but (a : LstS K H L R f xs ys) (h : q ∈ L) (n : R ≠ q) (e : ∀ b, b ≠ q → H' b = H b) : LstS K H' L R f xs ys := a.grow ((e R n).trans a.at_) (by rw [hid_eq h e]; exact Same.refl _)
theorem LstS.new (a : LstS K H L R f xs ys) (h : H q = none) : LstS K (upd H q o) L R f xs ys := a.grow (by rw [upd_ne (ne_of_none a.at_ h)]; exact a.at_) (hid_new h)
theorem LstS.other (a : LstS K H L R f xs ys) (h : q ∈ L) (n : R ≠ q) : LstS K (upd H q o) L R f xs ys := a.grow (by rw [upd_ne n]; exact a.at_) (by rw [hid_upd h]; exact Same.refl _)
theorem LstS.more (a : LstS K H L R f xs ys) (h : H q = none) (hl : ∀ b ∈ L', b ∈ L ∨ b = q) : LstS K (upd H q o) L' R f xs ys := a.grow (by rw [upd_ne (ne_of_none a.at_ h)]; exact a.at_) (hid_more h hl)
theorem LstS.less (a : LstS K H L R f xs ys) (hl : ∀ b ∈ L', b ∈ L) : LstS K H L' R f xs ys := a.grow a.at_ (hid_sub hl)
theorem LstS.app (a : LstS K H L R f xs ys) (h : R ∈ L) (d : Dp K (hid H L) y (f x)) : LstS K (upd H R (.lst (ys ++ [y]))) L R f (xs ++ [x]) (ys ++ [y]) := ⟨upd_same, by rw [List.length_append, List.length_append, a.len]; rfl, fun i u z h1 h2 => by
  rw [hid_upd h]
  by_cases hi : i < ys.length
  · rw [List.getElem?_append_left hi] at h1
    rw [List.getElem?_append_left (by rw [← a.len]; exact hi)] at h2
    exact a.it i u z h1 h2
  · rw [List.getElem?_append_right (by omega)] at h1
    rw [List.getElem?_append_right (by rw [← a.len]; omega), ← a.len] at h2
    have e : i - ys.length = 0 := by
      have := (List.getElem?_eq_some_iff.mp h1).1
      rw [List.length_singleton] at this
      omega
    rw [e] at h1 h2
    cases h1
    cases h2
    exact d⟩
theorem LstS.put (a : LstS K H L R f xs ys) {n : Nat} (h : R ∈ L) (d : Dp K (hid H L) y (f x)) : LstS K (upd H R (.lst (ys.set n y))) L R f (xs.set n x) (ys.set n y) := ⟨upd_same, by rw [List.length_set, List.length_set, a.len], fun i u z h1 h2 => by
  rw [hid_upd h]
  by_cases hi : n = i
  · subst hi
    have h3 := (List.getElem?_eq_some_iff.mp h1).1
    rw [List.length_set] at h3
    rw [List.getElem?_set_self h3] at h1
    rw [List.getElem?_set_self (by rw [← a.len]; exact h3)] at h2
    cases h1
    cases h2
    exact d
  · rw [List.getElem?_set_ne hi] at h1 h2
    exact a.it i u z h1 h2⟩
theorem LstS.fin (a : LstS K H L R f xs ys) (hl : ∀ b ∈ L', b ∈ L) (h : R ∉ L') : Dp K (hid H L') (.ref R) (.list (xs.map f)) := of_lst (SqL.of (by rw [hid_out h]; exact a.at_)) a.len fun i y x h1 h2 => Dp.same (hid_sub hl) _ _ (a.it i y x h1 h2)
end
/-! ### l + m, lists that are read -/
def rCatS (K : PySem.W.Frag) : R2 := fun x y H Q => ∃ l b xs zs, x = .ref l ∧ y = .ref b ∧ SqL K H l xs ∧ SqL K H b zs ∧ xs.length + zs.length ≤ sizeLine ∧ ∀ p, H p = none → Q (.ref p) (upd H p (.lst (xs ++ zs)))
theorem g_catS {X : Cx} {K : PySem.W.Frag} (hK : X.K = K := by rfl) : OpR X (binaryOp .Add) (rCatS K) := by
  subst hK
  intro pins s σ H x y v u Q I rx ry h
  obtain ⟨l, b, xs, zs, rfl, rfl, hH, hB, hz, q⟩ := h
  cases rx
  cases ry
  obtain ⟨its, r, ⟨⟨cls, dd, data, sl⟩, n, ho, hc, hdn, hd⟩, hl⟩ := I.list hH
  obtain ⟨its2, r2, ⟨⟨cls2, dd2, data2, sl2⟩, n2, ho2, hc2, hdn2, hd2⟩, hl2⟩ := I.list hB
  simp only at hc hd hc2 hd2
  subst hc hd hc2 hd2
  have e : its.toArray ++ its2.toArray = (its ++ its2).toArray := by simp
  have k1 := r.length
  have k2 := r2.length
  refine concat_meets ⟨_, ho, rfl⟩ ⟨_, ho2, rfl⟩ noFill_list_add seq_list_add PySem.F.slot_list_add PySem.F.entry_list_add (PySem.F.args_list_add_2 _ _) (list_addW l b its.toArray its2.toArray n n2 dd dd2 sl sl2 (by rw [List.size_toArray, List.size_toArray]; omega)) ⟨ho, ho2, ?_⟩
  rw [e]
  exact ⟨.ref _, _, I.lnew (t' := s.toks) (r.append r2) (by rw [List.length_append]; omega), rfl, q _ I.fresh⟩
theorem v_catS {K : PySem.W.Frag} {H : Hp} {Q : VK} {p q : Addr} {xs ys : List V} (h1 : SqL K H p xs) (h2 : SqL K H q ys) (h : xs.length + ys.length ≤ sizeLine) (k : ∀ l, H l = none → Q (.ref l) (upd H l (.lst (xs ++ ys)))) : rCatS K (.ref p) (.ref q) H Q := ⟨p, q, xs, ys, rfl, rfl, h1, h2, h, k⟩
theorem t_lstS {K : PySem.W.Frag} {H : Hp} {R : Bool → Prop} {p : Addr} {xs : List V} (l : SqL K H p xs) (h : R (!xs.isEmpty)) : ∃ k, TruV K (.ref p) H k ∧ R k := ⟨_, .inl ⟨xs, l, rfl⟩, h⟩
end G

set_option Elab.async false
set_option linter.all false
set_option maxRecDepth 100000
set_option maxHeartbeats 4000000
/-! A1: abstract values: data as trees, objects that are still written in a short memory; how they stand on the heap (own work). -/
namespace AV
open PySem PySem.Spec PyProof.Rows L2 G
/-- a value as a tree; r: what is named by its place (an object that is still written, a class, a def) -/
inductive D where
  | non | bl (b : Bool) | int (i : Int) | str (s : Str) | ty (n : String) | r (a : Addr)
  | tup (ds : List D) | lst (ds : List D) | ins (C : Addr) (fs : List (Str × D))
  /-- a list that is only read (the script) -/
  | scr (ds : List D)
  /-- a tuple that is known to have no dict -/
  | tz (ds : List D)
/-- an object that may be written -/
inductive Ob where
  | lst (ds : List D) | ins (C : Addr) (fs : List (Str × D)) | xd (fs : List (Str × D)) | dct (fs : List (Str × D))
abbrev Mem := List (Addr × Ob)
abbrev AS := List (Option D)
abbrev AQ := D → Mem → Prop
def Ob.toD : Ob → D
  | .lst ds => .lst ds
  | .ins C fs => .ins C fs
  | .xd _ => .non
  | .dct _ => .non
/-- may be told as data -/
def Ob.fzb : Ob → Bool
  | .lst _ => true
  | .ins _ _ => true
  | _ => false
/-- a dict's items, by texts -/
abbrev inrK (vfs : List (Str × V)) : List (Key × V) := vfs.map fun p => (Sum.inr p.1, p.2)
section
variable (K : PySem.W.Frag)
inductive Rv (F : Hp) : V → D → Prop
  | non : Rv F .non .non
  | bl (b : Bool) : Rv F (.bl b) (.bl b)
  | int (i : Int) : Rv F (.int i) (.int i)
  | str (z : Str) : Rv F (.str z) (.str z)
  | ty (n : String) : Rv F (.ty n) (.ty n)
  | r (a : Addr) : Rv F (.ref a) (.r a)
  | tup {a : Addr} {vs : List V} {ds : List D} : SqT K F a vs → vs.length = ds.length → (∀ (i : Nat) v d, vs[i]? = some v → ds[i]? = some d → Rv F v d) → Rv F (.ref a) (.tup ds)
  | scr {a : Addr} {vs : List V} {ds : List D} : SqL K F a vs → vs.length = ds.length → (∀ (i : Nat) v d, vs[i]? = some v → ds[i]? = some d → Rv F v d) → Rv F (.ref a) (.scr ds)
  | tz {a : Addr} {o : Obj} {vs : List V} {ds : List D} : F a = some (.frz o (.tup vs)) → o.dict = none → vs.length = ds.length → (∀ (i : Nat) v d, vs[i]? = some v → ds[i]? = some d → Rv F v d) → Rv F (.ref a) (.tz ds)
  | lst {a : Addr} {vs : List V} {ds : List D} : F a = some (.lst vs) → vs.length = ds.length → (∀ (i : Nat) v d, vs[i]? = some v → ds[i]? = some d → Rv F v d) → Rv F (.ref a) (.lst ds)
  | ins {a C dx : Addr} {vfs : List (Str × V)} {fs : List (Str × D)} : F a = some (.ins C dx vfs) → vfs.length = fs.length → (∀ (i : Nat) p q, vfs[i]? = some p → fs[i]? = some q → p.1 = q.1) → (∀ (i : Nat) p q, vfs[i]? = some p → fs[i]? = some q → Rv F p.2 q.2) → Rv F (.ref a) (.ins C fs)
def RvL (F : Hp) (vs : List V) (ds : List D) : Prop := vs.length = ds.length ∧ ∀ (i : Nat) v d, vs[i]? = some v → ds[i]? = some d → Rv K F v d
def RvF (F : Hp) (vfs : List (Str × V)) (fs : List (Str × D)) : Prop := vfs.length = fs.length ∧ ∀ (i : Nat) p q, vfs[i]? = some p → fs[i]? = some q → p.1 = q.1 ∧ Rv K F p.2 q.2
def RO (F H : Hp) (a : Addr) : Ob → Prop
  | .lst ds => ∃ vs, H a = some (.lst vs) ∧ RvL K F vs ds
  | .ins C fs => ∃ dx vfs, H a = some (.ins C dx vfs) ∧ RvF K F vfs fs
  | .xd fs => ∃ vfs, H a = some (.xd vfs) ∧ RvF K F vfs fs
  | .dct fs => ∃ vfs, H a = some (.dK (inrK vfs)) ∧ RvF K F vfs fs ∧ (fs.map (·.1)).Nodup
/-- the memory M and the part F that is never written again, on the heap H -/
structure Fr (M : Mem) (F H : Hp) : Prop where
  sub : Same F H
  out : ∀ p ∈ M, F p.1 = none
  nod : (M.map (·.1)).Nodup
  at_ : ∀ p ∈ M, RO K F H p.1 p.2
def Rs (F : Hp) (xs : AS) (σ : L2.St) : Prop := xs.length = σ.length ∧ ∀ (i : Nat) d, xs[i]? = some (some d) → ∃ v, σ[i]? = some (some v) ∧ Rv K F v d
end
section
variable {K : PySem.W.Frag} {F F' H H' : Hp} {M M' : Mem} {a b : Addr} {o o' : Ob} {v : V} {d : D} {vs : List V} {ds : List D} {vfs : List (Str × V)} {fs : List (Str × D)} {xs : AS} {σ : L2.St}
theorem Rv.same (s : Same F F') (h : Rv K F v d) : Rv K F' v d := by
  induction h with
  | non => exact .non
  | bl b => exact .bl b
  | int i => exact .int i
  | str z => exact .str z
  | ty n => exact .ty n
  | r a => exact .r a
  | tup h1 h2 _ ih => exact .tup (h1.ext s) h2 fun i v d e1 e2 => ih i v d e1 e2
  | scr h1 h2 _ ih => exact .scr (h1.ext s) h2 fun i v d e1 e2 => ih i v d e1 e2
  | tz h1 h2 h3 _ ih => exact .tz (s _ _ h1) h2 h3 fun i v d e1 e2 => ih i v d e1 e2
  | lst h1 h2 _ ih => exact .lst (s _ _ h1) h2 fun i v d e1 e2 => ih i v d e1 e2
  | ins h1 h2 h3 _ ih => exact .ins (s _ _ h1) h2 h3 ih
theorem RvL.same (s : Same F F') (h : RvL K F vs ds) : RvL K F' vs ds := ⟨h.1, fun i v d e1 e2 => (h.2 i v d e1 e2).same s⟩
theorem RvF.same (s : Same F F') (h : RvF K F vfs fs) : RvF K F' vfs fs := ⟨h.1, fun i p q e1 e2 => ⟨(h.2 i p q e1 e2).1, (h.2 i p q e1 e2).2.same s⟩⟩
theorem Rs.same (s : Same F F') (h : Rs K F xs σ) : Rs K F' xs σ := ⟨h.1, fun i d e => by
  obtain ⟨v, e1, r⟩ := h.2 i d e
  exact ⟨v, e1, r.same s⟩⟩
theorem RvL.nil : RvL K F [] [] := ⟨rfl, fun i v d h => by simp at h⟩
theorem RvL.cons (h1 : Rv K F v d) (h2 : RvL K F vs ds) : RvL K F (v :: vs) (d :: ds) := ⟨by simp [h2.1], fun i w e e1 e2 => by
  cases i with
  | zero => cases e1; cases e2; exact h1
  | succ i => exact h2.2 i w e (by simpa using e1) (by simpa using e2)⟩
theorem RvL.inv_nil (h : RvL K F vs []) : vs = [] := List.eq_nil_of_length_eq_zero h.1
theorem RvL.inv (h : RvL K F vs (d :: ds)) : ∃ v vs', vs = v :: vs' ∧ Rv K F v d ∧ RvL K F vs' ds := by
  cases vs with
  | nil => have := h.1; simp at this
  | cons v vs => exact ⟨v, vs, rfl, h.2 0 v d rfl rfl, by have := h.1; simpa using this, fun i w e e1 e2 => h.2 (i + 1) w e (by simpa using e1) (by simpa using e2)⟩
theorem RvL.append {vs' : List V} {ds' : List D} (h1 : RvL K F vs ds) (h2 : RvL K F vs' ds') : RvL K F (vs ++ vs') (ds ++ ds') := ⟨by simp [h1.1, h2.1], fun i v d e1 e2 => by
  by_cases hi : i < vs.length
  · rw [List.getElem?_append_left hi] at e1
    rw [List.getElem?_append_left (by rw [← h1.1]; exact hi)] at e2
    exact h1.2 i v d e1 e2
  · rw [List.getElem?_append_right (by omega)] at e1
    rw [List.getElem?_append_right (by rw [← h1.1]; omega), ← h1.1] at e2
    exact h2.2 _ v d e1 e2⟩
theorem RvL.set {n : Nat} (h : RvL K F vs ds) (r : Rv K F v d) : RvL K F (vs.set n v) (ds.set n d) := ⟨by simp [h.1], fun i w e e1 e2 => by
  by_cases hi : n = i
  · subst hi
    have h3 := (List.getElem?_eq_some_iff.mp e1).1
    rw [List.length_set] at h3
    rw [List.getElem?_set_self h3] at e1
    rw [List.getElem?_set_self (by rw [← h.1]; exact h3)] at e2
    cases e1
    cases e2
    exact r
  · rw [List.getElem?_set_ne hi] at e1 e2
    exact h.2 i w e e1 e2⟩
theorem RvL.get (h : RvL K F vs ds) {i : Nat} (e : ds[i]? = some d) : ∃ v, vs[i]? = some v ∧ Rv K F v d := by
  have hi := (List.getElem?_eq_some_iff.mp e).1
  have e1 : vs[i]? = some (vs[i]'(by rw [h.1]; exact hi)) := List.getElem?_eq_getElem _
  exact ⟨_, e1, h.2 i _ d e1 e⟩
theorem RvL.sub {f : Nat → Nat} {vs' : List V} {ds' : List D} (h : RvL K F vs ds) (hl : vs'.length = ds'.length) (e1 : ∀ i v, vs'[i]? = some v → vs[f i]? = some v) (e2 : ∀ i d, ds'[i]? = some d → ds[f i]? = some d) : RvL K F vs' ds' :=
  ⟨hl, fun i v d q1 q2 => h.2 (f i) v d (e1 i v q1) (e2 i d q2)⟩
theorem RvL.take (h : RvL K F vs ds) (n : Nat) : RvL K F (vs.take n) (ds.take n) := ⟨by simp [h.1], fun i v d e1 e2 => by
  rw [List.getElem?_take] at e1 e2
  split at e1
  · rename_i hi
    rw [if_pos hi] at e2
    exact h.2 i v d e1 e2
  · cases e1⟩
theorem RvL.drop (h : RvL K F vs ds) (n : Nat) : RvL K F (vs.drop n) (ds.drop n) := ⟨by simp [h.1], fun i v d e1 e2 => by
  rw [List.getElem?_drop] at e1 e2
  exact h.2 _ v d e1 e2⟩
theorem RvL.reverse (h : RvL K F vs ds) : RvL K F vs.reverse ds.reverse := ⟨by simp [h.1], fun i v d e1 e2 => by
  have hi := (List.getElem?_eq_some_iff.mp e1).1
  rw [List.length_reverse] at hi
  rw [List.getElem?_reverse hi] at e1
  rw [List.getElem?_reverse (by rw [← h.1]; exact hi), ← h.1] at e2
  exact h.2 _ v d e1 e2⟩
theorem RvL.ints {is : List Int} (h : RvL K F vs (is.map D.int)) : vs = is.map V.int := by
  refine List.ext_getElem? fun i => ?_
  cases e : vs[i]? with
  | none => rw [List.getElem?_eq_none (by rw [List.length_map]; have := h.1; rw [List.length_map] at this; rw [← this]; exact List.getElem?_eq_none_iff.mp e)]
  | some v =>
    have hi := (List.getElem?_eq_some_iff.mp e).1
    have hl := h.1
    rw [List.length_map] at hl
    have e2 : (is.map D.int)[i]? = some (.int is[i]) := by rw [List.getElem?_map, List.getElem?_eq_getElem (by omega)]; rfl
    have r := h.2 i v _ e e2
    cases r
    rw [List.getElem?_map, List.getElem?_eq_getElem (by omega)]; rfl
theorem RvL.strs {is : List Str} (h : RvL K F vs (is.map D.str)) : vs = is.map V.str := by
  refine List.ext_getElem? fun i => ?_
  cases e : vs[i]? with
  | none => rw [List.getElem?_eq_none (by rw [List.length_map]; have := h.1; rw [List.length_map] at this; rw [← this]; exact List.getElem?_eq_none_iff.mp e)]
  | some v =>
    have hi := (List.getElem?_eq_some_iff.mp e).1
    have hl := h.1
    rw [List.length_map] at hl
    have e2 : (is.map D.str)[i]? = some (.str is[i]) := by rw [List.getElem?_map, List.getElem?_eq_getElem (by omega)]; rfl
    have r := h.2 i v _ e e2
    cases r
    rw [List.getElem?_map, List.getElem?_eq_getElem (by omega)]; rfl
theorem RvL.bls {is : List Bool} (h : RvL K F vs (is.map D.bl)) : vs = is.map V.bl := by
  refine List.ext_getElem? fun i => ?_
  cases e : vs[i]? with
  | none => rw [List.getElem?_eq_none (by rw [List.length_map]; have := h.1; rw [List.length_map] at this; rw [← this]; exact List.getElem?_eq_none_iff.mp e)]
  | some v =>
    have hi := (List.getElem?_eq_some_iff.mp e).1
    have hl := h.1
    rw [List.length_map] at hl
    have e2 : (is.map D.bl)[i]? = some (.bl is[i]) := by rw [List.getElem?_map, List.getElem?_eq_getElem (by omega)]; rfl
    have r := h.2 i v _ e e2
    cases r
    rw [List.getElem?_map, List.getElem?_eq_getElem (by omega)]; rfl
theorem Rv.tup_inv (h : Rv K F v (.tup ds)) : ∃ a vs, v = .ref a ∧ SqT K F a vs ∧ RvL K F vs ds := by
  cases h with
  | tup h1 h2 h3 => exact ⟨_, _, rfl, h1, h2, h3⟩
theorem Rv.scr_inv (h : Rv K F v (.scr ds)) : ∃ a vs, v = .ref a ∧ SqL K F a vs ∧ RvL K F vs ds := by
  cases h with
  | scr h1 h2 h3 => exact ⟨_, _, rfl, h1, h2, h3⟩
theorem Rv.tz_inv (h : Rv K F v (.tz ds)) : ∃ a o vs, v = .ref a ∧ F a = some (.frz o (.tup vs)) ∧ o.dict = none ∧ RvL K F vs ds := by
  cases h with
  | tz h1 h2 h3 h4 => exact ⟨_, _, _, rfl, h1, h2, h3, h4⟩
theorem Rv.tz_tup (h : Rv K F v (.tz ds)) : Rv K F v (.tup ds) := by
  obtain ⟨a, o, vs, rfl, h1, _, h2⟩ := h.tz_inv
  exact .tup (.inl (.inr ⟨o, h1⟩)) h2.1 h2.2
theorem Rv.lst_inv0 (h : Rv K F v (.lst ds)) : ∃ a vs, v = .ref a ∧ F a = some (.lst vs) ∧ RvL K F vs ds := by
  cases h with
  | lst h1 h2 h3 => exact ⟨_, _, rfl, h1, h2, h3⟩
theorem Rv.lst_inv (h : Rv K F v (.lst ds)) : ∃ a vs, v = .ref a ∧ SqL K F a vs ∧ RvL K F vs ds := by
  obtain ⟨a, vs, e, h1, h2⟩ := h.lst_inv0
  exact ⟨a, vs, e, SqL.of h1, h2⟩
theorem Rv.ins_inv {C : Addr} (h : Rv K F v (.ins C fs)) : ∃ a dx vfs, v = .ref a ∧ F a = some (.ins C dx vfs) ∧ RvF K F vfs fs := by
  cases h with
  | ins h1 h2 h3 h4 => exact ⟨_, _, _, rfl, h1, h2, fun i p q a b => ⟨h3 i p q a b, h4 i p q a b⟩⟩
theorem Rv.of_tup (h1 : SqT K F a vs) (h2 : RvL K F vs ds) : Rv K F (.ref a) (.tup ds) := .tup h1 h2.1 h2.2
theorem Rv.of_lst (h1 : F a = some (.lst vs)) (h2 : RvL K F vs ds) : Rv K F (.ref a) (.lst ds) := .lst h1 h2.1 h2.2
theorem RvF.lookup {f : Str} (h : RvF K F vfs fs) (e : fs.lookup f = some d) : ∃ v, vfs.lookup f = some v ∧ Rv K F v d := by
  induction fs generalizing vfs with
  | nil => simp at e
  | cons q fs ih =>
    cases vfs with
    | nil => have := h.1; simp at this
    | cons p vfs =>
      obtain ⟨e1, r⟩ := h.2 0 p q rfl rfl
      obtain ⟨p1, p2⟩ := p
      obtain ⟨q1, q2⟩ := q
      simp only at e1 r
      subst e1
      rw [List.lookup_cons] at e ⊢
      split at e
      · rename_i hf
        cases e
        exact ⟨p2, rfl, r⟩
      · rename_i hf
        obtain ⟨v, e2, r2⟩ := ih (vfs := vfs) ⟨by have := h.1; simpa using this, fun i p q a b => h.2 (i + 1) p q (by simpa using a) (by simpa using b)⟩ e
        exact ⟨v, e2, r2⟩
theorem RvF.lookup_none {f : Str} (h : RvF K F vfs fs) (e : fs.lookup f = none) : vfs.lookup f = none := by
  induction fs generalizing vfs with
  | nil => rw [List.eq_nil_of_length_eq_zero h.1]; rfl
  | cons q fs ih =>
    cases vfs with
    | nil => rfl
    | cons p vfs =>
      obtain ⟨e1, r⟩ := h.2 0 p q rfl rfl
      obtain ⟨p1, p2⟩ := p
      obtain ⟨q1, q2⟩ := q
      simp only at e1 r
      subst e1
      rw [List.lookup_cons] at e ⊢
      split at e
      · cases e
      · rename_i hf
        exact ih (vfs := vfs) ⟨by have := h.1; simpa using this, fun i p q a b => h.2 (i + 1) p q (by simpa using a) (by simpa using b)⟩ e
/-- the field f becomes d -/
def put (f : Str) (d : D) : List (Str × D) → List (Str × D)
  | [] => [(f, d)]
  | (g, e) :: r => if g = f then (g, d) :: r else (g, e) :: put f d r
theorem RvF.put {f : Str} (h : RvF K F vfs fs) (r : Rv K F v d) : RvF K F (putF f v vfs) (put f d fs) := by
  induction fs generalizing vfs with
  | nil =>
    rw [List.eq_nil_of_length_eq_zero h.1]
    exact ⟨rfl, fun i p q e1 e2 => by
      cases i with
      | zero => cases e1; cases e2; exact ⟨rfl, r⟩
      | succ i => simp [putF] at e1⟩
  | cons q fs ih =>
    cases vfs with
    | nil => have := h.1; simp at this
    | cons p vfs =>
      obtain ⟨e1, r0⟩ := h.2 0 p q rfl rfl
      obtain ⟨p1, p2⟩ := p
      obtain ⟨q1, q2⟩ := q
      simp only at e1 r0
      subst e1
      have h' : RvF K F vfs fs := ⟨by have := h.1; simpa using this, fun i p q a b => h.2 (i + 1) p q (by simpa using a) (by simpa using b)⟩
      have cons : ∀ {x : Str} {v : V} {d : D} {vfs : List (Str × V)} {fs : List (Str × D)}, Rv K F v d → RvF K F vfs fs → RvF K F ((x, v) :: vfs) ((x, d) :: fs) := fun r z => ⟨by simp [z.1], fun i p q a b => by
        cases i with
        | zero => cases a; cases b; exact ⟨rfl, r⟩
        | succ i => exact z.2 i p q (by simpa using a) (by simpa using b)⟩
      unfold putF AV.put
      split
      · exact cons r h'
      · exact cons r0 (ih h')
/-! the memory -/
inductive At : Mem → Addr → Ob → (Ob → Mem) → Prop
  | hd {M : Mem} {a : Addr} {o : Ob} : At ((a, o) :: M) a o fun o' => (a, o') :: M
  | tl {M : Mem} {a : Addr} {o : Ob} {p : Addr × Ob} {u : Ob → Mem} : At M a o u → At (p :: M) a o fun o' => p :: u o'
inductive Rem : Mem → Addr → Ob → Mem → Prop
  | hd {M : Mem} {a : Addr} {o : Ob} : Rem ((a, o) :: M) a o M
  | tl {M M' : Mem} {a : Addr} {o : Ob} {p : Addr × Ob} : Rem M a o M' → Rem (p :: M) a o (p :: M')
theorem At.mem {u : Ob → Mem} (h : At M a o u) : (a, o) ∈ M := by
  induction h with
  | hd => exact List.mem_cons_self
  | tl _ ih => exact List.mem_cons_of_mem _ ih
theorem At.keys {u : Ob → Mem} (h : At M a o u) : (u o').map (·.1) = M.map (·.1) := by
  induction h with
  | hd => rfl
  | tl _ ih => simp [ih]
theorem At.of {u : Ob → Mem} (h : At M a o u) (n : (M.map (·.1)).Nodup) {p : Addr × Ob} (hp : p ∈ u o') : p = (a, o') ∨ (p ∈ M ∧ p.1 ≠ a) := by
  induction h with
  | @hd M a o =>
    rcases List.mem_cons.mp hp with rfl | hp
    · exact .inl rfl
    · refine .inr ⟨List.mem_cons_of_mem _ hp, fun e => ?_⟩
      rw [List.map_cons, List.nodup_cons] at n
      have z : p.1 ∈ M.map (·.1) := List.mem_map_of_mem hp
      rw [e] at z
      exact n.1 z
  | @tl M a o q u h ih =>
    rcases List.mem_cons.mp hp with rfl | hp
    · refine .inr ⟨List.mem_cons_self, fun e => ?_⟩
      rw [List.map_cons, List.nodup_cons] at n
      exact n.1 (by rw [e]; exact List.mem_map_of_mem h.mem)
    · rw [List.map_cons, List.nodup_cons] at n
      rcases ih n.2 hp with z | ⟨z1, z2⟩
      · exact .inl z
      · exact .inr ⟨List.mem_cons_of_mem _ z1, z2⟩
theorem Rem.mem (h : Rem M a o M') : (a, o) ∈ M := by
  induction h with
  | hd => exact List.mem_cons_self
  | tl _ ih => exact List.mem_cons_of_mem _ ih
theorem Rem.sub (h : Rem M a o M') : ∀ p ∈ M', p ∈ M := by
  induction h with
  | hd => exact fun p hp => List.mem_cons_of_mem _ hp
  | tl _ ih => exact fun p hp => (List.mem_cons.mp hp).elim (fun e => by rw [e]; exact List.mem_cons_self) fun e => List.mem_cons_of_mem _ (ih p e)
theorem Rem.nod (h : Rem M a o M') (n : (M.map (·.1)).Nodup) : (M'.map (·.1)).Nodup ∧ a ∉ M'.map (·.1) := by
  induction h with
  | hd =>
    rw [List.map_cons, List.nodup_cons] at n
    exact ⟨n.2, n.1⟩
  | @tl M M' a o p h ih =>
    rw [List.map_cons, List.nodup_cons] at n
    obtain ⟨i1, i2⟩ := ih n.2
    rw [List.map_cons, List.nodup_cons]
    refine ⟨⟨fun z => ?_, i1⟩, fun z => ?_⟩
    · obtain ⟨q, hq, e⟩ := List.mem_map.mp z
      exact n.1 (List.mem_map.mpr ⟨q, h.sub q hq, e⟩)
    · rcases List.mem_cons.mp z with z | z
      · exact n.1 (by rw [← z]; exact List.mem_map_of_mem h.mem)
      · exact i2 z
theorem RO.none (h : RO K F H a o) (n : H a = Option.none) : False := by
  cases o with
  | lst ds => obtain ⟨vs, e, _⟩ := h; rw [n] at e; cases e
  | ins C fs => obtain ⟨dx, vs, e, _⟩ := h; rw [n] at e; cases e
  | xd fs => obtain ⟨vs, e, _⟩ := h; rw [n] at e; cases e
  | dct fs => obtain ⟨vs, e, _⟩ := h; rw [n] at e; cases e
theorem RO.mv (h : RO K F H a o) (s : Same F F') (e : H' a = H a) : RO K F' H' a o := by
  cases o with
  | lst ds => obtain ⟨vs, e1, r⟩ := h; exact ⟨vs, e.trans e1, r.same s⟩
  | ins C fs => obtain ⟨dx, vs, e1, r⟩ := h; exact ⟨dx, vs, e.trans e1, r.same s⟩
  | xd fs => obtain ⟨vs, e1, r⟩ := h; exact ⟨vs, e.trans e1, r.same s⟩
  | dct fs => obtain ⟨vs, e1, r, nd⟩ := h; exact ⟨vs, e.trans e1, r.same s, nd⟩
theorem Fr.free (h : Fr K M F H) (n : H a = none) : F a = none ∧ ∀ p ∈ M, p.1 ≠ a := by
  refine ⟨?_, fun p hp e => (h.at_ p hp).none (by rw [e]; exact n)⟩
  cases e : F a with
  | none => rfl
  | some o => rw [h.sub _ _ e] at n; cases n
/-- a new object that is never written -/
theorem Fr.data {ho : HO} (h : Fr K M F H) (n : H a = none) : Same F (upd F a ho) ∧ Fr K M (upd F a ho) (upd H a ho) := by
  obtain ⟨n1, n2⟩ := h.free n
  have s : Same F (upd F a ho) := fun b o e => by rw [upd_ne (ne_of_none e n1)]; exact e
  refine ⟨s, ⟨fun b o e => ?_, fun p hp => ?_, h.nod, fun p hp => (h.at_ p hp).mv s (upd_ne (n2 p hp))⟩⟩
  · by_cases hb : b = a
    · subst hb; rw [upd_same] at e ⊢; exact e
    · rw [upd_ne hb] at e ⊢; exact h.sub _ _ e
  · rw [upd_ne (n2 p hp)]; exact h.out p hp
/-- a new object that may be written -/
theorem Fr.own {ho : HO} (h : Fr K M F H) (n : H a = none) (r : RO K F (upd H a ho) a o) : Fr K ((a, o) :: M) F (upd H a ho) := by
  obtain ⟨n1, n2⟩ := h.free n
  refine ⟨fun b u e => ?_, fun p hp => ?_, ?_, fun p hp => ?_⟩
  · rw [upd_ne (ne_of_none e n1)]; exact h.sub _ _ e
  · rcases List.mem_cons.mp hp with rfl | hp
    · exact n1
    · exact h.out p hp
  · rw [List.map_cons, List.nodup_cons]
    exact ⟨fun z => by
      obtain ⟨q, hq, e⟩ := List.mem_map.mp z
      exact n2 q hq e, h.nod⟩
  · rcases List.mem_cons.mp hp with rfl | hp
    · exact r
    · exact (h.at_ p hp).mv (Same.refl F) (upd_ne (n2 p hp))
/-- a store -/
theorem Fr.put {ho : HO} {u : Ob → Mem} (h : Fr K M F H) (ha : At M a o u) (r : RO K F (upd H a ho) a o') : Fr K (u o') F (upd H a ho) := by
  have n1 := h.out _ ha.mem
  refine ⟨fun b w e => ?_, fun p hp => ?_, by rw [ha.keys]; exact h.nod, fun p hp => ?_⟩
  · rw [upd_ne (ne_of_none e n1)]; exact h.sub _ _ e
  · rcases ha.of h.nod hp with rfl | ⟨z, _⟩
    · exact n1
    · exact h.out p z
  · rcases ha.of h.nod hp with rfl | ⟨z, nz⟩
    · exact r
    · exact (h.at_ p z).mv (Same.refl F) (upd_ne nz)
/-- an object is forgotten -/
theorem Fr.drop (h : Fr K M F H) (r : Rem M a o M') : Fr K M' F H :=
  ⟨h.sub, fun p hp => h.out p (r.sub p hp), (r.nod h.nod).1, fun p hp => h.at_ p (r.sub p hp)⟩
/-- an object is written no more -/
theorem Fr.freeze (h : Fr K M F H) (r : Rem M a o M') (ho : o.fzb = true) : ∃ F', Same F F' ∧ Fr K M' F' H ∧ Rv K F' (.ref a) o.toD := by
  have n1 := h.out _ r.mem
  have hr := h.at_ _ r.mem
  have na := (r.nod h.nod).2
  have s : Same F (fun b => if b = a then H a else F b) := fun b u e => by
    show (if b = a then H a else F b) = _
    rw [if_neg (ne_of_none e n1)]; exact e
  have ea : (fun b => if b = a then H a else F b) a = H a := if_pos rfl
  refine ⟨_, s, ⟨fun b u e => ?_, fun p hp => ?_, (r.nod h.nod).1, fun p hp => (h.at_ p (r.sub p hp)).mv s rfl⟩, ?_⟩
  · have e : (if b = a then H a else F b) = some u := e
    by_cases hb : b = a
    · rw [if_pos hb] at e; rw [hb]; exact e
    · rw [if_neg hb] at e; exact h.sub _ _ e
  · show (if p.1 = a then H a else F p.1) = none
    rw [if_neg fun e => na (by rw [← e]; exact List.mem_map_of_mem hp)]
    exact h.out p (r.sub p hp)
  · cases o with
    | lst ds =>
      obtain ⟨vs, e, q⟩ := hr
      exact .of_lst (ea.trans e) (q.same s)
    | ins C fs =>
      obtain ⟨dx, vs, e, q⟩ := hr
      exact .ins (ea.trans e) q.1 (fun i p q' a b => ((q.same s).2 i p q' a b).1) fun i p q' a b => ((q.same s).2 i p q' a b).2
    | xd fs => exact absurd ho nofun
    | dct fs => exact absurd ho nofun
theorem Rs.get {i : Nat} (h : Rs K F xs σ) (e : xs[i]? = some (some d)) : ∃ v, σ[i]? = some (some v) ∧ Rv K F v d := h.2 i d e
theorem Rs.set {i : Nat} (h : Rs K F xs σ) (r : Rv K F v d) : Rs K F (xs.set i (some d)) (σ.set i (some v)) := ⟨by simp [h.1], fun j e q => by
  by_cases hi : i = j
  · subst hi
    have h3 := (List.getElem?_eq_some_iff.mp q).1
    rw [List.length_set] at h3
    rw [List.getElem?_set_self h3] at q
    cases q
    exact ⟨v, by rw [List.getElem?_set_self (by rw [← h.1]; exact h3)], r⟩
  · rw [List.getElem?_set_ne hi] at q ⊢
    exact h.2 j e q⟩
theorem Rs.start {N : List Str} (h : RvL K F vs ds) : Rs K F (ds.map some ++ List.replicate (N.length - ds.length) none) (L2.start N vs) := by
  unfold L2.start
  refine ⟨by simp [h.1], fun i d e => ?_⟩
  by_cases hi : i < ds.length
  · rw [List.getElem?_append_left (by simpa using hi), List.getElem?_map] at e
    cases q : ds[i]? with
    | none => rw [q] at e; cases e
    | some d' =>
      rw [q] at e
      cases e
      obtain ⟨v, e1, r⟩ := h.get q
      exact ⟨v, by rw [List.getElem?_append_left (by rw [List.length_map, h.1]; exact hi), List.getElem?_map, e1]; rfl, r⟩
  · rw [List.getElem?_append_right (by simpa using hi)] at e
    have := List.mem_of_getElem? e
    rw [List.mem_replicate] at this
    cases this.2
end
end AV

set_option Elab.async false
set_option linter.all false
set_option maxRecDepth 100000
set_option maxHeartbeats 4000000
/-! A2: readings over abstract values: expressions, tests, arguments, operators (own work). -/
namespace AV
open PySem PySem.Spec PyProof.Rows L2 G
abbrev ATE := AS → Mem → AQ → Prop
abbrev ATT := AS → Mem → (Bool → Mem → Prop) → Prop
abbrev ATA := AS → Mem → (List D → Mem → Prop) → Prop
/-- what is wanted of an error: its class, its fields, the slots, the memory -/
abbrev AX := Addr → List (Str × D) → AS → Mem → Prop
section
variable (K : PySem.W.Frag)
/-- the links from what is wanted of abstract ends to what is wanted of the heap -/
def Ln (F : Hp) (A : AQ) (Q : VK) : Prop := ∀ d M' v H' F', A d M' → Same F F' → Rv K F' v d → Fr K M' F' H' → Q v H'
def LnB (F : Hp) (A : Bool → Mem → Prop) (Q : Bool → Hp → Prop) : Prop := ∀ b M' H' F', A b M' → Same F F' → Fr K M' F' H' → Q b H'
def LnL (F : Hp) (A : List D → Mem → Prop) (Q : List V → Hp → Prop) : Prop := ∀ ds M' vs H' F', A ds M' → Same F F' → RvL K F' vs ds → Fr K M' F' H' → Q vs H'
def LnX (F : Hp) (A : AX) (W : WX) : Prop := ∀ C fs xs M σ H F' dd, A C fs xs M → Same F F' → Rs K F' xs σ → Fr K ((dd, .xd fs) :: M) F' H → W (.ref C) (some dd) σ H
def conE (W : WX) (A : AX) (t : ATE) : TE := fun σ H Q => ∃ xs M F B, Rs K F xs σ ∧ Fr K M F H ∧ LnX K F A W ∧ t xs M B ∧ Ln K F B Q
def conT (W : WX) (A : AX) (t : ATT) : TT := fun σ H Q => ∃ xs M F B, Rs K F xs σ ∧ Fr K M F H ∧ LnX K F A W ∧ t xs M B ∧ LnB K F B Q
def conA (W : WX) (A : AX) (t : ATA) : TA := fun σ H Q => ∃ xs M F B, Rs K F xs σ ∧ Fr K M F H ∧ LnX K F A W ∧ t xs M B ∧ LnL K F B Q
/-- what an operator over values asks, abstractly -/
def Op1 (r : V → Hp → VK → Prop) (ar : D → Mem → AQ → Prop) : Prop := ∀ x v M F H B Q, ar x M B → Rv K F v x → Fr K M F H → Ln K F B Q → r v H Q
def Op2 (r : R2) (ar : D → D → Mem → AQ → Prop) : Prop := ∀ x y v w M F H B Q, ar x y M B → Rv K F v x → Rv K F w y → Fr K M F H → Ln K F B Q → r v w H Q
def OpN (r : List V → Hp → VK → Prop) (ar : List D → Mem → AQ → Prop) : Prop := ∀ xs vs M F H B Q, ar xs M B → RvL K F vs xs → Fr K M F H → Ln K F B Q → r vs H Q
def OpM (r : V → List V → Hp → VK → Prop) (ar : D → List D → Mem → AQ → Prop) : Prop := ∀ x xs v vs M F H B Q, ar x xs M B → Rv K F v x → RvL K F vs xs → Fr K M F H → Ln K F B Q → r v vs H Q
end
section
variable {K : PySem.W.Frag} {F F' : Hp} {W : WX} {A : AX}
theorem Ln.mono {B : AQ} {Q : VK} (h : Ln K F B Q) (s : Same F F') : Ln K F' B Q := fun d M v H F2 b s2 => h d M v H F2 b (s.trans s2)
theorem LnB.mono {B : Bool → Mem → Prop} {Q : Bool → Hp → Prop} (h : LnB K F B Q) (s : Same F F') : LnB K F' B Q := fun d M H F2 b s2 => h d M H F2 b (s.trans s2)
theorem LnL.mono {B : List D → Mem → Prop} {Q : List V → Hp → Prop} (h : LnL K F B Q) (s : Same F F') : LnL K F' B Q := fun d M v H F2 b s2 => h d M v H F2 b (s.trans s2)
theorem LnX.mono (h : LnX K F A W) (s : Same F F') : LnX K F' A W := fun C fs xs M σ H F2 dd a s2 => h C fs xs M σ H F2 dd a (s.trans s2)
theorem LnX.none : LnX K F (fun _ _ _ _ => False) W := fun _ _ _ _ _ _ _ _ a => a.elim
theorem Ln.same {B : AQ} {Q : VK} {d : D} {v : V} {M : Mem} {H : Hp} (h : Ln K F B Q) (b : B d M) (r : Rv K F v d) (f : Fr K M F H) : Q v H := h d M v H F b (Same.refl F) r f
/-- a new list: data, or to be written -/
def NewL (xs : List D) (M : Mem) (Q : AQ) : Prop := Q (.lst xs) M ∨ ∀ a, Q (.r a) ((a, .lst xs) :: M)
theorem NewL.run {xs : List D} {vs : List V} {M : Mem} {H : Hp} {B : AQ} {Q : VK} (n : NewL xs M B) (r : RvL K F vs xs) (f : Fr K M F H) (l : Ln K F B Q) : ∀ p, H p = none → Q (.ref p) (upd H p (.lst vs)) := fun p hp => by
  rcases n with n | n
  · obtain ⟨s, f'⟩ := f.data (ho := .lst vs) hp
    exact l _ _ _ _ _ n s (.of_lst upd_same (r.same s)) f'
  · exact l _ _ _ _ _ (n p) (Same.refl F) (.r p) (f.own hp ⟨vs, upd_same, r⟩)
theorem newT {xs : List D} {vs : List V} {M : Mem} {H : Hp} {B : AQ} {Q : VK} (n : B (.tup xs) M) (r : RvL K F vs xs) (f : Fr K M F H) (l : Ln K F B Q) : ∀ p, H p = none → Q (.ref p) (upd H p (.tup vs)) := fun p hp => by
  obtain ⟨s, f'⟩ := f.data (ho := .tup vs) hp
  exact l _ _ _ _ _ n s (.of_tup (SqT.of upd_same) (r.same s)) f'
/-- the items of a list -/
inductive Ls (M : Mem) : D → List D → Prop
  | s {xs : List D} : Ls M (.scr xs) xs
  | d {xs : List D} : Ls M (.lst xs) xs
  | o {a : Addr} {xs : List D} {u : Ob → Mem} : At M a (.lst xs) u → Ls M (.r a) xs
inductive Sq (M : Mem) : D → List D → Prop
  | s {xs : List D} : Sq M (.scr xs) xs
  | d {xs : List D} : Sq M (.lst xs) xs
  | t {xs : List D} : Sq M (.tup xs) xs
  | z {xs : List D} : Sq M (.tz xs) xs
  | o {a : Addr} {xs : List D} {u : Ob → Mem} : At M a (.lst xs) u → Sq M (.r a) xs
theorem Ls.at_ {M : Mem} {x : D} {xs : List D} {v : V} {H : Hp} (h : Ls M x xs) (r : Rv K F v x) (f : Fr K M F H) : ∃ a vs, v = .ref a ∧ SqL K H a vs ∧ RvL K F vs xs := by
  cases h with
  | s =>
    obtain ⟨a, vs, rfl, s, l⟩ := r.scr_inv
    exact ⟨a, vs, rfl, s.ext f.sub, l⟩
  | d =>
    obtain ⟨a, vs, rfl, s, l⟩ := r.lst_inv
    exact ⟨a, vs, rfl, s.ext f.sub, l⟩
  | o h =>
    cases r
    obtain ⟨vs, e, l⟩ := f.at_ _ h.mem
    exact ⟨_, vs, rfl, SqL.of e, l⟩
theorem Sq.at_ {M : Mem} {x : D} {xs : List D} {v : V} {H : Hp} (h : Sq M x xs) (r : Rv K F v x) (f : Fr K M F H) : ∃ a vs, v = .ref a ∧ (SqL K H a vs ∨ SqT K H a vs) ∧ RvL K F vs xs := by
  cases h with
  | s =>
    obtain ⟨a, vs, rfl, s, l⟩ := r.scr_inv
    exact ⟨a, vs, rfl, .inl (s.ext f.sub), l⟩
  | d =>
    obtain ⟨a, vs, rfl, s, l⟩ := r.lst_inv
    exact ⟨a, vs, rfl, .inl (s.ext f.sub), l⟩
  | t =>
    obtain ⟨a, vs, rfl, s, l⟩ := r.tup_inv
    exact ⟨a, vs, rfl, .inr (s.ext f.sub), l⟩
  | z =>
    obtain ⟨a, vs, rfl, s, l⟩ := r.tz_tup.tup_inv
    exact ⟨a, vs, rfl, .inr (s.ext f.sub), l⟩
  | o h =>
    cases r
    obtain ⟨vs, e, l⟩ := f.at_ _ h.mem
    exact ⟨_, vs, rfl, .inl (SqL.of e), l⟩
theorem Rv.tup_at {xs : List D} {v : V} {M : Mem} {H : Hp} (r : Rv K F v (.tup xs)) (f : Fr K M F H) : ∃ a vs, v = .ref a ∧ SqT K H a vs ∧ RvL K F vs xs := by
  obtain ⟨a, vs, rfl, s, l⟩ := r.tup_inv
  exact ⟨a, vs, rfl, s.ext f.sub, l⟩
end
/-! ### structure of expressions -/
section
variable {X : Cx} {K : PySem.W.Frag} {W : WX} {A : AX}
theorem _root_.L2.PE.to {e : Expr} {t t' : TE} (h : PE X e t) (m : ∀ σ H Q, t' σ H Q → t σ H Q) : PE X e t' := ⟨fun pins s σ H Q I q => h.run pins s σ H Q I (m _ _ _ q)⟩
theorem _root_.L2.PT.to {e : Expr} {t t' : TT} (h : PT X e t) (m : ∀ σ H Q, t' σ H Q → t σ H Q) : PT X e t' := ⟨fun pins s σ H Q I q => h.run pins s σ H Q I (m _ _ _ q)⟩
theorem _root_.L2.PW.to {e : Expr} {t t' : TT} (h : PW X e t) (m : ∀ σ H Q, t' σ H Q → t σ H Q) : PW X e t' := ⟨fun w pins s σ H Q I q => h.run w pins s σ H Q I (m _ _ _ q)⟩
theorem _root_.L2.PA.to {e : List Expr} {t t' : TA} (h : PA X e t) (m : ∀ σ H Q, t' σ H Q → t σ H Q) : PA X e t' := ⟨fun w pins s σ H Q I q => h.run w pins s σ H Q I (m _ _ _ q)⟩
@[reducible] def aVar (i : Nat) : ATE := fun xs M Q => ∃ d, xs[i]? = some (some d) ∧ Q d M
theorem a_var {e : Expr} {i : Nat} (h : PE X e (tVar i)) : PE X e (conE K W A (aVar i)) := h.to fun σ H Q ⟨xs, M, F, B, rs, fr, _, ⟨d, e, b⟩, l⟩ => by
  obtain ⟨v, ev, r⟩ := rs.get e
  exact ⟨v, ev, l.same b r fr⟩
@[reducible] def aC (d : D) : ATE := fun _ M Q => Q d M
theorem a_c {e : Expr} {v : V} {d : D} (h : PE X e (tC v)) (r : ∀ F, Rv K F v d) : PE X e (conE K W A (aC d)) := h.to fun σ H Q ⟨xs, M, F, B, rs, fr, _, b, l⟩ => l.same b (r F) fr
theorem a_int {i : Int} {j pos} : PE X (.Constant (.int i) j pos) (conE K W A (aC (.int i))) := a_c pe_int fun _ => .int i
theorem a_bl {b : Bool} {j pos} : PE X (.Constant (.bool b) j pos) (conE K W A (aC (.bl b))) := a_c pe_bl fun _ => .bl b
theorem a_non {j pos} : PE X (.Constant .none j pos) (conE K W A (aC .non)) := a_c pe_non fun _ => .non
theorem a_str {z : Str} {j pos} : PE X (.Constant (.str z) j pos) (conE K W A (aC (.str z))) := a_c pe_str fun _ => .str z
variable {a b c : Expr} {ta tb tc : ATE} {pos : Pos}
/-- the one step below: an expression's end is another's start -/
theorem con_step {t : ATE} {xs : AS} {M : Mem} {F : Hp} {σ : L2.St} {H : Hp} {R : VK} {B : AQ} (rs : Rs K F xs σ) (fr : Fr K M F H) (lx : LnX K F A W) (h : t xs M B)
    (k : ∀ d M' v H' F', B d M' → Same F F' → Rv K F' v d → Fr K M' F' H' → Rs K F' xs σ → LnX K F' A W → R v H') : conE K W A t σ H R :=
  ⟨xs, M, F, B, rs, fr, lx, h, fun d M' v H' F' b s r f => k d M' v H' F' b s r f (rs.same s) (lx.mono s)⟩
@[reducible] def aOp (ar : D → D → Mem → AQ → Prop) (ta tb : ATE) : ATE := fun xs M Q => ta xs M fun x M1 => tb xs M1 fun y M2 => ar x y M2 Q
theorem op_con {r : R2} {ar : D → D → Mem → AQ → Prop} (tr : Op2 K r ar) (σ : L2.St) (H : Hp) (Q : VK) (h : conE K W A (aOp ar ta tb) σ H Q) : tOp r (conE K W A ta) (conE K W A tb) σ H Q := by
  obtain ⟨xs, M, F, B, rs, fr, lx, h, l⟩ := h
  refine con_step rs fr lx h fun x M1 v H1 F1 h1 s1 r1 f1 rs1 lx1 => ?_
  refine con_step rs1 f1 lx1 h1 fun y M2 w H2 F2 h2 s2 r2 f2 rs2 lx2 => ?_
  exact tr x y v w M2 F2 H2 B Q h2 (r1.same s2) r2 f2 (l.mono (s1.trans s2))
theorem a_op {op : Operator} {r : R2} {ar : D → D → Mem → AQ → Prop} (ho : OpR X (binaryOp op) r ∧ Op2 K r ar) (ha : PE X a (conE K W A ta)) (hb : PE X b (conE K W A tb)) : PE X (.BinOp a op b pos) (conE K W A (aOp ar ta tb)) :=
  (pe_op ho.1 ha hb).to fun σ H Q h => op_con ho.2 σ H Q h
theorem a_ix {r : R2} {ar : D → D → Mem → AQ → Prop} (ho : IxR X r ∧ Op2 K r ar) (ha : PE X a (conE K W A ta)) (hb : PE X b (conE K W A tb)) (hs : PlainIx b) : PE X (.Subscript a b pos) (conE K W A (aOp ar ta tb)) :=
  (pe_ix ho.1 ha hb hs).to fun σ H Q h => op_con ho.2 σ H Q h
theorem a_cmp {op : CmpOp} {r : R2} {ar : D → D → Mem → AQ → Prop} (ho : OpR X (compareOp op) r ∧ Op2 K r ar) (ha : PE X a (conE K W A ta)) (hb : PE X b (conE K W A tb)) (hm : behindInMarks op b = false) : PE X (.Compare a [op] [b] pos) (conE K W A (aOp ar ta tb)) :=
  (pe_cmpR ho.1 ha hb hm).to fun σ H Q h => op_con ho.2 σ H Q h
@[reducible] def aTest (t : ATE) : ATT := fun xs M Q => t xs M fun x M' => ∃ k, x = .bl k ∧ Q k M'
theorem test_con {t : ATE} (σ : L2.St) (H : Hp) (Q : Bool → Hp → Prop) (h : conT K W A (aTest t) σ H Q) : tTest (conE K W A t) σ H Q := by
  obtain ⟨xs, M, F, B, rs, fr, lx, h, l⟩ := h
  refine con_step rs fr lx h fun x M1 v H1 F1 ⟨k, e, h1⟩ s1 r1 f1 rs1 lx1 => ?_
  subst e
  cases r1
  exact ⟨k, rfl, l _ _ _ _ h1 s1 f1⟩
theorem a_tcmp {op : CmpOp} {r : R2} {ar : D → D → Mem → AQ → Prop} (ho : OpR X (compareOp op) r ∧ Op2 K r ar) (ha : PE X a (conE K W A ta)) (hb : PE X b (conE K W A tb)) (hm : behindInMarks op b = false) : PT X (.Compare a [op] [b] pos) (conT K W A (aTest (aOp ar ta tb))) :=
  (pt_cmpR ho.1 ha hb hm).to fun σ H Q h => by
    obtain ⟨xs, M, F, B, rs, fr, lx, h, l⟩ := h
    exact op_con ho.2 σ H _ ⟨xs, M, F, _, rs, fr, lx, h, fun d M' v H' F' ⟨k, e, b⟩ s r f => by
      subst e
      cases r
      exact ⟨k, rfl, l _ _ _ _ b s f⟩⟩
@[reducible] def aUn (ar : D → Mem → AQ → Prop) (ta : ATE) : ATE := fun xs M Q => ta xs M fun x M1 => ar x M1 Q
theorem a_un {op : UnaryOp} {r : V → Hp → VK → Prop} {ar : D → Mem → AQ → Prop} (ho : UnR X (unaryOp op) r ∧ Op1 K r ar) (ha : PE X a (conE K W A ta)) : PE X (.UnaryOp op a pos) (conE K W A (aUn ar ta)) :=
  (pe_un ho.1 ha).to fun σ H Q ⟨xs, M, F, B, rs, fr, lx, h, l⟩ => con_step rs fr lx h fun x M1 v H1 F1 h1 s1 r1 f1 _ _ => ho.2 x v M1 F1 H1 B Q h1 r1 f1 (l.mono s1)
/-- a < b < c -/
@[reducible] def aChain (ar ar' : D → D → Mem → AQ → Prop) (ta tb tc : ATE) : ATE := fun xs M Q => ta xs M fun x M1 => tb xs M1 fun y M2 => ar x y M2 fun z M3 => ∃ k, z = .bl k ∧ if k = true then tc xs M3 fun w M4 => ar' y w M4 Q else Q (.bl false) M3
theorem chain_con {r r' : R2} {ar ar' : D → D → Mem → AQ → Prop} (t1 : Op2 K r ar) (t2 : Op2 K r' ar') (σ : L2.St) (H : Hp) (Q : VK) (h : conE K W A (aChain ar ar' ta tb tc) σ H Q) : tChain r r' (conE K W A ta) (conE K W A tb) (conE K W A tc) σ H Q := by
  obtain ⟨xs, M, F, B, rs, fr, lx, h, l⟩ := h
  refine con_step rs fr lx h fun x M1 v H1 F1 h1 s1 r1 f1 rs1 lx1 => ?_
  refine con_step rs1 f1 lx1 h1 fun y M2 w H2 F2 h2 s2 r2 f2 rs2 lx2 => ?_
  refine t1 x y v w M2 F2 H2 _ _ h2 (r1.same s2) r2 f2 fun z M3 u H3 F3 ⟨k, e, h3⟩ s3 r3 f3 => ?_
  subst e
  cases r3
  refine ⟨k, rfl, ?_⟩
  cases k with
  | true =>
    rw [if_pos rfl] at h3 ⊢
    refine con_step (rs2.same s3) f3 (lx2.mono s3) h3 fun q M4 u4 H4 F4 h4 s4 r4 f4 _ _ => ?_
    exact t2 y q w u4 M4 F4 H4 B Q h4 ((r2.same s3).same s4) r4 f4 (l.mono (((s1.trans s2).trans s3).trans s4))
  | false =>
    rw [if_neg Bool.false_ne_true] at h3 ⊢
    exact l _ _ _ _ _ h3 ((s1.trans s2).trans s3) (.bl false) f3
theorem a_chain {op op' : CmpOp} {r r' : R2} {ar ar' : D → D → Mem → AQ → Prop} (ho : OpR X (compareOp op) r ∧ Op2 K r ar) (ho' : OpR X (compareOp op') r' ∧ Op2 K r' ar') (ha : PE X a (conE K W A ta)) (hb : PE X b (conE K W A tb)) (hc : PE X c (conE K W A tc))
    (hm : lastMarks [op, op'] [b, c] = false := by with_unfolding_all rfl) : PE X (.Compare a [op, op'] [b, c] pos) (conE K W A (aChain ar ar' ta tb tc)) :=
  (pe_chain ho.1 ho'.1 ha hb hc hm).to fun σ H Q h => chain_con ho.2 ho'.2 σ H Q h
theorem a_tchain {op op' : CmpOp} {r r' : R2} {ar ar' : D → D → Mem → AQ → Prop} (ho : OpR X (compareOp op) r ∧ Op2 K r ar) (ho' : OpR X (compareOp op') r' ∧ Op2 K r' ar') (ha : PE X a (conE K W A ta)) (hb : PE X b (conE K W A tb)) (hc : PE X c (conE K W A tc))
    (hm : lastMarks [op, op'] [b, c] = false := by with_unfolding_all rfl) : PT X (.Compare a [op, op'] [b, c] pos) (conT K W A (aTest (aChain ar ar' ta tb tc))) :=
  (pt_chain ho.1 ho'.1 ha hb hc hm).to fun σ H Q h => by
    obtain ⟨xs, M, F, B, rs, fr, lx, h, l⟩ := h
    exact chain_con ho.2 ho'.2 σ H _ ⟨xs, M, F, _, rs, fr, lx, h, fun d M' v H' F' ⟨k, e, b⟩ s r f => by
      subst e
      cases r
      exact ⟨k, rfl, l _ _ _ _ b s f⟩⟩
/-! truth -/
def D.tru (M : Mem) : D → Bool → Prop
  | .non, k => k = false
  | .bl b, k => k = b
  | .int i, k => k = (i != 0)
  | .str z, k => z.length ≤ sizeLine ∧ k = ((z.length : Int) != 0)
  | .lst xs, k => k = !xs.isEmpty
  | .tup xs, k => k = !xs.isEmpty
  | .r a, k => ∃ xs u, At M a (.lst xs) u ∧ k = !xs.isEmpty
  | _, _ => False
theorem tru_at {M : Mem} {x : D} {k : Bool} {v : V} {F H : Hp} (h : x.tru M k) (r : Rv K F v x) (f : Fr K M F H) : TruV K v H k := by
  have emp : ∀ {vs : List V} {ds : List D}, vs.length = ds.length → (!ds.isEmpty) = !vs.isEmpty := fun {vs ds} e => by
    cases vs <;> cases ds <;> first | rfl | (simp at e)
  cases x with
  | non => cases r; exact h
  | bl b => cases r; exact h
  | int i => cases r; exact h
  | str z => cases r; exact h
  | ty n => exact h.elim
  | r a =>
    cases r
    obtain ⟨xs, u, ha, e⟩ := h
    obtain ⟨vs, e1, l⟩ := f.at_ _ ha.mem
    exact .inl ⟨vs, SqL.of e1, by rw [e, emp l.1]⟩
  | tup ds =>
    obtain ⟨a, vs, rfl, s, l⟩ := r.tup_at f
    exact .inr (.inl ⟨vs, s, (show k = !ds.isEmpty from h).trans (emp l.1)⟩)
  | lst ds =>
    obtain ⟨a, vs, rfl, s, l⟩ := (Ls.d (M := M)).at_ r f
    exact .inl ⟨vs, s, (show k = !ds.isEmpty from h).trans (emp l.1)⟩
  | ins C fs => exact h.elim
  | scr ds => exact h.elim
  | tz ds => exact h.elim
@[reducible] def aTr (ta : ATE) : ATT := fun xs M Q => ta xs M fun x M' => ∃ k, x.tru M' k ∧ Q k M'
theorem a_truth (ha : PE X a (conE K W A ta)) (he : ∀ whole, isTrue a X.env whole = (do let v ← whole; standAt a.pos; holding [v] (truthy v))) (hK : X.K = K := by rfl) : PT X a (conT K W A (aTr ta)) := by
  subst hK
  exact (pt_truth ha he).to fun σ H Q ⟨xs, M, F, B, rs, fr, lx, h, l⟩ => con_step rs fr lx h fun x M1 v H1 F1 ⟨k, e, h1⟩ s1 r1 f1 rs1 lx1 => ⟨k, tru_at e r1 f1, l _ _ _ _ h1 s1 f1⟩
@[reducible] def aOrT (ta tb : ATE) : ATE := fun xs M Q => ta xs M fun x M1 => ∃ k, x.tru M1 k ∧ if k = true then Q x M1 else tb xs M1 Q
@[reducible] def aAndT (ta tb : ATE) : ATE := fun xs M Q => ta xs M fun x M1 => ∃ k, x.tru M1 k ∧ if k = true then tb xs M1 Q else Q x M1
@[reducible] def aNotT (ta : ATE) : ATE := fun xs M Q => ta xs M fun x M1 => ∃ k, x.tru M1 k ∧ Q (.bl (!k)) M1
theorem a_andT {rest : List Expr} (ha : PE X a (conE K W A ta)) (hb : PE X (.BoolOp .And (b :: rest) pos) (conE K W A tb)) (hK : X.K = K := by rfl) : PE X (.BoolOp .And (a :: b :: rest) pos) (conE K W A (aAndT ta tb)) := by
  subst hK
  refine (pe_andT ha hb).to fun σ H Q ⟨xs, M, F, B, rs, fr, lx, h, l⟩ => con_step rs fr lx h fun x M1 v H1 F1 ⟨k, e, h1⟩ s1 r1 f1 rs1 lx1 => ⟨k, tru_at e r1 f1, ?_⟩
  cases k with
  | true => rw [if_pos rfl] at h1 ⊢; exact ⟨xs, M1, F1, B, rs1, f1, lx1, h1, l.mono s1⟩
  | false => rw [if_neg Bool.false_ne_true] at h1 ⊢; exact l _ _ _ _ _ h1 s1 r1 f1
theorem a_orT {rest : List Expr} (ha : PE X a (conE K W A ta)) (hb : PE X (.BoolOp .Or (b :: rest) pos) (conE K W A tb)) (hK : X.K = K := by rfl) : PE X (.BoolOp .Or (a :: b :: rest) pos) (conE K W A (aOrT ta tb)) := by
  subst hK
  refine (pe_orT ha hb).to fun σ H Q ⟨xs, M, F, B, rs, fr, lx, h, l⟩ => con_step rs fr lx h fun x M1 v H1 F1 ⟨k, e, h1⟩ s1 r1 f1 rs1 lx1 => ⟨k, tru_at e r1 f1, ?_⟩
  cases k with
  | true => rw [if_pos rfl] at h1 ⊢; exact l _ _ _ _ _ h1 s1 r1 f1
  | false => rw [if_neg Bool.false_ne_true] at h1 ⊢; exact ⟨xs, M1, F1, B, rs1, f1, lx1, h1, l.mono s1⟩
theorem a_notT (ha : PE X a (conE K W A ta)) (hK : X.K = K := by rfl) : PE X (.UnaryOp .Not a pos) (conE K W A (aNotT ta)) := by
  subst hK
  exact (pe_notT ha).to fun σ H Q ⟨xs, M, F, B, rs, fr, lx, h, l⟩ => con_step rs fr lx h fun x M1 v H1 F1 ⟨k, e, h1⟩ s1 r1 f1 rs1 lx1 => ⟨k, tru_at e r1 f1, l _ _ _ _ _ h1 s1 (.bl _) f1⟩
/-! tests joined -/
@[reducible] def aAnd (t u : ATT) : ATT := fun xs M Q => t xs M fun c M1 => if c = true then u xs M1 Q else Q false M1
@[reducible] def aOr (t u : ATT) : ATT := fun xs M Q => t xs M fun c M1 => if c = true then Q true M1 else u xs M1 Q
@[reducible] def aNot (t : ATT) : ATT := fun xs M Q => t xs M fun c M1 => Q (!c) M1
theorem conT_step {t : ATT} {xs : AS} {M : Mem} {F : Hp} {σ : L2.St} {H : Hp} {R : Bool → Hp → Prop} {B : Bool → Mem → Prop} (rs : Rs K F xs σ) (fr : Fr K M F H) (lx : LnX K F A W) (h : t xs M B)
    (k : ∀ c M' H' F', B c M' → Same F F' → Fr K M' F' H' → Rs K F' xs σ → LnX K F' A W → R c H') : conT K W A t σ H R :=
  ⟨xs, M, F, B, rs, fr, lx, h, fun c M' H' F' b s f => k c M' H' F' b s f (rs.same s) (lx.mono s)⟩
variable {t u : ATT}
theorem a_and {rest : List Expr} (ha : PT X a (conT K W A t)) (hb : PW X (.BoolOp .And (b :: rest) pos) (conT K W A u)) : PW X (.BoolOp .And (a :: b :: rest) pos) (conT K W A (aAnd t u)) :=
  (pw_and ha hb).to fun σ H Q ⟨xs, M, F, B, rs, fr, lx, h, l⟩ => conT_step rs fr lx h fun c M1 H1 F1 h1 s1 f1 rs1 lx1 => by
    cases c with
    | true => rw [if_pos rfl] at h1 ⊢; exact ⟨xs, M1, F1, B, rs1, f1, lx1, h1, l.mono s1⟩
    | false => rw [if_neg Bool.false_ne_true] at h1 ⊢; exact l _ _ _ _ h1 s1 f1
theorem a_or {rest : List Expr} (ha : PT X a (conT K W A t)) (hb : PW X (.BoolOp .Or (b :: rest) pos) (conT K W A u)) : PW X (.BoolOp .Or (a :: b :: rest) pos) (conT K W A (aOr t u)) :=
  (pw_or ha hb).to fun σ H Q ⟨xs, M, F, B, rs, fr, lx, h, l⟩ => conT_step rs fr lx h fun c M1 H1 F1 h1 s1 f1 rs1 lx1 => by
    cases c with
    | true => rw [if_pos rfl] at h1 ⊢; exact l _ _ _ _ h1 s1 f1
    | false => rw [if_neg Bool.false_ne_true] at h1 ⊢; exact ⟨xs, M1, F1, B, rs1, f1, lx1, h1, l.mono s1⟩
theorem a_not (ha : PT X a (conT K W A t)) : PT X (.UnaryOp .Not a pos) (conT K W A (aNot t)) :=
  (pt_not ha).to fun σ H Q ⟨xs, M, F, B, rs, fr, lx, h, l⟩ => conT_step rs fr lx h fun c M1 H1 F1 h1 s1 f1 _ _ => l _ _ _ _ h1 s1 f1
@[reducible] def aIf (t : ATT) (ta tb : ATE) : ATE := fun xs M Q => t xs M fun c M1 => if c = true then ta xs M1 Q else tb xs M1 Q
theorem a_ifExp (hc : PT X c (conT K W A t)) (ha : PE X a (conE K W A ta)) (hb : PE X b (conE K W A tb)) : PE X (.IfExp c a b pos) (conE K W A (aIf t ta tb)) :=
  (pe_ifExp hc ha hb).to fun σ H Q ⟨xs, M, F, B, rs, fr, lx, h, l⟩ => conT_step rs fr lx h fun c M1 H1 F1 h1 s1 f1 rs1 lx1 => by
    cases c with
    | true => rw [if_pos rfl] at h1 ⊢; exact ⟨xs, M1, F1, B, rs1, f1, lx1, h1, l.mono s1⟩
    | false => rw [if_neg Bool.false_ne_true] at h1 ⊢; exact ⟨xs, M1, F1, B, rs1, f1, lx1, h1, l.mono s1⟩
/-! arguments, displays -/
@[reducible] def aNil : ATA := fun _ M Q => Q [] M
@[reducible] def aCons (te : ATE) (tr : ATA) : ATA := fun xs M Q => te xs M fun x M1 => tr xs M1 fun ys M2 => Q (x :: ys) M2
theorem aa_nil : PA X [] (conA K W A aNil) := (pa_nil (X := X)).to fun σ H Q ⟨xs, M, F, B, rs, fr, lx, h, l⟩ => l _ _ _ _ _ h (Same.refl F) .nil fr
theorem conA_step {t : ATA} {xs : AS} {M : Mem} {F : Hp} {σ : L2.St} {H : Hp} {R : List V → Hp → Prop} {B : List D → Mem → Prop} (rs : Rs K F xs σ) (fr : Fr K M F H) (lx : LnX K F A W) (h : t xs M B)
    (k : ∀ ds M' vs H' F', B ds M' → Same F F' → RvL K F' vs ds → Fr K M' F' H' → Rs K F' xs σ → LnX K F' A W → R vs H') : conA K W A t σ H R :=
  ⟨xs, M, F, B, rs, fr, lx, h, fun d M' v H' F' b s r f => k d M' v H' F' b s r f (rs.same s) (lx.mono s)⟩
theorem aa_cons {es : List Expr} {e : Expr} {te : ATE} {tr : ATA} (ha : PE X e (conE K W A te)) (hr : PA X es (conA K W A tr)) (hs : starEach (e :: es) X.env = (false, eval e X.env) :: starEach es X.env := by rfl) : PA X (e :: es) (conA K W A (aCons te tr)) :=
  (pa_cons ha hr hs).to fun σ H Q ⟨xs, M, F, B, rs, fr, lx, h, l⟩ => con_step rs fr lx h fun x M1 v H1 F1 h1 s1 r1 f1 rs1 lx1 => conA_step rs1 f1 lx1 h1 fun ds M2 vs H2 F2 h2 s2 r2 f2 _ _ => l _ _ _ _ _ h2 (s1.trans s2) (.cons (r1.same s2) r2) f2
variable {es : List Expr} {tr : ATA}
@[reducible] def aTup (t : ATA) : ATE := fun xs M Q => t xs M fun ys M1 => ys.length ≤ sizeLine ∧ Q (.tup ys) M1
@[reducible] def aLst (t : ATA) : ATE := fun xs M Q => t xs M fun ys M1 => ys.length ≤ sizeLine ∧ Q (.lst ys) M1
@[reducible] def aLstO (t : ATA) : ATE := fun xs M Q => t xs M fun ys M1 => ys.length ≤ sizeLine ∧ ∀ a, Q (.r a) ((a, .lst ys) :: M1)
theorem a_tup {x1} (h : PA X es (conA K W A tr)) : PE X (.Tuple es x1 pos) (conE K W A (aTup tr)) :=
  (pe_tup h).to fun σ H Q ⟨xs, M, F, B, rs, fr, lx, h, l⟩ => conA_step rs fr lx h fun ds M1 vs H1 F1 ⟨h0, h1⟩ s1 r1 f1 _ _ => ⟨by rw [r1.1]; exact h0, newT h1 r1 f1 (l.mono s1)⟩
theorem a_lst (h : PA X es (conA K W A tr)) : PE X (.List es pos) (conE K W A (aLst tr)) :=
  (pe_lst h).to fun σ H Q ⟨xs, M, F, B, rs, fr, lx, h, l⟩ => conA_step rs fr lx h fun ds M1 vs H1 F1 ⟨h0, h1⟩ s1 r1 f1 _ _ => ⟨by rw [r1.1]; exact h0, NewL.run (.inl h1) r1 f1 (l.mono s1)⟩
theorem a_lstO (h : PA X es (conA K W A tr)) : PE X (.List es pos) (conE K W A (aLstO tr)) :=
  (pe_lst h).to fun σ H Q ⟨xs, M, F, B, rs, fr, lx, h, l⟩ => conA_step rs fr lx h fun ds M1 vs H1 F1 ⟨h0, h1⟩ s1 r1 f1 _ _ => ⟨by rw [r1.1]; exact h0, NewL.run (.inr h1) r1 f1 (l.mono s1)⟩
/-! calls of what is built in -/
@[reducible] def aCB (ar : List D → Mem → AQ → Prop) (t : ATA) : ATE := fun xs M Q => t xs M fun ds M1 => ar ds M1 Q
theorem cb_con {r : List V → Hp → VK → Prop} {ar : List D → Mem → AQ → Prop} (tr' : OpN K r ar) (σ : L2.St) (H : Hp) (Q : VK) (h : conE K W A (aCB ar tr) σ H Q) : tCB r (conA K W A tr) σ H Q := by
  obtain ⟨xs, M, F, B, rs, fr, lx, h, l⟩ := h
  exact conA_step rs fr lx h fun ds M1 vs H1 F1 h1 s1 r1 f1 _ _ => tr' ds vs M1 F1 H1 B Q h1 r1 f1 (l.mono s1)
variable {e : Expr} {x : Str} {p : Pos}
theorem a_callB {id : String} {r : List V → Hp → VK → Prop} {ar : List D → Mem → AQ → Prop} (hc : CallR X (.builtin id) r ∧ OpN K r ar) (hg : Gl X x) (hm : X.mg x = none) (hv : bootBuiltins x = some (.builtin id)) (ha : PA X (e :: es) (conA K W A tr)) (hn : x ≠ "__name__" := by decide) (hdb : (x == ("__debug__" : Str)) = false := by decide)
    (he : starEach (e :: es) X.env = (false, eval e X.env) :: starEach es X.env := by rfl) (hpl : (backTo pos (starEach es X.env)).any (·.1) = false := by rfl) : PE X (.Call (.Name x p) (e :: es) [] pos) (conE K W A (aCB ar tr)) :=
  (pe_callB hc.1 hg hm hv ha hn hdb he hpl).to fun σ H Q h => cb_con hc.2 σ H Q h
theorem a_callTy {T : String} {r : List V → Hp → VK → Prop} {ar : List D → Mem → AQ → Prop} (hc : CallR X (.type T) r ∧ OpN K r ar) (hg : Gl X x) (hm : X.mg x = none) (hv : bootBuiltins x = some (.type T)) (ha : PA X (e :: es) (conA K W A tr)) (hn : x ≠ "__name__" := by decide) (hdb : (x == ("__debug__" : Str)) = false := by decide)
    (he : starEach (e :: es) X.env = (false, eval e X.env) :: starEach es X.env := by rfl) (hpl : (backTo pos (starEach es X.env)).any (·.1) = false := by rfl) : PE X (.Call (.Name x p) (e :: es) [] pos) (conE K W A (aCB ar tr)) :=
  (pe_callTy hc.1 hg hm hv ha hn hdb he hpl).to fun σ H Q h => cb_con hc.2 σ H Q h
/-! methods of lists and texts -/
def D.isK (M : Mem) : String → D → Prop
  | "list", .r a => ∃ xs u, At M a (.lst xs) u
  | "list", .lst _ => True
  | "str", .str _ => True
  | _, _ => False
@[reducible] def aBM (T : String) (ar : D → List D → Mem → AQ → Prop) (to : ATE) (t : ATA) : ATE := fun xs M Q => to xs M fun x M1 => x.isK M1 T ∧ t xs M1 fun ys M2 => ar x ys M2 Q
@[reducible] def aBM0 (T : String) (ar : D → List D → Mem → AQ → Prop) (to : ATE) : ATE := fun xs M Q => to xs M fun x M1 => x.isK M1 T ∧ ar x [] M1 Q
theorem isK_at {M : Mem} {T : String} {x : D} {v : V} {F H : Hp} (h : x.isK M T) (r : Rv K F v x) (f : Fr K M F H) : tyV K T v H := by
  unfold D.isK at h
  split at h
  · obtain ⟨xs, u, ha⟩ := h
    cases r
    obtain ⟨vs, e1, l⟩ := f.at_ _ ha.mem
    exact .inl ⟨rfl, vs, SqL.of e1⟩
  · obtain ⟨a, vs, rfl, s, l⟩ := (Ls.d (M := M)).at_ r f
    exact .inl ⟨rfl, vs, s⟩
  · cases r; rfl
  · exact h.elim
variable {T name id : String} {m : Str} {r : V → List V → Hp → VK → Prop} {ar : D → List D → Mem → AQ → Prop} {o : Expr} {tob : ATE} {apos : Pos}
theorem bm_con (tr' : OpM K r ar) (σ : L2.St) (H : Hp) (Q : VK) (h : conE K W A (aBM T ar tob tr) σ H Q) : tBM K T r (conE K W A tob) (conA K W A tr) σ H Q := by
  obtain ⟨xs, M, F, B, rs, fr, lx, h, l⟩ := h
  exact con_step rs fr lx h fun x M1 v H1 F1 ⟨k1, h1⟩ s1 r1 f1 rs1 lx1 => ⟨isK_at k1 r1 f1, conA_step rs1 f1 lx1 h1 fun ds M2 vs H2 F2 h2 s2 r2 f2 _ _ => tr' x ds v vs M2 F2 H2 B Q h2 (r1.same s2) r2 f2 (l.mono (s1.trans s2))⟩
theorem bm0_con (tr' : OpM K r ar) (σ : L2.St) (H : Hp) (Q : VK) (h : conE K W A (aBM0 T ar tob) σ H Q) : tBM0 K T r (conE K W A tob) σ H Q := by
  obtain ⟨xs, M, F, B, rs, fr, lx, h, l⟩ := h
  exact con_step rs fr lx h fun x M1 v H1 F1 ⟨k1, h1⟩ s1 r1 f1 rs1 lx1 => ⟨isK_at k1 r1 f1, tr' x [] v [] M1 F1 H1 B Q h1 r1 .nil f1 (l.mono s1)⟩
theorem a_bm {ex : Expr} (tr' : OpM K r ar) (h : PE X ex (tBM X.K T r (conE K W A tob) (conA K W A tr))) (hK : X.K = K := by rfl) : PE X ex (conE K W A (aBM T ar tob tr)) := by
  subst hK
  exact h.to fun σ H Q q => bm_con tr' σ H Q q
theorem a_bm0 {ex : Expr} (tr' : OpM K r ar) (h : PE X ex (tBM0 X.K T r (conE K W A tob))) (hK : X.K = K := by rfl) : PE X ex (conE K W A (aBM0 T ar tob)) := by
  subst hK
  exact h.to fun σ H Q q => bm0_con tr' σ H Q q
/-! fields -/
inductive InsAt (M : Mem) : D → Addr → List (Str × D) → Prop
  | d {C : Addr} {fs : List (Str × D)} : InsAt M (.ins C fs) C fs
  | o {a C : Addr} {fs : List (Str × D)} {u : Ob → Mem} : At M a (.ins C fs) u → InsAt M (.r a) C fs
theorem InsAt.at_ {M : Mem} {x : D} {C : Addr} {fs : List (Str × D)} {v : V} {F H : Hp} (h : InsAt M x C fs) (r : Rv K F v x) (f : Fr K M F H) : ∃ a dx vfs, v = .ref a ∧ H a = some (.ins C dx vfs) ∧ RvF K F vfs fs := by
  cases h with
  | d =>
    obtain ⟨a, dx, vfs, rfl, e, l⟩ := r.ins_inv
    exact ⟨a, dx, vfs, rfl, f.sub _ _ e, l⟩
  | o h =>
    cases r
    obtain ⟨dx, vfs, e, l⟩ := f.at_ _ h.mem
    exact ⟨_, dx, vfs, rfl, e, l⟩
@[reducible] def aFld (K : PySem.W.Frag) (ta : ATE) (f : Str) : ATE := fun xs M Q => ta xs M fun x M1 => ∃ C fs d, InsAt M1 x C fs ∧ Cls K C ∧ NoAttr K C f ∧ fs.lookup f = some d ∧ Q d M1
theorem a_fld {f : Str} (he : PE X e (conE K W A ta)) (hb : attributeBase e f X.env (eval e X.env) = eval e X.env := by rfl) (hK : X.K = K := by rfl) : PE X (.Attribute e f pos) (conE K W A (aFld K ta f)) := by
  subst hK
  exact (pe_fld he hb).to fun σ H Q ⟨xs, M, F, B, rs, fr, lx, h, l⟩ => con_step rs fr lx h fun x M1 v H1 F1 ⟨C, fs, d, hi, cl, na, lk, h1⟩ s1 r1 f1 _ _ => by
    obtain ⟨a, dx, vfs, rfl, ea, rf⟩ := hi.at_ r1 f1
    obtain ⟨u, eu, ru⟩ := rf.lookup lk
    exact ⟨a, C, dx, vfs, u, rfl, ea, cl, na, eu, l _ _ _ _ _ h1 s1 ru f1⟩
/-! slices -/
abbrev ATO := AS → Mem → (Option Int → Mem → Prop) → Prop
def LnO (K : PySem.W.Frag) (F : Hp) (B : Option Int → Mem → Prop) (Q : Option Int → Hp → Prop) : Prop := ∀ b M' H' F', B b M' → Same F F' → Fr K M' F' H' → Q b H'
def conO (K : PySem.W.Frag) (W : WX) (A : AX) (t : ATO) : TO := fun σ H Q => ∃ xs M F B, Rs K F xs σ ∧ Fr K M F H ∧ LnX K F A W ∧ t xs M B ∧ LnO K F B Q
@[reducible] def aNoPart : ATO := fun _ M Q => Q none M
@[reducible] def aPart (t : ATE) : ATO := fun xs M Q => t xs M fun x M1 => ∃ i, x = .int i ∧ Q (some i) M1
theorem _root_.L2.PO.to {e : Option Expr} {t t' : TO} (h : PO X e t) (m : ∀ σ H Q, t' σ H Q → t σ H Q) : PO X e t' := ⟨fun pins s σ H Q I q => h.run pins s σ H Q I (m _ _ _ q)⟩
theorem ao_none : PO X none (conO K W A aNoPart) := po_none.to fun σ H Q ⟨xs, M, F, B, rs, fr, lx, h, l⟩ => l _ _ _ _ h (Same.refl F) fr
theorem ao_some (h : PE X e (conE K W A ta)) : PO X (some e) (conO K W A (aPart ta)) := (po_some h).to fun σ H Q ⟨xs, M, F, B, rs, fr, lx, h, l⟩ => con_step rs fr lx h fun x M1 v H1 F1 ⟨i, e, h1⟩ s1 r1 f1 _ _ => by
  subst e
  cases r1
  exact ⟨i, rfl, l _ _ _ _ h1 s1 f1⟩
def OpS (K : PySem.W.Frag) (r : V → Option Int → Option Int → Hp → VK → Prop) (ar : D → Option Int → Option Int → Mem → AQ → Prop) : Prop := ∀ x l h v M F H B Q, ar x l h M B → Rv K F v x → Fr K M F H → Ln K F B Q → r v l h H Q
@[reducible] def aSl (ar : D → Option Int → Option Int → Mem → AQ → Prop) (te : ATE) (tl th : ATO) : ATE := fun xs M Q => te xs M fun x M1 => tl xs M1 fun l M2 => th xs M2 fun u M3 => ar x l u M3 Q
theorem a_slice {r : V → Option Int → Option Int → Hp → VK → Prop} {ar : D → Option Int → Option Int → Mem → AQ → Prop} {lo hi : Option Expr} {tl th : ATO} {p2 : Pos} (hr : SlR X r ∧ OpS K r ar) (he : PE X e (conE K W A ta)) (hl : PO X lo (conO K W A tl)) (hu : PO X hi (conO K W A th)) :
    PE X (.Subscript e (.Slice lo hi none p2) pos) (conE K W A (aSl ar ta tl th)) :=
  (pe_slice hr.1 he hl hu).to fun σ H Q ⟨xs, M, F, B, rs, fr, lx, h, l⟩ => con_step rs fr lx h fun x M1 v H1 F1 h1 s1 r1 f1 rs1 lx1 =>
    ⟨xs, M1, F1, _, rs1, f1, lx1, h1, fun o M2 H2 F2 h2 s2 f2 => ⟨xs, M2, F2, _, rs1.same s2, f2, lx1.mono s2, h2, fun o' M3 H3 F3 h3 s3 f3 => hr.2 x o o' v M3 F3 H3 B Q h3 ((r1.same s2).same s3) f3 (l.mono ((s1.trans s2).trans s3))⟩⟩
@[reducible] def aRev (K : PySem.W.Frag) (te : ATE) : ATE := fun xs M Q => te xs M fun x M1 => ∃ ds, Ls M1 x ds ∧ NewL ds.reverse M1 Q
theorem a_revL {k : Nat} {p1 p2 p3 : Pos} (he : PE X e (conE K W A ta)) (hK : X.K = K := by rfl) : PE X (.Subscript e (.Slice none none (some (.UnaryOp .USub (.Constant (.int 1) k p1) p2)) p3) pos) (conE K W A (aRev K ta)) := by
  subst hK
  exact (pe_revL he).to fun σ H Q ⟨xs, M, F, B, rs, fr, lx, h, l⟩ => con_step rs fr lx h fun x M1 v H1 F1 ⟨ds, hl, h1⟩ s1 r1 f1 rs1 lx1 => by
    obtain ⟨a, vs, rfl, s, rl⟩ := hl.at_ r1 f1
    exact ⟨a, vs, rfl, s, NewL.run h1 rl.reverse f1 (l.mono s1)⟩
end
end AV

set_option Elab.async false
set_option linter.all false
set_option maxRecDepth 100000
set_option maxHeartbeats 4000000
/-! A3: targets, walks, comprehensions, statements, loops, calls of own defs (own work). -/
namespace AV
open PySem PySem.Spec PyProof.Rows L2 G TL
structure AEnds where
  nx : AS → Mem → Prop
  rt : AQ
  bk : AS → Mem → Prop := fun _ _ => False
  ct : AS → Mem → Prop := fun _ _ => False
abbrev ATS := AEnds → AS → Mem → Prop
abbrev ATG := D → AS → Mem → (AS → Mem → Prop) → Prop
abbrev ATGs := List D → AS → Mem → (AS → Mem → Prop) → Prop
abbrev ATI := AS → Mem → (List D → Mem → Prop) → Prop
section
variable (K : PySem.W.Frag)
def LnS (F : Hp) (B : AS → Mem → Prop) (Q : L2.St → Hp → Prop) : Prop := ∀ xs M σ H F', B xs M → Same F F' → Rs K F' xs σ → Fr K M F' H → Q σ H
structure LnE (F : Hp) (B : AEnds) (Q : Ends) : Prop where
  nx : LnS K F B.nx Q.nx
  rt : Ln K F B.rt Q.rt
  bk : LnS K F B.bk Q.bk
  ct : LnS K F B.ct Q.ct
def conS (W : WX) (A : AX) (t : ATS) : TS := fun Q σ H => ∃ xs M F B, Rs K F xs σ ∧ Fr K M F H ∧ LnX K F A W ∧ t B xs M ∧ LnE K F B Q
/-- off the slots vs nothing is changed -/
def Off (vs : List Nat) (σ σ' : L2.St) : Prop := σ'.length = σ.length ∧ ∀ i, i ∉ vs → σ'[i]? = σ[i]?
def conG (W : WX) (A : AX) (vs : List Nat) (t : ATG) : TG := fun v σ H Q => ∃ x xs M F B, Rv K F v x ∧ Rs K F xs σ ∧ Fr K M F H ∧ LnX K F A W ∧ t x xs M B ∧ ∀ xs' M' σ' H' F', B xs' M' → Same F F' → Rs K F' xs' σ' → Fr K M' F' H' → Off vs σ σ' → Q σ' H'
def conGs (W : WX) (A : AX) (vs : List Nat) (t : ATGs) : TGs := fun v σ H Q => ∃ x xs M F B, RvL K F v x ∧ Rs K F xs σ ∧ Fr K M F H ∧ LnX K F A W ∧ t x xs M B ∧ ∀ xs' M' σ' H' F', B xs' M' → Same F F' → Rs K F' xs' σ' → Fr K M' F' H' → Off vs σ σ' → Q σ' H'
/-- J walks the items its, as long as F stands -/
structure Wk (F : Hp) (its : List D) (J : It) : Prop where
  ex : ∃ (G : Hp → Prop) (Y : Nat → Hp → V → Hp → Prop), Walk J its.length G Y ∧ (∀ M' F' H', Same F F' → Fr K M' F' H' → G H') ∧
    ∀ i H1 x H2 F1 M1 d, Y i H1 x H2 → its[i]? = some d → Same F F1 → Fr K M1 F1 H1 → ∃ F2, Same F1 F2 ∧ Fr K M1 F2 H2 ∧ Rv K F2 x d
def conI (W : WX) (A : AX) (wi : ATI) : TI := fun σ H R => ∃ xs M F B, Rs K F xs σ ∧ Fr K M F H ∧ LnX K F A W ∧ wi xs M B ∧ ∀ its M' J H' F', B its M' → Same F F' → Fr K M' F' H' → Wk K F' its J → R J H'
end
section
variable {K : PySem.W.Frag} {F F' : Hp} {W : WX} {A : AX} {X : Cx}
theorem LnS.mono {B : AS → Mem → Prop} {Q : L2.St → Hp → Prop} (h : LnS K F B Q) (s : Same F F') : LnS K F' B Q := fun xs M σ H F2 b s2 => h xs M σ H F2 b (s.trans s2)
theorem LnE.mono {B : AEnds} {Q : Ends} (h : LnE K F B Q) (s : Same F F') : LnE K F' B Q := ⟨h.nx.mono s, h.rt.mono s, h.bk.mono s, h.ct.mono s⟩
theorem Off.refl {vs : List Nat} {σ : L2.St} : Off vs σ σ := ⟨rfl, fun _ _ => rfl⟩
theorem Off.trans {vs ws : List Nat} {σ σ1 σ2 : L2.St} (a : Off vs σ σ1) (b : Off ws σ1 σ2) : Off (vs ++ ws) σ σ2 := ⟨b.1.trans a.1, fun i h => by
  rw [List.mem_append, not_or] at h
  exact (b.2 i h.2).trans (a.2 i h.1)⟩
theorem Off.set {i : Nat} {σ : L2.St} {v : Option V} : Off [i] σ (σ.set i v) := ⟨List.length_set, fun j h => List.getElem?_set_ne fun e => h (by simp [e])⟩
theorem wipe_get {σ : L2.St} {i : Nat} : ∀ {vs : List Nat}, i ∉ vs → (L2.wipe σ vs)[i]? = σ[i]?
  | [], _ => rfl
  | v :: vs, h => by
    rw [List.mem_cons, not_or] at h
    unfold L2.wipe
    rw [List.getElem?_set_ne fun e => h.1 e.symm, wipe_get h.2]
theorem wipe_in {σ : L2.St} {i : Nat} : ∀ {vs : List Nat}, i ∈ vs → i < σ.length → (L2.wipe σ vs)[i]? = some none
  | v :: vs, h, hi => by
    unfold L2.wipe
    by_cases e : v = i
    · subst e
      rw [List.getElem?_set_self (by rw [L2.wipe_length]; exact hi)]
    · rw [List.getElem?_set_ne e]
      exact wipe_in ((List.mem_cons.mp h).resolve_left fun z => e z.symm) hi
theorem wipe_off {σ σ' : L2.St} {vs : List Nat} (o : Off vs (L2.wipe σ vs) σ') : L2.wipe σ' vs = L2.wipe σ vs := by
  refine List.ext_getElem? fun i => ?_
  by_cases h : i ∈ vs
  · by_cases hi : i < σ.length
    · rw [wipe_in h hi, wipe_in h (by rw [o.1, L2.wipe_length]; exact hi)]
    · rw [List.getElem?_eq_none (by rw [L2.wipe_length, o.1, L2.wipe_length]; omega), List.getElem?_eq_none (by rw [L2.wipe_length]; omega)]
  · rw [wipe_get h, o.2 i h]
/-! ### targets -/
@[reducible] def agName (i : Nat) : ATG := fun d xs M Q => Q (xs.set i (some d)) M
@[reducible] def agNil : ATGs := fun ds xs M Q => ds = [] ∧ Q xs M
@[reducible] def agCons (t : ATG) (u : ATGs) : ATGs := fun ds xs M Q => ∃ d r, ds = d :: r ∧ t d xs M fun xs' M' => u r xs' M' Q
@[reducible] def agTup (n : Nat) (t : ATGs) : ATG := fun d xs M Q => ∃ ds, d = .tup ds ∧ ds.length = n ∧ t ds xs M Q
theorem _root_.L2.PG.to {e : Expr} {t t' : TG} (h : PG X e t) (m : ∀ v σ H Q, t' v σ H Q → t v σ H Q) : PG X e t' := ⟨fun pins s σ H v u Q I r q => h.run pins s σ H v u Q I r (m _ _ _ _ q)⟩
theorem _root_.L2.PGs.to {e : List Expr} {t t' : TGs} (h : PGs X e t) (m : ∀ v σ H Q, t' v σ H Q → t v σ H Q) : PGs X e t' := ⟨fun pins s σ H v u Q I r q => h.run pins s σ H v u Q I r (m _ _ _ _ q)⟩
variable {pos : Pos} {e : Expr} {es : List Expr}
theorem ag_name {i : Nat} (h : PG X e (gName i)) : PG X e (conG K W A [i] (agName i)) := h.to fun v σ H Q ⟨x, xs, M, F, B, rv, rs, fr, lx, h, l⟩ => l _ _ _ _ _ h (Same.refl F) (rs.set rv) fr Off.set
theorem ags_nil : PGs X [] (conGs K W A [] agNil) := pgs_nil.to fun v σ H Q ⟨x, xs, M, F, B, rv, rs, fr, lx, ⟨e, h⟩, l⟩ => by
  subst e
  exact ⟨rv.inv_nil, l _ _ _ _ _ h (Same.refl F) rs fr Off.refl⟩
theorem ags_cons {t : ATG} {u : ATGs} {vs ws : List Nat} (h1 : PG X e (conG K W A vs t)) (h2 : PGs X es (conGs K W A ws u)) (hs : (assignEach (e :: es) X.env).map (·.2) = assign e X.env :: (assignEach es X.env).map (·.2) := by rfl) :
    PGs X (e :: es) (conGs K W A (vs ++ ws) (agCons t u)) := (pgs_cons h1 h2 hs).to fun v σ H Q ⟨x, xs, M, F, B, rv, rs, fr, lx, ⟨d, r, e, h⟩, l⟩ => by
  subst e
  obtain ⟨v, vr, rfl, r1, r2⟩ := rv.inv
  exact ⟨v, vr, rfl, d, xs, M, F, _, r1, rs, fr, lx, h, fun xs' M' σ' H' F1 b s rs' fr' o => ⟨r, xs', M', F1, _, r2.same s, rs', fr', lx.mono s, b, fun xs2 M2 σ2 H2 F2 b2 s2 rs2 fr2 o2 => l _ _ _ _ _ b2 (s.trans s2) rs2 fr2 (o.trans o2)⟩⟩
theorem ag_tup {t : ATGs} {vs : List Nat} {k n : Nat} (hc : X.calm = true) (h : PGs X es (conGs K W A vs t)) (hn : (assignEach es X.env).length = n := by rfl) (hst : (assignEach es X.env).findIdx? (·.1) = none := by rfl) (hK : X.K = K := by rfl) :
    PG X (.Tuple es k pos) (conG K W A vs (agTup n t)) := by
  subst hK
  exact (pg_tup hc h hn hst).to fun v σ H Q ⟨x, xs, M, F, B, rv, rs, fr, lx, ⟨ds, e, hl, h⟩, l⟩ => by
    subst e
    obtain ⟨a, vs', rfl, hq, r⟩ := rv.tup_at fr
    exact ⟨a, vs', rfl, hq, r.1.trans hl, ds, xs, M, F, B, r, rs, fr, lx, h, l⟩
/-! stores to a place of a list -/
def aSet (o i d : D) (M : Mem) (Q : Mem → Prop) : Prop := ∃ a xs k j u, o = .r a ∧ i = .int k ∧ At M a (.lst xs) u ∧ ixN xs.length k = some j ∧ Q (u (.lst (xs.set j d)))
theorem set_con {o i d : D} {v1 v2 v3 : V} {M : Mem} {F H : Hp} {B : Mem → Prop} {Q : Hp → Prop} (h : aSet o i d M B) (r1 : Rv K F v1 o) (r2 : Rv K F v2 i) (r3 : Rv K F v3 d) (fr : Fr K M F H) (l : ∀ M' H', B M' → Fr K M' F H' → Q H') : rSetL v1 v2 v3 H Q := by
  obtain ⟨a, xs, k, j, u, rfl, rfl, ha, hj, q⟩ := h
  cases r1
  cases r2
  obtain ⟨vs, e1, rl⟩ := fr.at_ _ ha.mem
  exact ⟨a, vs, k, j, rfl, rfl, e1, by rw [rl.1]; exact hj, l _ _ q (fr.put ha ⟨_, upd_same, rl.set r3⟩)⟩
@[reducible] def agSub (to ti : ATE) : ATG := fun d xs M Q => to xs M fun o M1 => ti xs M1 fun i M2 => aSet o i d M2 fun M3 => Q xs M3
theorem ag_sub {tob ti : ATE} (h : PG X e (gSub (conE K W A tob) (conE K W A ti) rSetL)) : PG X e (conG K W A [] (agSub tob ti)) := h.to fun v σ H Q ⟨x, xs, M, F, B, rv, rs, fr, lx, h, l⟩ =>
  con_step rs fr lx h fun o M1 v1 H1 F1 h1 s1 r1 f1 rs1 lx1 => con_step rs1 f1 lx1 h1 fun i M2 v2 H2 F2 h2 s2 r2 f2 rs2 lx2 =>
    set_con h2 (r1.same s2) r2 ((rv.same s1).same s2) f2 fun M3 H3 b f3 => l _ _ _ _ _ b (s1.trans s2) rs2 f3 Off.refl
/-! ### walks -/
theorem _root_.L2.PI.to {tg e : Expr} {t t' : TI} (h : PI X tg e t) (m : ∀ σ H R, t' σ H R → t σ H R) : PI X tg e t' := ⟨fun pins s σ H R I q => h.run pins s σ H R I (m _ _ _ q)⟩
def chars (z : Str) : List D := (tl z).map fun c => .str ⟨#[c]⟩
inductive Its : D → List D → Prop
  | scr {xs : List D} : Its (.scr xs) xs
  | lst {xs : List D} : Its (.lst xs) xs
  | tup {xs : List D} : Its (.tup xs) xs
  | str {z : Str} : Its (.str z) (chars z)
@[reducible] def aiOf (ta : ATE) : ATI := fun xs M R => ta xs M fun x M1 => ∃ its, Its x its ∧ R its M1
theorem wk_list {a : Addr} {vs : List V} {its : List D} (hs : SqL K F a vs) (r : RvL K F vs its) : Wk K F its (Itl K a) :=
  ⟨fun H => SqL K H a vs, YAt vs, by rw [← r.1]; exact walk_list, fun M' F' H' s f => (hs.ext s).ext f.sub, fun i H1 x H2 F1 M1 d ⟨e1, e2⟩ ed s f => ⟨F1, Same.refl _, by rw [e1]; exact f, (r.2 i x d e2 ed).same s⟩⟩
theorem wk_tup {a : Addr} {vs : List V} {its : List D} (hs : SqT K F a vs) (r : RvL K F vs its) : Wk K F its (Itt K a) :=
  ⟨fun H => SqT K H a vs, YAt vs, by rw [← r.1]; exact walk_tup, fun M' F' H' s f => (hs.ext s).ext f.sub, fun i H1 x H2 F1 M1 d ⟨e1, e2⟩ ed s f => ⟨F1, Same.refl _, by rw [e1]; exact f, (r.2 i x d e2 ed).same s⟩⟩
theorem wk_str {z : Str} : Wk K F (chars z) (L2.Its z) :=
  ⟨fun _ => True, fun i H v H' => H' = H ∧ ∃ c, z.cps[i]? = some c ∧ v = .str ⟨#[c]⟩, by
    have e : (chars z).length = z.cps.size := by unfold chars tl; rw [List.length_map, Array.length_toList]
    rw [e]; exact walk_str, fun _ _ _ _ _ => trivial, fun i H1 x H2 F1 M1 d ⟨e1, c, hc, ex⟩ ed s f => ⟨F1, Same.refl _, by rw [e1]; exact f, by
      subst ex
      unfold chars tl at ed
      rw [List.getElem?_map, Array.getElem?_toList, hc] at ed
      cases ed
      exact .str _⟩⟩
theorem wk_range {lo : Int} {n : Nat} : Wk K F ((List.range n).map fun (i : Nat) => D.int (lo + i)) (Itr lo n) :=
  ⟨fun _ => True, YFn fun i => .int (lo + i), by rw [List.length_map, List.length_range]; exact walk_range, fun _ _ _ _ _ => trivial, fun i H1 x H2 F1 M1 d ⟨e1, e2⟩ ed s f => ⟨F1, Same.refl _, by rw [e1]; exact f, by
    subst e2
    rw [List.getElem?_map] at ed
    cases q : (List.range n)[i]? with
    | none => rw [q] at ed; cases ed
    | some j =>
      rw [q] at ed
      cases ed
      have := (List.getElem?_eq_some_iff.mp q).2
      rw [List.getElem_range] at this
      subst this
      exact .int _⟩⟩
theorem ai_of {tg : Expr} {ta : ATE} (h : PI X tg e (gIt K (conE K W A ta))) : PI X tg e (conI K W A (aiOf ta)) := h.to fun σ H R ⟨xs, M, F, B, rs, fr, lx, h, l⟩ =>
  con_step rs fr lx h fun x M1 v H1 F1 ⟨its, hi, h1⟩ s1 r1 f1 _ _ => by
    cases hi with
    | scr =>
      obtain ⟨a, vs, rfl, s, rl⟩ := r1.scr_inv
      exact .inl ⟨a, rfl, ⟨vs, s.ext f1.sub⟩, l _ _ _ _ _ h1 s1 f1 (wk_list s rl)⟩
    | lst =>
      obtain ⟨a, vs, rfl, s, rl⟩ := r1.lst_inv
      exact .inl ⟨a, rfl, ⟨vs, s.ext f1.sub⟩, l _ _ _ _ _ h1 s1 f1 (wk_list s rl)⟩
    | tup =>
      obtain ⟨a, vs, rfl, s, rl⟩ := r1.tup_inv
      exact .inr (.inl ⟨a, rfl, ⟨vs, s.ext f1.sub⟩, l _ _ _ _ _ h1 s1 f1 (wk_tup s rl)⟩)
    | str =>
      cases r1
      exact .inr (.inr ⟨_, rfl, l _ _ _ _ _ h1 s1 f1 wk_str⟩)
@[reducible] def aiR1 (t : ATA) : ATI := fun xs M R => t xs M fun ds M1 => ∃ j : Int, ds = [.int j] ∧ (-(2 ^ 62) ≤ j ∧ j < 2 ^ 62) ∧ R ((List.range j.toNat).map fun (i : Nat) => D.int i) M1
@[reducible] def aiR2 (t : ATA) : ATI := fun xs M R => t xs M fun ds M1 => ∃ i j : Int, ds = [.int i, .int j] ∧ (-(2 ^ 62) ≤ i ∧ i < 2 ^ 62 ∧ -(2 ^ 62) ≤ j ∧ j < 2 ^ 62) ∧ R ((List.range (j - i).toNat).map fun (k : Nat) => D.int (i + k)) M1
theorem ai_r1 {tg : Expr} {t : ATA} (h : PI X tg e (iRng1 (conA K W A t))) : PI X tg e (conI K W A (aiR1 t)) := h.to fun σ H R ⟨xs, M, F, B, rs, fr, lx, h, l⟩ =>
  conA_step rs fr lx h fun ds M1 vs H1 F1 ⟨j, e, ⟨b1, b2⟩, h1⟩ s1 r1 f1 _ _ => by
    subst e
    obtain ⟨v, vs, rfl, q, r2⟩ := r1.inv
    cases q
    obtain rfl := r2.inv_nil
    have w := wk_range (K := K) (F := F1) (lo := 0) (n := j.toNat)
    simp only [Int.zero_add] at w
    exact ⟨j, rfl, b1, b2, l _ _ _ _ _ h1 s1 f1 w⟩
theorem ai_r2 {tg : Expr} {t : ATA} (h : PI X tg e (iRng2 (conA K W A t))) : PI X tg e (conI K W A (aiR2 t)) := h.to fun σ H R ⟨xs, M, F, B, rs, fr, lx, h, l⟩ =>
  conA_step rs fr lx h fun ds M1 vs H1 F1 ⟨i, j, e, b, h1⟩ s1 r1 f1 _ _ => by
    subst e
    obtain ⟨v, vs, rfl, q, r2⟩ := r1.inv
    cases q
    obtain ⟨v, vs, rfl, q, r3⟩ := r2.inv
    cases q
    obtain rfl := r3.inv_nil
    exact ⟨i, j, rfl, b, l _ _ _ _ _ h1 s1 f1 wk_range⟩
end
end AV

set_option Elab.async false
set_option linter.all false
set_option maxRecDepth 100000
set_option maxHeartbeats 4000000
/-! A4: comprehensions, statements, loops, calls of own defs and methods, new instances, errors (own work). -/
namespace AV
open PySem PySem.Spec PyProof.Rows L2 G TL
/-- what is known may be told in another way: less of it, or an object that is written no more as data -/
def Fz (K : PySem.W.Frag) (xs : AS) (M : Mem) (xs' : AS) (M' : Mem) : Prop := ∀ F σ H, Rs K F xs σ → Fr K M F H → ∃ F', Same F F' ∧ Rs K F' xs' σ ∧ Fr K M' F' H
def FzV (K : PySem.W.Frag) (d : D) (M : Mem) (d' : D) (M' : Mem) : Prop := ∀ F v H, Rv K F v d → Fr K M F H → ∃ F', Same F F' ∧ Rv K F' v d' ∧ Fr K M' F' H
/-- one place of a value told anew -/
inductive Sb (a : Addr) (e : D) : D → D → Prop
  | hit : Sb a e (.r a) e
  | same {d : D} : Sb a e d d
  | tup {ds ds' : List D} : ds.length = ds'.length → (∀ (i : Nat) d d', ds[i]? = some d → ds'[i]? = some d' → Sb a e d d') → Sb a e (.tup ds) (.tup ds')
  | lst {ds ds' : List D} : ds.length = ds'.length → (∀ (i : Nat) d d', ds[i]? = some d → ds'[i]? = some d' → Sb a e d d') → Sb a e (.lst ds) (.lst ds')
def SbL (a : Addr) (e : D) (ds ds' : List D) : Prop := ds.length = ds'.length ∧ ∀ (i : Nat) d d', ds[i]? = some d → ds'[i]? = some d' → Sb a e d d'
def SbF (a : Addr) (e : D) (fs fs' : List (Str × D)) : Prop := fs.length = fs'.length ∧ ∀ (i : Nat) p q, fs[i]? = some p → fs'[i]? = some q → p.1 = q.1 ∧ Sb a e p.2 q.2
inductive SbO (a : Addr) (e : D) : Ob → Ob → Prop
  | same {o : Ob} : SbO a e o o
  | lst {ds ds' : List D} : SbL a e ds ds' → SbO a e (.lst ds) (.lst ds')
  | ins {C : Addr} {fs fs' : List (Str × D)} : SbF a e fs fs' → SbO a e (.ins C fs) (.ins C fs')
inductive SbS (a : Addr) (e : D) : AS → AS → Prop
  | nil : SbS a e [] []
  | hit {xs xs' : AS} : SbS a e xs xs' → SbS a e (some (.r a) :: xs) (some e :: xs')
  | same {x : Option D} {xs xs' : AS} : SbS a e xs xs' → SbS a e (x :: xs) (x :: xs')
  | deep {d d' : D} {xs xs' : AS} : Sb a e d d' → SbS a e xs xs' → SbS a e (some d :: xs) (some d' :: xs')
inductive SbM (a : Addr) (e : D) : Mem → Mem → Prop
  | nil : SbM a e [] []
  | rest {M : Mem} : SbM a e M M
  | same {p : Addr × Ob} {M M' : Mem} : SbM a e M M' → SbM a e (p :: M) (p :: M')
  | deep {b : Addr} {o o' : Ob} {M M' : Mem} : SbO a e o o' → SbM a e M M' → SbM a e ((b, o) :: M) ((b, o') :: M')
section
variable {K : PySem.W.Frag} {F F' H : Hp} {a : Addr} {e d d' : D} {v : V} {vs : List V} {ds ds' : List D} {xs xs' : AS} {M M' M2 : Mem} {σ : L2.St} {o : Ob}
theorem Sb.rv (h : Sb a e d d') : ∀ {v}, Rv K F (.ref a) e → Rv K F v d → Rv K F v d' := by
  induction h with
  | hit => intro v re r; cases r; exact re
  | same => intro v _ r; exact r
  | tup hl _ ih =>
    intro v re r
    obtain ⟨a, vs, rfl, s, l⟩ := r.tup_inv
    refine .of_tup s ⟨l.1.trans hl, fun i w d' h1 h2 => ?_⟩
    have hi := (List.getElem?_eq_some_iff.mp h2).1
    have q := List.getElem?_eq_getElem (show i < _ from by rw [hl]; exact hi)
    exact ih i _ d' q h2 re (l.2 i w _ h1 q)
  | lst hl _ ih =>
    intro v re r
    obtain ⟨a, vs, rfl, s, l⟩ := r.lst_inv0
    refine .of_lst s ⟨l.1.trans hl, fun i w d' h1 h2 => ?_⟩
    have hi := (List.getElem?_eq_some_iff.mp h2).1
    have q := List.getElem?_eq_getElem (show i < _ from by rw [hl]; exact hi)
    exact ih i _ d' q h2 re (l.2 i w _ h1 q)
theorem SbL.rv (h : SbL a e ds ds') (re : Rv K F (.ref a) e) (r : RvL K F vs ds) : RvL K F vs ds' := ⟨r.1.trans h.1, fun i w d' h1 h2 => by
  have hi := (List.getElem?_eq_some_iff.mp h2).1
  have q := List.getElem?_eq_getElem (show i < ds.length from by rw [h.1]; exact hi)
  exact (h.2 i _ d' q h2).rv re (r.2 i w _ h1 q)⟩
theorem SbL.nil : SbL a e [] [] := ⟨rfl, fun i d d' h => by simp at h⟩
theorem SbL.cons (h : Sb a e d d') (t : SbL a e ds ds') : SbL a e (d :: ds) (d' :: ds') := ⟨by simp [t.1], fun i x y h1 h2 => by
  cases i with
  | zero => cases h1; cases h2; exact h
  | succ i => exact t.2 i x y (by simpa using h1) (by simpa using h2)⟩
theorem SbF.nil : SbF a e [] [] := ⟨rfl, fun i d d' h => by simp at h⟩
theorem SbF.cons {f : Str} {fs fs' : List (Str × D)} (h : Sb a e d d') (t : SbF a e fs fs') : SbF a e ((f, d) :: fs) ((f, d') :: fs') := ⟨by simp [t.1], fun i x y h1 h2 => by
  cases i with
  | zero => cases h1; cases h2; exact ⟨rfl, h⟩
  | succ i => exact t.2 i x y (by simpa using h1) (by simpa using h2)⟩
theorem SbF.rv {vfs : List (Str × V)} {fs fs' : List (Str × D)} (h : SbF a e fs fs') (re : Rv K F (.ref a) e) (r : RvF K F vfs fs) : RvF K F vfs fs' := ⟨r.1.trans h.1, fun i w d' h1 h2 => by
  have hi := (List.getElem?_eq_some_iff.mp h2).1
  have q := List.getElem?_eq_getElem (show i < fs.length from by rw [h.1]; exact hi)
  obtain ⟨e1, z⟩ := h.2 i _ d' q h2
  obtain ⟨e2, y⟩ := r.2 i w _ h1 q
  exact ⟨e2.trans e1, z.rv re y⟩⟩
theorem SbO.ro {b : Addr} {o o' : Ob} (h : SbO a e o o') (re : Rv K F (.ref a) e) (r : RO K F H b o) : RO K F H b o' := by
  cases h with
  | same => exact r
  | lst h => obtain ⟨vs, e1, l⟩ := r; exact ⟨vs, e1, h.rv re l⟩
  | ins h => obtain ⟨dx, vs, e1, l⟩ := r; exact ⟨dx, vs, e1, h.rv re l⟩
theorem SbS.rs (h : SbS a e xs xs') (re : Rv K F (.ref a) e) : ∀ {σ}, Rs K F xs σ → Rs K F xs' σ := by
  have tail : ∀ {x : Option D} {ys : AS} {σ : L2.St}, Rs K F (x :: ys) σ → ∃ w σ', σ = w :: σ' ∧ Rs K F ys σ' ∧ ∀ d, x = some d → ∃ v, w = some v ∧ Rv K F v d := fun {x ys σ} r => by
    cases σ with
    | nil => have := r.1; simp at this
    | cons w σ => exact ⟨w, σ, rfl, ⟨by have := r.1; simpa using this, fun i d q => r.2 (i + 1) d (by simpa using q)⟩, fun d q => by
        obtain ⟨v, e1, rv⟩ := r.2 0 d (by rw [q]; rfl)
        exact ⟨v, by simpa using e1, rv⟩⟩
  have glue : ∀ {x : Option D} {ys : AS} {w : Option V} {σ : L2.St}, Rs K F ys σ → (∀ d, x = some d → ∃ v, w = some v ∧ Rv K F v d) → Rs K F (x :: ys) (w :: σ) := fun {x ys w σ} r k => ⟨by simp [r.1], fun i d q => by
    cases i with
    | zero =>
      obtain ⟨v, e1, rv⟩ := k d (by simpa using q)
      exact ⟨v, by rw [e1]; rfl, rv⟩
    | succ i => exact r.2 i d (by simpa using q)⟩
  induction h with
  | nil => intro σ r; exact r
  | hit _ ih =>
    intro σ r
    obtain ⟨w, σ', rfl, r1, k⟩ := tail r
    refine glue (ih r1) fun d q => ?_
    obtain ⟨v, e1, rv⟩ := k _ rfl
    cases q
    cases rv
    exact ⟨_, e1, re⟩
  | same _ ih =>
    intro σ r
    obtain ⟨w, σ', rfl, r1, k⟩ := tail r
    exact glue (ih r1) k
  | deep h _ ih =>
    intro σ r
    obtain ⟨w, σ', rfl, r1, k⟩ := tail r
    refine glue (ih r1) fun d q => ?_
    obtain ⟨v, e1, rv⟩ := k _ rfl
    cases q
    exact ⟨v, e1, h.rv re rv⟩
theorem SbM.fr (h : SbM a e M M') (re : Rv K F (.ref a) e) (f : Fr K M F H) : Fr K M' F H := by
  have keys : M'.map (·.1) = M.map (·.1) := by
    induction h with
    | nil => rfl
    | rest => rfl
    | same _ ih => rw [List.map_cons, List.map_cons, ih ⟨f.sub, fun p hp => f.out p (List.mem_cons_of_mem _ hp), by have := f.nod; rw [List.map_cons, List.nodup_cons] at this; exact this.2, fun p hp => f.at_ p (List.mem_cons_of_mem _ hp)⟩]
    | deep _ _ ih => rw [List.map_cons, List.map_cons, ih ⟨f.sub, fun p hp => f.out p (List.mem_cons_of_mem _ hp), by have := f.nod; rw [List.map_cons, List.nodup_cons] at this; exact this.2, fun p hp => f.at_ p (List.mem_cons_of_mem _ hp)⟩]
  have at_ : ∀ q ∈ M', ∃ p ∈ M, p.1 = q.1 ∧ SbO a e p.2 q.2 := by
    clear f keys
    induction h with
    | nil => intro q hq; cases hq
    | rest => intro q hq; exact ⟨q, hq, rfl, .same⟩
    | same _ ih =>
      intro q hq
      rcases List.mem_cons.mp hq with rfl | hq
      · exact ⟨q, List.mem_cons_self, rfl, .same⟩
      · obtain ⟨p, hp, z⟩ := ih q hq
        exact ⟨p, List.mem_cons_of_mem _ hp, z⟩
    | deep ho _ ih =>
      intro q hq
      rcases List.mem_cons.mp hq with rfl | hq
      · exact ⟨_, List.mem_cons_self, rfl, ho⟩
      · obtain ⟨p, hp, z⟩ := ih q hq
        exact ⟨p, List.mem_cons_of_mem _ hp, z⟩
  refine ⟨f.sub, fun q hq => ?_, by rw [keys]; exact f.nod, fun q hq => ?_⟩
  · obtain ⟨p, hp, e1, _⟩ := at_ q hq
    rw [← e1]; exact f.out p hp
  · obtain ⟨p, hp, e1, ho⟩ := at_ q hq
    rw [← e1]; exact ho.ro re (f.at_ p hp)
theorem Fz.refl : Fz K xs M xs M := fun F σ H rs fr => ⟨F, Same.refl F, rs, fr⟩
theorem Fz.trans {xs2 : AS} (h1 : Fz K xs M xs' M') (h2 : Fz K xs' M' xs2 M2) : Fz K xs M xs2 M2 := fun F σ H rs fr => by
  obtain ⟨F1, s1, r1, f1⟩ := h1 F σ H rs fr
  obtain ⟨F2, s2, r2, f2⟩ := h2 F1 σ H r1 f1
  exact ⟨F2, s1.trans s2, r2, f2⟩
/-- the object at a is written no more -/
theorem Fz.froze (h : Rem M a o M') (ho : o.fzb = true) (hx : SbS a o.toD xs xs') (hm : SbM a o.toD M' M2) : Fz K xs M xs' M2 := fun F σ H rs fr => by
  obtain ⟨F1, s1, f1, r1⟩ := fr.freeze h ho
  exact ⟨F1, s1, hx.rs r1 (rs.same s1), hm.fr r1 f1⟩
theorem Fz.lst (h : Rem M a (.lst ds) M') (hx : SbS a (.lst ds) xs xs') (hm : SbM a (.lst ds) M' M2) : Fz K xs M xs' M2 := Fz.froze h rfl hx hm
theorem Fz.ins {C : Addr} {fs : List (Str × D)} (h : Rem M a (.ins C fs) M') (hx : SbS a (.ins C fs) xs xs') (hm : SbM a (.ins C fs) M' M2) : Fz K xs M xs' M2 := Fz.froze h rfl hx hm
theorem Fz.drop (h : Rem M a o M') : Fz K xs M xs M' := fun F σ H rs fr => ⟨F, Same.refl F, rs, fr.drop h⟩
/-- less is said of the slots -/
theorem Fz.less (hl : xs'.length = xs.length) (h : ∀ (i : Nat) d, xs'[i]? = some (some d) → xs[i]? = some (some d)) : Fz K xs M xs' M := fun F σ H rs fr => ⟨F, Same.refl F, ⟨hl.trans rs.1, fun i d q => rs.2 i d (h i d q)⟩, fr⟩
theorem FzV.refl : FzV K d M d M := fun F σ H rs fr => ⟨F, Same.refl F, rs, fr⟩
theorem FzV.trans {d2 : D} (h1 : FzV K d M d' M') (h2 : FzV K d' M' d2 M2) : FzV K d M d2 M2 := fun F σ H rs fr => by
  obtain ⟨F1, s1, r1, f1⟩ := h1 F σ H rs fr
  obtain ⟨F2, s2, r2, f2⟩ := h2 F1 σ H r1 f1
  exact ⟨F2, s1.trans s2, r2, f2⟩
theorem FzV.froze (h : Rem M a o M') (ho : o.fzb = true) (hx : Sb a o.toD d d') (hm : SbM a o.toD M' M2) : FzV K d M d' M2 := fun F v H rv fr => by
  obtain ⟨F1, s1, f1, r1⟩ := fr.freeze h ho
  exact ⟨F1, s1, hx.rv r1 (rv.same s1), hm.fr r1 f1⟩
theorem FzV.lst (h : Rem M a (.lst ds) M') : FzV K (.r a) M (.lst ds) M' := FzV.froze h rfl .hit .rest
theorem FzV.ins {C : Addr} {fs : List (Str × D)} (h : Rem M a (.ins C fs) M') : FzV K (.r a) M (.ins C fs) M' := FzV.froze h rfl .hit .rest
theorem FzV.drop (h : Rem M a o M') : FzV K d M d M' := fun F σ H rs fr => ⟨F, Same.refl F, rs, fr.drop h⟩
end
/-! ### comprehensions -/
def awipe (xs : AS) : List Nat → AS
  | [] => xs
  | v :: vs => (awipe xs vs).set v none
theorem Rs.wipe {K : PySem.W.Frag} {F : Hp} {xs : AS} {σ : L2.St} (h : Rs K F xs σ) : ∀ vs, Rs K F (awipe xs vs) (L2.wipe σ vs)
  | [] => h
  | v :: vs => by
    have ih := Rs.wipe h vs
    unfold awipe L2.wipe
    refine ⟨by simp [ih.1], fun i d q => ?_⟩
    by_cases e : v = i
    · subst e
      have hv := (List.getElem?_eq_some_iff.mp q).1
      rw [List.length_set] at hv
      rw [List.getElem?_set_self hv] at q
      cases q
    · rw [List.getElem?_set_ne e] at q ⊢
      exact ih.2 i d q
@[reducible] def aYes : ATT := fun _ M R => R true M
theorem ats_nil {K : PySem.W.Frag} {W : WX} {A : AX} {X : Cx} : PTs X [] (conT K W A aYes) := ⟨fun pins s σ H Q I ⟨xs, M, F, B, rs, fr, lx, h, l⟩ => (pts_nil (X := X)).run pins s σ H Q I (l _ _ _ _ h (Same.refl F) fr)⟩
/-- the turns of a comprehension: a the place of its list, acc what it holds; I a word of the turn, of acc, of the memory -/
def lcIs (a : Addr) (g : ATG) (tt : ATT) (te : ATE) (ws : AS) (its : List D) (M : Mem) (Q : List D → Mem → Prop) : Prop := ∃ I : Nat → List D → Mem → Prop, I 0 [] M ∧
  (∀ i d acc M, its[i]? = some d → I i acc M → g d ws M fun xs1 M1 => tt xs1 M1 fun b M2 =>
    if b = true then te xs1 M2 fun e M3 => ∃ u, At M3 a (.lst acc) u ∧ acc.length < sizeLine ∧ I (i + 1) (acc ++ [e]) (u (.lst (acc ++ [e])))
    else ∃ u, At M2 a (.lst acc) u ∧ I (i + 1) acc M2) ∧ ∀ acc M, I its.length acc M → Q acc M
/-- how its list is handed on: as an object, as data -/
abbrev Fin := Addr → List D → Mem → AQ → Prop
@[reducible] def finO : Fin := fun a _ M Q => Q (.r a) M
@[reducible] def finD : Fin := fun a acc M Q => ∃ M3, Rem M a (.lst acc) M3 ∧ Q (.lst acc) M3
@[reducible] def aLc (fin : Fin) (wi : ATI) (g : ATG) (tt : ATT) (te : ATE) (vs : List Nat) : ATE := fun xs M Q => wi xs M fun its M1 => ∀ a, lcIs a g tt te (awipe xs vs) its ((a, .lst []) :: M1) fun acc M2 => fin a acc M2 Q
def FinOk (K : PySem.W.Frag) (fin : Fin) : Prop := ∀ a acc M B F H, fin a acc M B → Fr K M F H → ∃ d M' F', B d M' ∧ Same F F' ∧ Rv K F' (.ref a) d ∧ Fr K M' F' H
theorem finO_ok {K : PySem.W.Frag} : FinOk K finO := fun a acc M B F H h f => ⟨.r a, M, F, h, Same.refl F, .r a, f⟩
theorem finD_ok {K : PySem.W.Frag} : FinOk K finD := fun a acc M B F H ⟨M3, hr, h⟩ f => by
  obtain ⟨F2, s2, f2, r2⟩ := f.freeze hr rfl
  exact ⟨_, M3, F2, h, s2, r2, f2⟩
section
variable {K : PySem.W.Frag} {W : WX} {A : AX} {X : Cx} {fin : Fin} {wi : ATI} {g : ATG} {tt : ATT} {te : ATE} {vs : List Nat}
theorem lc_con (hf : FinOk K fin) (σ : L2.St) (H : Hp) (Q : VK) (h : conE K W A (aLc fin wi g tt te vs) σ H Q) : tLc (conI K W A wi) (conG K W A vs g) (conT K W A tt) (conE K W A te) vs σ H Q := by
  obtain ⟨xs, M, F, B, rs, fr, lx, h, l⟩ := h
  refine ⟨xs, M, F, _, rs, fr, lx, h, fun its M1 J H1 F1 h1 s1 f1 wk => ?_⟩
  have rs1 := rs.same s1
  have lx1 := lx.mono s1
  obtain ⟨G, Y, w, hG, hY⟩ := wk.ex
  show LcIs J H1 (conG K W A vs g) (conT K W A tt) (conE K W A te) vs σ Q
  intro D0 hD
  obtain ⟨I, I0, step, fins⟩ := h1 D0
  refine lc_it w (fun i H' => ∃ ds M' F', Same F1 F' ∧ Fr K M' F' H' ∧ I i ds M') ⟨[], _, F1, Same.refl F1, f1.own (o := .lst []) hD ⟨[], upd_same, .nil⟩, I0⟩ (fun i H' _ ⟨ds, M', F', s', f', _⟩ => hG M' F' H' s' f') ?_ ?_
  · rintro i x H2 H3 hi ⟨ds, M', F', s2, f2, go⟩ y
    have hit : its[i]? = some its[i] := List.getElem?_eq_getElem hi
    obtain ⟨F3, s3, f3, rx⟩ := hY i H2 x H3 F' M' _ y hit s2 f2
    have s13 := s2.trans s3
    refine ⟨its[i], awipe xs vs, M', F3, _, rx, (rs1.same s13).wipe vs, f3, lx1.mono s13, step i _ ds M' hit go, fun xs2 M2 σ2 H4 F4 h4 s4 rs4 f4 off => ⟨wipe_off off, ?_⟩⟩
    refine conT_step rs4 f4 (lx1.mono (s13.trans s4)) h4 fun b M5 H5 F5 h5 s5 f5 rs5 lx5 => ?_
    have s15 := (s13.trans s4).trans s5
    cases b with
    | true =>
      rw [if_pos rfl] at h5 ⊢
      refine con_step rs5 f5 lx5 h5 fun d M6 v6 H6 F6 ⟨u, ha, hz, h6⟩ s6 r6 f6 _ _ => ?_
      obtain ⟨ws, ew, rw6⟩ := f6.at_ _ ha.mem
      exact ⟨ws, ew, by rw [rw6.1]; exact hz, ds ++ [d], _, F6, s15.trans s6, f6.put (o' := .lst (ds ++ [d])) ha ⟨ws ++ [v6], upd_same, rw6.append (.cons r6 .nil)⟩, h6⟩
    | false =>
      rw [if_neg Bool.false_ne_true] at h5 ⊢
      obtain ⟨u, ha, h6⟩ := h5
      exact ⟨ds, M5, F5, s15, f5, h6⟩
  · rintro H' ⟨ds, M', F', s', f', go⟩
    obtain ⟨d, M3, F3, b, s3, r3, f3⟩ := hf _ _ _ _ _ _ (fins _ _ go) f'
    exact l _ _ _ _ _ b ((s1.trans s').trans s3) r3 f3
theorem a_lc {e : Expr} (hf : FinOk K fin) (h : PE X e (tLc (conI K W A wi) (conG K W A vs g) (conT K W A tt) (conE K W A te) vs)) : PE X e (conE K W A (aLc fin wi g tt te vs)) := h.to fun σ H Q q => lc_con hf σ H Q q
end
end AV

set_option Elab.async false
set_option linter.all false
set_option maxRecDepth 100000
set_option maxHeartbeats 4000000
/-! A5: statements, loops, calls of own defs and methods, new instances, errors, over abstract values (own work). -/
namespace AV
open PySem PySem.Spec PyProof.Rows L2 G TL
/-- a boundary between statements: what is known may be told anew -/
def Nx (K : PySem.W.Frag) (u : AS → Mem → Prop) (xs : AS) (M : Mem) : Prop := ∃ xs' M', Fz K xs M xs' M' ∧ u xs' M'
def NxV (K : PySem.W.Frag) (u : AQ) (d : D) (M : Mem) : Prop := ∃ d' M', FzV K d M d' M' ∧ u d' M'
section
variable {K : PySem.W.Frag} {F F' H : Hp} {W : WX} {A : AX} {X : Cx}
theorem Nx.of {u : AS → Mem → Prop} {xs : AS} {M : Mem} (h : u xs M) : Nx K u xs M := ⟨xs, M, Fz.refl, h⟩
theorem Nx.fz {u : AS → Mem → Prop} {xs xs' : AS} {M M' : Mem} (z : Fz K xs M xs' M') (h : u xs' M') : Nx K u xs M := ⟨xs', M', z, h⟩
theorem NxV.of {u : AQ} {d : D} {M : Mem} (h : u d M) : NxV K u d M := ⟨d, M, FzV.refl, h⟩
theorem NxV.fz {u : AQ} {d d' : D} {M M' : Mem} (z : FzV K d M d' M') (h : u d' M') : NxV K u d M := ⟨d', M', z, h⟩
theorem Nx.ln {u : AS → Mem → Prop} {Q : L2.St → Hp → Prop} (l : LnS K F u Q) : LnS K F (Nx K u) Q := fun xs M σ H F1 ⟨xs', M', z, h⟩ s rs fr => by
  obtain ⟨F2, s2, rs2, fr2⟩ := z F1 σ H rs fr
  exact l xs' M' σ H F2 h (s.trans s2) rs2 fr2
theorem NxV.ln {u : AQ} {Q : VK} (l : Ln K F u Q) : Ln K F (NxV K u) Q := fun d M v H F1 ⟨d', M', z, h⟩ s rv fr => by
  obtain ⟨F2, s2, rv2, fr2⟩ := z F1 v H rv fr
  exact l d' M' v H F2 h (s.trans s2) rv2 fr2
theorem _root_.L2.PS.to {e : Stmt} {t t' : TS} (h : PS X e t) (m : ∀ D σ H, t' D σ H → t D σ H) : PS X e t' := ⟨fun pins s σ H D I q => h.run pins s σ H D I (m _ _ _ q)⟩
theorem _root_.L2.PSs.to {e : List Stmt} {t t' : TS} (h : PSs X e t) (m : ∀ D σ H, t' D σ H → t D σ H) : PSs X e t' := ⟨fun pins s σ H D I q => h.run pins s σ H D I (m _ _ _ q)⟩
variable {st : Stmt} {rest body : List Stmt} {pos : Pos} {t u : ATS} {te ta tb : ATE} {g : ATG} {tt : ATT}
/-! ### blocks -/
@[reducible] def aNext : ATS := fun Q xs M => Q.nx xs M
@[reducible] def aSeq (K : PySem.W.Frag) (t u : ATS) : ATS := fun Q xs M => t { Q with nx := Nx K fun xs' M' => u Q xs' M' } xs M
def aCut (K : PySem.W.Frag) (t u : ATS) : ATS := fun Q xs M => ∃ I : AS → Mem → Prop, t { Q with nx := Nx K I } xs M ∧ ∀ xs' M', I xs' M' → u Q xs' M'
theorem seq_con {B : AEnds} {Q : Ends} {u : ATS} {I : AS → Mem → Prop} (lx : LnX K F A W) (l : LnE K F B Q) (hI : ∀ xs M, I xs M → u B xs M) : LnE K F { B with nx := Nx K I } { Q with nx := fun σ H => conS K W A u Q σ H } :=
  ⟨Nx.ln fun xs M σ H F1 h s rs fr => ⟨xs, M, F1, B, rs, fr, lx.mono s, hI _ _ h, l.mono s⟩, l.rt, l.bk, l.ct⟩
theorem as_nil : PSs X [] (conS K W A aNext) := pss_nil.to fun Q σ H ⟨xs, M, F, B, rs, fr, lx, h, l⟩ => l.nx _ _ _ _ _ h (Same.refl F) rs fr
theorem as_one (h : PS X st (conS K W A t)) : PSs X [st] (conS K W A t) := pss_one h
theorem as_cons (h1 : PS X st (conS K W A t)) (h2 : PSs X rest (conS K W A u)) : PSs X (st :: rest) (conS K W A (aSeq K t u)) := (pss_cons h1 h2).to fun Q σ H ⟨xs, M, F, B, rs, fr, lx, h, l⟩ =>
  ⟨xs, M, F, _, rs, fr, lx, h, seq_con lx l fun _ _ h => h⟩
theorem as_cut (h1 : PS X st (conS K W A t)) (h2 : PSs X rest (conS K W A u)) : PSs X (st :: rest) (conS K W A (aCut K t u)) := (pss_cons h1 h2).to fun Q σ H ⟨xs, M, F, B, rs, fr, lx, ⟨I, h, hI⟩, l⟩ =>
  ⟨xs, M, F, _, rs, fr, lx, h, seq_con lx l hI⟩
/-! ### simple statements -/
@[reducible] def aAsg (te : ATE) (g : ATG) : ATS := fun Q xs M => te xs M fun d M1 => g d xs M1 Q.nx
@[reducible] def aDrop (te : ATE) : ATS := fun Q xs M => te xs M fun _ M1 => Q.nx xs M1
@[reducible] def aRet (K : PySem.W.Frag) (te : ATE) : ATS := fun Q xs M => te xs M (NxV K Q.rt)
@[reducible] def aRetN : ATS := fun Q _ M => Q.rt .non M
@[reducible] def aBrk : ATS := fun Q xs M => Q.bk xs M
@[reducible] def aCnt : ATS := fun Q xs M => Q.ct xs M
theorem as_asg {vs : List Nat} (h : PS X st (tAsg (conE K W A te) (conG K W A vs g))) : PS X st (conS K W A (aAsg te g)) := h.to fun Q σ H ⟨xs, M, F, B, rs, fr, lx, h, l⟩ =>
  con_step rs fr lx h fun d M1 v H1 F1 h1 s1 r1 f1 rs1 lx1 => ⟨d, xs, M1, F1, _, r1, rs1, f1, lx1, h1, fun xs' M' σ' H' F' b s rs' fr' _ => l.nx _ _ _ _ _ b (s1.trans s) rs' fr'⟩
theorem as_set {i : Nat} (h : PS X st (tAsg (conE K W A te) (gName i))) : PS X st (conS K W A (aAsg te (agName i))) := h.to fun Q σ H ⟨xs, M, F, B, rs, fr, lx, h, l⟩ =>
  con_step rs fr lx h fun d M1 v H1 F1 h1 s1 r1 f1 rs1 lx1 => l.nx _ _ _ _ _ h1 s1 (rs1.set r1) f1
theorem as_setLc {fin : Fin} {wi : ATI} {vs : List Nat} {i : Nat} (hf : FinOk K fin) (h : PS X st (tAsg (tLc (conI K W A wi) (conG K W A vs g) (conT K W A tt) (conE K W A te) vs) (gName i))) : PS X st (conS K W A (aAsg (aLc fin wi g tt te vs) (agName i))) := h.to fun Q σ H ⟨xs, M, F, B, rs, fr, lx, h, l⟩ =>
  lc_con (A := A) hf σ H _ ⟨xs, M, F, _, rs, fr, lx, h, fun d M1 v H1 F1 h1 s1 r1 f1 => l.nx _ _ _ _ _ h1 s1 ((rs.same s1).set r1) f1⟩
theorem as_drop (h : PS X st (tDrop (conE K W A te))) : PS X st (conS K W A (aDrop te)) := h.to fun Q σ H ⟨xs, M, F, B, rs, fr, lx, h, l⟩ =>
  con_step rs fr lx h fun d M1 v H1 F1 h1 s1 r1 f1 rs1 lx1 => l.nx _ _ _ _ _ h1 s1 rs1 f1
theorem as_ret (h : PS X st (tRet (conE K W A te))) : PS X st (conS K W A (aRet K te)) := h.to fun Q σ H ⟨xs, M, F, B, rs, fr, lx, h, l⟩ =>
  ⟨xs, M, F, _, rs, fr, lx, h, NxV.ln l.rt⟩
theorem as_retN (h : PS X st tRetN) : PS X st (conS K W A aRetN) := h.to fun Q σ H ⟨xs, M, F, B, rs, fr, lx, h, l⟩ => l.rt _ _ _ _ _ h (Same.refl F) .non fr
theorem as_brk (h : PS X st tBreak) : PS X st (conS K W A aBrk) := h.to fun Q σ H ⟨xs, M, F, B, rs, fr, lx, h, l⟩ => l.bk _ _ _ _ _ h (Same.refl F) rs fr
theorem as_cnt (h : PS X st tCont) : PS X st (conS K W A aCnt) := h.to fun Q σ H ⟨xs, M, F, B, rs, fr, lx, h, l⟩ => l.ct _ _ _ _ _ h (Same.refl F) rs fr
theorem as_next (h : PS X st tNext) : PS X st (conS K W A aNext) := h.to fun Q σ H ⟨xs, M, F, B, rs, fr, lx, h, l⟩ => l.nx _ _ _ _ _ h (Same.refl F) rs fr
@[reducible] def aIfS (c : ATT) (t u : ATS) : ATS := fun Q xs M => c xs M fun b M1 => if b = true then t Q xs M1 else u Q xs M1
theorem as_if {c : Expr} {a b : List Stmt} (hc : PT X c (conT K W A tt)) (ha : PSs X a (conS K W A t)) (hb : PSs X b (conS K W A u)) : PS X (.If c a b pos) (conS K W A (aIfS tt t u)) := (ps_if hc ha hb).to fun Q σ H ⟨xs, M, F, B, rs, fr, lx, h, l⟩ =>
  conT_step rs fr lx h fun k M1 H1 F1 h1 s1 f1 rs1 lx1 => by
    cases k with
    | true => rw [if_pos rfl] at h1 ⊢; exact ⟨xs, M1, F1, B, rs1, f1, lx1, h1, l.mono s1⟩
    | false => rw [if_neg Bool.false_ne_true] at h1 ⊢; exact ⟨xs, M1, F1, B, rs1, f1, lx1, h1, l.mono s1⟩
/-- fs' is fs with d at f -/
inductive PutR (f : Str) (d : D) : List (Str × D) → List (Str × D) → Prop
  | nil : PutR f d [] [(f, d)]
  | hd {e : D} {r : List (Str × D)} : PutR f d ((f, e) :: r) ((f, d) :: r)
  | tl {g : Str} {e : D} {r r' : List (Str × D)} : (g == f) = false → PutR f d r r' → PutR f d ((g, e) :: r) ((g, e) :: r')
theorem PutR.eq {f : Str} {d : D} {fs fs' : List (Str × D)} (h : PutR f d fs fs') : put f d fs = fs' := by
  induction h with
  | nil => rfl
  | hd => unfold put; rw [if_pos rfl]
  | tl ne _ ih => unfold put; rw [if_neg (by simpa using ne), ih]
/-- o.f = e -/
@[reducible] def aFldS (K : PySem.W.Frag) (ta tv : ATE) (f : Str) : ATS := fun Q xs M => tv xs M fun y M1 => ta xs M1 fun x M2 => ∃ a C fs fs' u, x = .r a ∧ At M2 a (.ins C fs) u ∧ Cls K C ∧ NoAttr K C f ∧ fs.length < 1000 ∧ PutR f y fs fs' ∧ Q.nx xs (u (.ins C fs'))
theorem fr_fld {M : Mem} {a C dx : Addr} {fs : List (Str × D)} {vfs : List (Str × V)} {u : Ob → Mem} {f : Str} {y : D} {v : V} (fr : Fr K M F H) (ha : At M a (.ins C fs) u) (e : H a = some (.ins C dx vfs)) (r : RvF K F vfs fs) (ry : Rv K F v y) :
    Fr K (u (.ins C (put f y fs))) F (upd H a (.ins C dx (putF f v vfs))) := fr.put (o' := .ins C (put f y fs)) ha ⟨dx, _, upd_same, r.put ry⟩
theorem as_fld {f : Str} (h : PS X st (sFld X.K (conE K W A ta) (conE K W A tb) f)) (hK : X.K = K := by rfl) : PS X st (conS K W A (aFldS K ta tb f)) := by
  subst hK
  exact h.to fun Q σ H ⟨xs, M, F, B, rs, fr, lx, h, l⟩ => con_step rs fr lx h fun y M1 v H1 F1 h1 s1 r1 f1 rs1 lx1 => con_step rs1 f1 lx1 h1 fun x M2 w H2 F2 ⟨a, C, fs, fs', u, e, ha, cl, na, hl, pe, h2⟩ s2 r2 f2 rs2 lx2 => by
    subst e
    cases r2
    obtain ⟨dx, vfs, e1, rf⟩ := f2.at_ _ ha.mem
    rw [← pe.eq] at h2
    exact ⟨a, C, dx, vfs, rfl, e1, cl, na, by rw [rf.1]; exact hl, l.nx _ _ _ _ _ h2 (s1.trans s2) rs2 (fr_fld f2 ha e1 rf (r1.same s2))⟩
/-- o.f += e, ints -/
@[reducible] def aFldA (K : PySem.W.Frag) (ta tv : ATE) (k : Int → Int → Int) (f : Str) : ATS := fun Q xs M => ta xs M fun x M1 => ∃ a C fs i, x = .r a ∧ InsAt M1 (.r a) C fs ∧ Cls K C ∧ NoAttr K C f ∧ fs.lookup f = some (.int i) ∧
  tv xs M1 fun y M2 => ∃ j fs' fs2 u, y = .int j ∧ At M2 a (.ins C fs') u ∧ fs'.length < 1000 ∧ PutR f (.int (k i j)) fs' fs2 ∧ Q.nx xs (u (.ins C fs2))
theorem as_fldA {f : Str} {k : Int → Int → Int} {rd : V → V → Hp → VK → Prop} (hr : ∀ x y H Q, (∃ i j, x = .int i ∧ y = .int j ∧ Q (.int (k i j)) H) → rd x y H Q) (h : PS X st (sFldAug X.K (conE K W A ta) (conE K W A tb) rd f)) (hK : X.K = K := by rfl) : PS X st (conS K W A (aFldA K ta tb k f)) := by
  subst hK
  exact h.to fun Q σ H ⟨xs, M, F, B, rs, fr, lx, h, l⟩ => con_step rs fr lx h fun x M1 v H1 F1 ⟨a, C, fs, i, e, hi, cl, na, hl, h1⟩ s1 r1 f1 rs1 lx1 => by
    subst e
    obtain ⟨a', dx, vfs, e0, e1, rf⟩ := hi.at_ r1 f1
    subst e0
    cases r1
    obtain ⟨v, ev, rv⟩ := rf.lookup hl
    cases rv
    refine ⟨a, C, dx, vfs, _, rfl, e1, cl, na, ev, con_step rs1 f1 lx1 h1 fun y M2 w H2 F2 ⟨j, fs', fs2, u, e, ha, hz, pe, h2⟩ s2 r2 f2 rs2 lx2 => ?_⟩
    subst e
    rw [← pe.eq] at h2
    cases r2
    obtain ⟨dx', vfs', e2, rf'⟩ := f2.at_ _ ha.mem
    exact hr _ _ _ _ ⟨i, j, rfl, rfl, dx', vfs', e2, by rw [rf'.1]; exact hz, l.nx _ _ _ _ _ h2 (s1.trans s2) rs2 (fr_fld f2 ha e2 rf' (.int _))⟩
/-- x += e, ints -/
@[reducible] def aAug (i : Nat) (te : ATE) (k : Int → Int → Int) : ATS := fun Q xs M => ∃ n, xs[i]? = some (some (.int n)) ∧ te xs M fun y M1 => ∃ j, y = .int j ∧ Q.nx (xs.set i (some (.int (k n j)))) M1
theorem as_aug {i : Nat} {k : Int → Int → Int} (h : PS X st (tAug i (conE K W A te) (ipI k))) : PS X st (conS K W A (aAug i te k)) := h.to fun Q σ H ⟨xs, M, F, B, rs, fr, lx, ⟨n, hn, h⟩, l⟩ => by
  obtain ⟨v, ev, rv⟩ := rs.get hn
  cases rv
  exact ⟨_, ev, con_step rs fr lx h fun y M1 w H1 F1 ⟨j, e, h1⟩ s1 r1 f1 rs1 lx1 => by
    subst e
    cases r1
    exact ⟨n, j, rfl, rfl, l.nx _ _ _ _ _ h1 s1 (rs1.set (.int _)) f1⟩⟩
/-! ### loops -/
/-- the turns of a for; I a word of the turn, the slots, the memory -/
def forIs (K : PySem.W.Frag) (g : ATG) (tb : ATS) (Q : AEnds) (its : List D) (xs : AS) (M : Mem) : Prop := ∃ I : Nat → AS → Mem → Prop, I 0 xs M ∧
  (∀ i d xs M, its[i]? = some d → I i xs M → g d xs M fun xs1 M1 => tb { Q with nx := Nx K (I (i + 1)), ct := Nx K (I (i + 1)), bk := Q.nx } xs1 M1) ∧ ∀ xs M, I its.length xs M → Q.nx xs M
@[reducible] def aFor (K : PySem.W.Frag) (wi : ATI) (g : ATG) (tb : ATS) : ATS := fun Q xs M => wi xs M fun its M1 => forIs K g tb Q its xs M1
theorem as_for {wi : ATI} {vs : List Nat} (h : PS X st (tFor (conI K W A wi) (conG K W A vs g) (conS K W A t))) : PS X st (conS K W A (aFor K wi g t)) := h.to fun Q σ H ⟨xs, M, F, B, rs, fr, lx, h, l⟩ => by
  refine ⟨xs, M, F, _, rs, fr, lx, h, fun its M1 J H1 F1 ⟨I, I0, step, fins⟩ s1 f1 wk => ?_⟩
  obtain ⟨G, Y, w, hG, hY⟩ := wk.ex
  refine for_it w (fun i σ' H' => ∃ xs' M' F', Same F1 F' ∧ Rs K F' xs' σ' ∧ Fr K M' F' H' ∧ I i xs' M') ⟨xs, M1, F1, Same.refl F1, rs.same s1, f1, I0⟩ (fun i σ' H' _ ⟨xs', M', F', s', _, f', _⟩ => hG M' F' H' s' f') ?_ ?_
  · rintro i x σ' H2 H3 hi ⟨xs', M', F', s2, rs2, f2, go⟩ y
    have hit : its[i]? = some its[i] := List.getElem?_eq_getElem hi
    obtain ⟨F3, s3, f3, rx⟩ := hY i H2 x H3 F' M' _ y hit s2 f2
    have s13 := s2.trans s3
    refine ⟨its[i], xs', M', F3, _, rx, rs2.same s3, f3, lx.mono (s1.trans s13), step i _ xs' M' hit go, fun xs3 M3 σ3 H4 F4 h4 s4 rs4 f4 _ => ?_⟩
    have next : LnS K F4 (I (i + 1)) (fun σ' H' => ∃ xs' M' F', Same F1 F' ∧ Rs K F' xs' σ' ∧ Fr K M' F' H' ∧ I (i + 1) xs' M') :=
      fun xs5 M5 σ5 H5 F5 h5 s5 rs5 f5 => ⟨xs5, M5, F5, (s13.trans s4).trans s5, rs5, f5, h5⟩
    have lm := l.mono ((s1.trans s13).trans s4)
    exact ⟨xs3, M3, F4, _, rs4, f4, lx.mono ((s1.trans s13).trans s4), h4, Nx.ln next, lm.rt, lm.nx, Nx.ln next⟩
  · rintro σ' H' ⟨xs', M', F', s', rs', f', go⟩
    exact l.nx _ _ _ _ _ (fins _ _ go) (s1.trans s') rs' f'
def aWhile (K : PySem.W.Frag) (c : ATT) (tb : ATS) : ATS := fun Q xs M => ∃ I : Nat → AS → Mem → Prop, (∃ m, I m xs M) ∧ ∀ m xs M, I m xs M →
  c xs M fun b M1 => if b = true then tb { Q with nx := Nx K fun xs' M' => ∃ m', m' < m ∧ I m' xs' M', ct := Nx K fun xs' M' => ∃ m', m' < m ∧ I m' xs' M', bk := Q.nx } xs M1 else Q.nx xs M1
theorem as_while (h : PS X st (tWhile (conT K W A tt) (conS K W A t))) : PS X st (conS K W A (aWhile K tt t)) := h.to fun Q σ H ⟨xs, M, F, B, rs, fr, lx, ⟨I, ⟨m0, w0⟩, h⟩, l⟩ => by
  refine ⟨fun m σ' H' => ∃ xs' M' F', Same F F' ∧ Rs K F' xs' σ' ∧ Fr K M' F' H' ∧ I m xs' M', ⟨m0, xs, M, F, Same.refl F, rs, fr, w0⟩, ?_⟩
  rintro m σ' H' ⟨xs', M', F', s', rs', f', w⟩
  refine conT_step rs' f' (lx.mono s') (h m xs' M' w) fun b M1 H1 F1 h1 s1 f1 rs1 lx1 => ?_
  cases b with
  | true =>
    rw [if_pos rfl] at h1 ⊢
    have next : LnS K F1 (fun xs' M' => ∃ m', m' < m ∧ I m' xs' M') (fun σ' H' => ∃ m', m' < m ∧ ∃ xs' M' F', Same F F' ∧ Rs K F' xs' σ' ∧ Fr K M' F' H' ∧ I m' xs' M') :=
      fun xs5 M5 σ5 H5 F5 ⟨m', hm, h5⟩ s5 rs5 f5 => ⟨m', hm, xs5, M5, F5, (s'.trans s1).trans s5, rs5, f5, h5⟩
    have lm := l.mono (s'.trans s1)
    exact ⟨_, fun σ' H' q => q, xs', M1, F1, _, rs1, f1, lx1, h1, Nx.ln next, lm.rt, lm.nx, Nx.ln next⟩
  | false =>
    rw [if_neg Bool.false_ne_true] at h1 ⊢
    exact l.nx _ _ _ _ _ h1 (s'.trans s1) rs1 f1
/-! ### own defs -/
abbrev AXc := Addr → List (Str × D) → Mem → Prop
abbrev ASp := List D → Mem → AQ → AXc → Prop
def LnC (K : PySem.W.Frag) (F : Hp) (B : AXc) (E : XK) : Prop := ∀ C fs M H F' dd, B C fs M → Same F F' → Fr K ((dd, .xd fs) :: M) F' H → E (.ref C) (some dd) H
def conSp (K : PySem.W.Frag) (asp : ASp) : Sp := fun vs H Q E => ∃ ds M F B BX, RvL K F vs ds ∧ Fr K M F H ∧ asp ds M B BX ∧ Ln K F B Q ∧ LnC K F BX E
abbrev noX : AXc := fun _ _ _ => False
abbrev noW : WX := fun _ _ _ _ => False
abbrev noA : AX := fun _ _ _ _ => False
theorem LnC.none {E : XK} : LnC K F noX E := fun _ _ _ _ _ _ h => h.elim
variable {e : Expr} {ar : ATA} {asp : ASp}
@[reducible] def aCall (asp : ASp) (t : ATA) : ATE := fun xs M Q => t xs M fun ds M1 => asp ds M1 Q noX
@[reducible] def aCallX (A : AX) (asp : ASp) (t : ATA) : ATE := fun xs M Q => t xs M fun ds M1 => asp ds M1 Q fun C fs M' => A C fs xs M'
theorem a_call {E : XK} (h : PE X e (tCall (conSp K asp) [] E (conA K W A ar))) : PE X e (conE K W A (aCall asp ar)) := h.to fun σ H Q ⟨xs, M, F, B, rs, fr, lx, h, l⟩ =>
  conA_step rs fr lx h fun ds M1 vs H1 F1 h1 s1 r1 f1 _ _ => ⟨ds, M1, F1, B, noX, by rw [List.append_nil]; exact r1, f1, h1, l.mono s1, .none⟩
theorem a_callX (h : PE X e (tCallS (conSp K asp) (WE W) (conA K W A ar))) : PE X e (conE K W A (aCallX A asp ar)) := h.to fun σ H Q ⟨xs, M, F, B, rs, fr, lx, h, l⟩ =>
  conA_step rs fr lx h fun ds M1 vs H1 F1 h1 s1 r1 f1 rs1 lx1 => ⟨ds, M1, F1, B, _, r1, f1, h1, l.mono s1, fun C fs M2 H2 F2 dd a s f2 => lx1 C fs xs M2 σ H2 F2 dd a s (rs1.same s) f2⟩
/-- a call in an except suite -/
theorem a_callH {E : L2.St → XK} (h : PE X e (tCallS (conSp K asp) E (conA K W A ar))) : PE X e (conE K W A (aCall asp ar)) := h.to fun σ H Q ⟨xs, M, F, B, rs, fr, lx, h, l⟩ =>
  conA_step rs fr lx h fun ds M1 vs H1 F1 h1 s1 r1 f1 _ _ => ⟨ds, M1, F1, B, noX, r1, f1, h1, l.mono s1, .none⟩
@[reducible] def aMeth (C : Addr) (m : Str) (asp : ASp) (tob : ATE) (t : ATA) : ATE := fun xs M Q => tob xs M fun x M1 => ∃ fs, InsAt M1 x C fs ∧ fs.lookup m = none ∧ t xs M1 fun ds M2 => asp (x :: ds) M2 Q noX
theorem a_meth {E : XK} {C : Addr} {m : Str} (h : PE X e (tMeth C m (conSp K asp) [] E (conE K W A ta) (conA K W A ar))) : PE X e (conE K W A (aMeth C m asp ta ar)) := h.to fun σ H Q ⟨xs, M, F, B, rs, fr, lx, h, l⟩ =>
  con_step rs fr lx h fun x M1 v H1 F1 ⟨fs, hi, hm, h1⟩ s1 r1 f1 rs1 lx1 => by
    obtain ⟨a, dx, vfs, rfl, e1, rf⟩ := hi.at_ r1 f1
    exact ⟨a, dx, vfs, rfl, e1, rf.lookup_none hm, conA_step rs1 f1 lx1 h1 fun ds M2 vs H2 F2 h2 s2 r2 f2 _ _ => ⟨x :: ds, M2, F2, B, noX, by rw [List.append_nil]; exact .cons (r1.same s2) r2, f2, h2, l.mono (s1.trans s2), .none⟩⟩
theorem a_meth0 {E : XK} {C : Addr} {m : Str} (h : PE X e (tMeth C m (conSp K asp) [] E (conE K W A ta) tNil)) : PE X e (conE K W A (aMeth C m asp ta aNil)) := h.to fun σ H Q ⟨xs, M, F, B, rs, fr, lx, h, l⟩ =>
  con_step rs fr lx h fun x M1 v H1 F1 ⟨fs, hi, hm, h1⟩ s1 r1 f1 rs1 lx1 => by
    obtain ⟨a, dx, vfs, rfl, e1, rf⟩ := hi.at_ r1 f1
    exact ⟨a, dx, vfs, rfl, e1, rf.lookup_none hm, [x], M1, F1, B, noX, .cons r1 .nil, f1, h1, l.mono s1, .none⟩
/-! ### new instances -/
abbrev FinI := Addr → Addr → Mem → AQ → Prop
@[reducible] def finIO : FinI := fun x _ M Q => Q (.r x) M
@[reducible] def finID : FinI := fun x C M Q => ∃ fs M3, Rem M x (.ins C fs) M3 ∧ Q (.ins C fs) M3
def FinIOk (K : PySem.W.Frag) (fin : FinI) : Prop := ∀ a C M B F H, fin a C M B → Fr K M F H → ∃ d M' F', B d M' ∧ Same F F' ∧ Rv K F' (.ref a) d ∧ Fr K M' F' H
theorem finIO_ok : FinIOk K finIO := fun a acc M B F H h f => ⟨.r a, M, F, h, Same.refl F, .r a, f⟩
theorem finID_ok : FinIOk K finID := fun a C M B F H ⟨fs, M3, hr, h⟩ f => by
  obtain ⟨F2, s2, f2, r2⟩ := f.freeze hr rfl
  exact ⟨_, M3, F2, h, s2, r2, f2⟩
@[reducible] def aMk (A : AX) (fin : FinI) (C : Addr) (asp : ASp) (t : ATA) : ATE := fun xs M Q => t xs M fun ds M1 => ∀ x, asp (.r x :: ds) ((x, .ins C []) :: M1) (fun d M2 => d = .non ∧ fin x C M2 Q) fun C fs M' => A C fs xs M'
/-- something else new on the heap -/
theorem Fr.beside {M : Mem} {b : Addr} {ho : HO} (f : Fr K M F H) (n : H b = none) : Fr K M F (upd H b ho) :=
  ⟨fun c o e => by rw [upd_ne (ne_of_none (f.sub _ _ e) n)]; exact f.sub _ _ e, f.out, f.nod, fun p hp => (f.at_ p hp).mv (Same.refl F) (upd_ne ((f.free n).2 p hp))⟩
theorem Fr.grow {M : Mem} {H' : Hp} (f : Fr K M F H) (s : Same H H') : Fr K M F H' :=
  ⟨f.sub.trans s, f.out, f.nod, fun p hp => by
    have r := f.at_ p hp
    cases e : H p.1 with
    | none => exact (r.none e).elim
    | some o => exact r.mv (Same.refl F) ((s _ _ e).trans e.symm)⟩
theorem a_mk {fin : FinI} {C : Addr} (hf : FinIOk K fin) (h : PE X e (tMkX C (conSp K asp) (WE W) (conA K W A ar))) : PE X e (conE K W A (aMk A fin C asp ar)) := h.to fun σ H Q ⟨xs, M, F, B, rs, fr, lx, h, l⟩ =>
  conA_step rs fr lx h fun ds M1 vs H1 F1 h1 s1 r1 f1 rs1 lx1 => fun x dx hx hd hne => by
    have f2 := f1.beside (ho := .own x) hd
    have hx2 : upd H1 dx (.own x) x = none := by rw [upd_ne hne.symm]; exact hx
    have f3 := f2.own (o := .ins C []) (ho := .ins C dx []) hx2 ⟨dx, [], upd_same, rfl, fun i p q e => by simp at e⟩
    refine ⟨.r x :: ds, _, F1, _, _, .cons (.r x) r1, f3, h1 x, fun d M2 v H2 F2 ⟨e, b⟩ s2 rv f2 => ?_, fun C fs M2 H2 F2 dd a s f2 => lx1 C fs xs M2 σ H2 F2 dd a s (rs1.same s) f2⟩
    subst e
    cases rv
    obtain ⟨d, M3, F3, b3, s3, r3, f3⟩ := hf _ _ _ _ _ _ b f2
    exact ⟨rfl, l _ _ _ _ _ b3 ((s1.trans s2).trans s3) r3 f3⟩
/-! ### errors -/
def D.fmt : D → Prop
  | .int i => i.natAbs.log2 < 1920
  | .str z => z.length ≤ 1000
  | _ => False
@[reducible] def aRaise (A : AX) (C : Addr) (f : Str) (t : ATA) : ATS := fun _ xs M => t xs M fun ds M1 => ∃ d, ds = [d] ∧ d.fmt ∧ A C [(f, d)] xs M1
theorem as_raise {C : Addr} {f : Str} (h : PS X st (tRs (tMkO C (spExI C f) [] (conA K W A ar)) W)) : PS X st (conS K W A (aRaise A C f ar)) := h.to fun Q σ H ⟨xs, M, F, B, rs, fr, lx, h, l⟩ => by
  refine r_rs (conA_step rs fr lx h fun ds M1 vs H1 F1 ⟨d, e, hf, a⟩ s1 r1 f1 rs1 lx1 => ?_)
  subst e
  obtain ⟨v, vr, rfl, rv, rr⟩ := r1.inv
  obtain rfl := rr.inv_nil
  have fm : FmtV v := by
    cases d <;> first | exact hf.elim | (cases rv; exact hf)
  refine mk_is fm fun dd H2 s2 hd e2 => ?_
  have f2 := f1.grow s2
  obtain ⟨n1, n2⟩ := f1.free hd
  refine lx1 C _ xs M1 σ H2 F1 dd a (Same.refl F1) rs1 ⟨f2.sub, fun p hp => ?_, ?_, fun p hp => ?_⟩
  · rcases List.mem_cons.mp hp with rfl | hp
    · exact n1
    · exact f2.out p hp
  · rw [List.map_cons, List.nodup_cons]
    exact ⟨fun z => by
      obtain ⟨q, hq, eq⟩ := List.mem_map.mp z
      exact n2 q hq eq, f2.nod⟩
  · rcases List.mem_cons.mp hp with rfl | hp
    · exact ⟨[(f, v)], e2, rfl, fun i p q a b => by
        cases i with
        | zero => cases a; cases b; exact ⟨rfl, rv⟩
        | succ i => simp at a⟩
    · exact f2.at_ p hp
/-- try: .. except c as x: ..; ts the suite by the error's place, class, dict -/
@[reducible] def aTry (K : PySem.W.Frag) (A : AX) (c : Value) (i : Nat) (tb : AX → ATS) (ts : Addr → Addr → Addr → ATS) : ATS := fun Q xs M =>
  tb (fun C fs xs' M' => ∃ b, PySem.W.exmOne K (.ref C) c = some b ∧ (b = true → ∀ a dd, ts a C dd { nx := fun xs M => Q.nx (xs.set i none) M, rt := Q.rt, bk := fun xs M => Q.bk (xs.set i none) M, ct := fun xs M => Q.ct (xs.set i none) M } (xs'.set i (some (.r a))) ((dd, .xd fs) :: M')) ∧
    (b = false → A C fs xs' M')) Q xs M
theorem Rs.clr {xs : AS} {σ : L2.St} {i : Nat} (h : Rs K F xs σ) : Rs K F (xs.set i none) (σ.set i none) := ⟨by simp [h.1], fun j d q => by
  by_cases e : i = j
  · subst e
    have hv := (List.getElem?_eq_some_iff.mp q).1
    rw [List.length_set] at hv
    rw [List.getElem?_set_self hv] at q
    cases q
  · rw [List.getElem?_set_ne e] at q ⊢
    exact h.2 j d q⟩
theorem as_try {c : Value} {i : Nat} {tb : AX → ATS} {ts : Addr → Addr → Addr → ATS} (h : PS X st (tTry K c i (fun W' => fun Q σ H => ∃ A', conS K W' A' (tb A') Q σ H) (fun a cls d => fun Q σ H => ∃ C dd, cls = .ref C ∧ d = some dd ∧ conS K noW noA (ts a C dd) Q σ H) W)) :
    PS X st (conS K W A (aTry K A c i tb ts)) := h.to fun Q σ H ⟨xs, M, F, B, rs, fr, lx, h, l⟩ => by
  refine r_try ⟨_, xs, M, F, B, rs, fr, fun C fs xs' M' σ' H' F' dd ⟨b, e1, h1, h2⟩ s rs' f' => ⟨b, e1, fun eb a ha => ?_, fun eb => lx C fs xs' M' σ' H' F' dd (h2 eb) s rs' f'⟩, h, l⟩
  refine ⟨C, dd, rfl, rfl, _, _, F', _, rs'.set (.r a), f', .none, h1 eb a dd, ?_, (l.mono s).rt, ?_, ?_⟩
  · exact fun xs2 M2 σ2 H2 F2 b2 s2 rs2 f2 => l.nx _ _ _ _ _ b2 (s.trans s2) rs2.clr f2
  · exact fun xs2 M2 σ2 H2 F2 b2 s2 rs2 f2 => l.bk _ _ _ _ _ b2 (s.trans s2) rs2.clr f2
  · exact fun xs2 M2 σ2 H2 F2 b2 s2 rs2 f2 => l.ct _ _ _ _ _ b2 (s.trans s2) rs2.clr f2
theorem as_tryG {y nm : Str} {c : Value} {i : Nat} {suite : List Stmt} {b₀ : Stmt} {np pos' : Pos} {tb : AX → ATS} {ts : Addr → Addr → Addr → ATS} (hs : X.stack = X.env :: X.outer) (hf : X.env.frame = some X.env.locals) (hN : X.N.Nodup) (hi : X.N[i]? = some nm) (hln : X.env.kindOf nm = some .local) (hc : Names X y c) (tk : L2N.Takes X W)
    (hb : ∀ (W' : WX) (A' : AX) (pn : List (Addr × Obj)) (xe : Value → Shared → Prop), L2N.Takes (X.tr pn xe) W' → PassesOwn (model X.prog X.w) X.A X.env xe → PSs (X.tr pn xe) body (conS K W' A' (tb A')))
    (hsu : ∀ (a : Addr) (oe : Obj) (C dd : Addr) (pn : List (Addr × Obj)), L2N.Zn (.ref C) (some dd) oe → (∃ vs, oe.data = .fields vs) → PSs (X.suite a ((a, oe) :: pn)) (b₀ :: suite) (conS K noW noA (ts a C dd))) (hK : X.K = K := by rfl) :
    PS X (.Try body [.ExceptHandler (some (.Name y np)) (some nm) (b₀ :: suite) pos'] [] [] pos) (conS K W A (aTry K A c i tb ts)) :=
  as_try (g_try (tb := fun W' => fun Q σ H => ∃ A', conS K W' A' (tb A') Q σ H) (ts := fun a cls d => fun Q σ H => ∃ C dd, cls = .ref C ∧ d = some dd ∧ conS K noW noA (ts a C dd) Q σ H) hs hf hN hi hln hc tk
    (fun W' pn xe tk' po => ⟨fun pins s σ H Q I ⟨A', h⟩ => (hb W' A' pn xe tk' po).run pins s σ H Q I h⟩)
    (fun a oe cls d pn hz hv => ⟨fun pins s σ H Q I ⟨C, dd, e1, e2, h⟩ => by subst e1 e2; exact (hsu a oe C dd pn hz hv).run pins s σ H Q I h⟩) hK)
/-- e.f of the error that the suite holds -/
@[reducible] def aXf (K : PySem.W.Frag) (a C dd : Addr) (f : Str) (te : ATE) : ATE := fun xs M Q => te xs M fun x M1 => ∃ fs u d, x = .r a ∧ ExK K C ∧ PySem.W.findIn K (.ref C) f = some none ∧ At M1 dd (.xd fs) u ∧ fs.lookup f = some d ∧ Q d M1
theorem a_xf {a C dd : Addr} {f : Str} (h : PE X e (tXfE K a (.ref C) (some dd) f (conE K W A te))) : PE X e (conE K W A (aXf K a C dd f te)) := h.to fun σ H Q ⟨xs, M, F, B, rs, fr, lx, h, l⟩ =>
  con_step rs fr lx h fun x M1 v H1 F1 ⟨fs, u, d, ex, ek, ef, ha, hl, h1⟩ s1 r1 f1 rs1 lx1 => by
    subst ex
    cases r1
    obtain ⟨vfs, e1, rf⟩ := f1.at_ _ ha.mem
    obtain ⟨w, ew, rw'⟩ := rf.lookup hl
    exact ⟨C, dd, vfs, w, rfl, rfl, ek, ef, rfl, e1, ew, l _ _ _ _ _ h1 s1 rw' f1⟩
def aIsE (K : PySem.W.Frag) (a C dd : Addr) : List D → Mem → AQ → Prop := fun ds M Q => ∃ c cv fs u b, ds = [.r a, c] ∧ (c = .r cv ∧ PySem.W.kitOne K (.ref C) (.ref cv) = some b ∨ ∃ n, c = .ty n ∧ PySem.W.kitOne K (.ref C) (.type n) = some b) ∧ ExK K C ∧ At M dd (.xd fs) u ∧ Q (.bl b) M
theorem isE_op {a C dd : Addr} : OpN K (gIsE K a (.ref C) (some dd)) (aIsE K a C dd) := fun ds vs M F H B Q ⟨c, cv, fs, u, b, e, hc, ek, ha, h⟩ r f l => by
  subst e
  obtain ⟨v1, vr, rfl, r1, r2⟩ := r.inv
  cases r1
  obtain ⟨v2, vr2, rfl, r3, r4⟩ := r2.inv
  obtain rfl := r4.inv_nil
  obtain ⟨vfs, e1, rf⟩ := f.at_ _ ha.mem
  rcases hc with ⟨rfl, hk⟩ | ⟨n, rfl, hk⟩
  · cases r3
    exact ⟨_, _, C, dd, vfs, b, rfl, .own _, rfl, ek, rfl, e1, hk, l.same h (.bl b) f⟩
  · cases r3
    exact ⟨_, _, C, dd, vfs, b, rfl, .ty _, rfl, ek, rfl, e1, hk, l.same h (.bl b) f⟩
end
/-! ### the promise of a def by its body -/
abbrev astart (N : List Str) (ds : List D) : AS := ds.map some ++ List.replicate (N.length - ds.length) none
section
variable {P : Program} {w : World} {K : PySem.W.Frag} {mg : Str → Option Value} {base : Heap} {k : Nat} {x qual m : Str} {ps N : List Str} {st : Stmt} {asp asp' : ASp} {C : Addr}
theorem conSp.len (h : ∀ ds M Q E, asp ds M Q E → ds.length = ps.length) : ∀ vs H Q E, conSp K asp vs H Q E → vs.length = ps.length := fun vs H Q E ⟨ds, M, F, B, BX, r, _, h1, _, _⟩ => r.1.trans (h ds M B BX h1)
theorem conSp.imp (h : ∀ ds M Q E, asp' ds M Q E → asp ds M Q E) : ∀ vs H Q E, conSp K asp' vs H Q E → conSp K asp vs H Q E := fun vs H Q E ⟨ds, M, F, B, BX, r, f, h1, l, lc⟩ => ⟨ds, M, F, B, BX, r, f, h _ _ _ _ h1, l, lc⟩
theorem body_con {X : Cx} {W : WX} {A : AX} {body : List Stmt} {t : ATS} {vs : List V} {H F : Hp} {ds : List D} {M : Mem} {B : AQ} {Q : VK} (r : RvL K F vs ds) (f : Fr K M F H) (lx : LnX K F A W) (l : Ln K F B Q) (h : t { nx := fun _ M' => B .non M', rt := B } (astart N ds) M) :
    conS K W A t { nx := fun _ H' => Q .non H', rt := Q } (L2.start N vs) H :=
  ⟨_, M, F, _, Rs.start r, f, lx, h, fun xs M' σ H' F' b s _ f' => l _ _ _ _ _ b s .non f', l, fun _ _ _ _ _ b => b.elim, fun _ _ _ _ _ b => b.elim⟩
/-- a def that lets nothing out -/
theorem def_A (F : FunAt K mg x qual st) (S : FnScope N ps (defScope st))
    (hb : ∀ (kV doc pm : Value) (an : Option Addr) (cdv ct : Value) (us : List Value), us.length = ps.length → bindArgs (PySem.W.fnOf x qual (defArgs st) (defBody st) (defScope st) .none kV doc pm an cdv ct) ⟨us, []⟩ = pure (ps.zip us))
    (len : ∀ ds M Q E, asp ds M Q E → ds.length = ps.length)
    (body : ∀ (f : Addr) (cdv : Value) (Ar : Around) (outer : List Env) (s : Shared) (H : Hp) (E : XK) (ds : List D) (M : Mem) (Q : AQ) (EX : AXc), Room k (Ar.deeper (envOfC qual (defScope st) s.heap.objs.size f cdv)) → asp ds M Q EX →
      ∃ t, PSs (cxOf CX0 P w K mg base N qual (defScope st) f cdv Ar outer s H E).nox (defBody st) (conS K noW noA t) ∧ t { nx := fun _ M' => Q .non M', rt := Q } (astart N ds) M) : Cal P w K mg base CX0 (k + 1) x ps (conSp K asp) :=
  def_ok F S hb (conSp.len len) fun f cdv Ar outer s H vs Q E hr ⟨ds, M, F0, B, BX, r, fr, h, l, lc⟩ => by
    obtain ⟨t, d, q⟩ := body f cdv Ar outer s H E ds M B BX hr h
    exact ⟨_, d, body_con (body := defBody st) (X := (cxOf CX0 P w K mg base N qual (defScope st) f cdv Ar outer s H E).nox) r fr .none l q⟩
theorem met_A (F : MetAt K C m qual st) (S : FnScope N ps (defScope st))
    (hb : ∀ (kV doc pm : Value) (an : Option Addr) (cdv ct : Value) (us : List Value), us.length = ps.length → bindArgs (PySem.W.fnOf m qual (defArgs st) (defBody st) (defScope st) .none kV doc pm an cdv ct) ⟨us, []⟩ = pure (ps.zip us))
    (len : ∀ ds M Q E, asp ds M Q E → ds.length = ps.length)
    (body : ∀ (f : Addr) (cdv : Value) (Ar : Around) (outer : List Env) (s : Shared) (H : Hp) (E : XK) (ds : List D) (M : Mem) (Q : AQ) (EX : AXc), Room k (Ar.deeper (envOfC qual (defScope st) s.heap.objs.size f cdv)) → asp ds M Q EX →
      ∃ t, PSs (cxOf CX0 P w K mg base N qual (defScope st) f cdv Ar outer s H E).nox (defBody st) (conS K noW noA t) ∧ t { nx := fun _ M' => Q .non M', rt := Q } (astart N ds) M) : MCal P w K mg base CX0 (k + 1) C m ps (conSp K asp) :=
  met_ok F S hb (conSp.len len) fun f cdv Ar outer s H vs Q E hr ⟨ds, M, F0, B, BX, r, fr, h, l, lc⟩ => by
    obtain ⟨t, d, q⟩ := body f cdv Ar outer s H E ds M B BX hr h
    exact ⟨_, d, body_con (body := defBody st) (X := (cxOf CX0 P w K mg base N qual (defScope st) f cdv Ar outer s H E).nox) r fr .none l q⟩
/-- a def that may raise -/
theorem lnc_x {F : Hp} {BX : AXc} {E : XK} (lc : LnC K F BX E) : LnX K F (fun C fs _ M => BX C fs M) (fun cls d _ H => E cls d H) := fun C fs xs M σ H F' dd a s _ f => lc C fs M H F' dd a s f
theorem def_AX (F : FunAt K mg x qual st) (S : FnScope N ps (defScope st))
    (hb : ∀ (kV doc pm : Value) (an : Option Addr) (cdv ct : Value) (us : List Value), us.length = ps.length → bindArgs (PySem.W.fnOf x qual (defArgs st) (defBody st) (defScope st) .none kV doc pm an cdv ct) ⟨us, []⟩ = pure (ps.zip us))
    (len : ∀ ds M Q E, asp ds M Q E → ds.length = ps.length)
    (body : ∀ (f : Addr) (cdv : Value) (Ar : Around) (outer : List Env) (s : Shared) (H : Hp) (E : XK) (ds : List D) (M : Mem) (Q : AQ) (EX : AXc), Room k (Ar.deeper (envOfC qual (defScope st) s.heap.objs.size f cdv)) → asp ds M Q EX →
      ∃ t, PSs (cxOf (HX P w) P w K mg base N qual (defScope st) f cdv Ar outer s H E) (defBody st) (conS K (fun cls d _ H => E cls d H) (fun C fs _ M => EX C fs M) t) ∧ t { nx := fun _ M' => Q .non M', rt := Q } (astart N ds) M) : Cal P w K mg base (HX P w) (k + 1) x ps (conSp K asp) :=
  def_okX F S hb (conSp.len len) fun f cdv Ar outer s H vs Q E hr ⟨ds, M, F0, B, BX, r, fr, h, l, lc⟩ => by
    obtain ⟨t, d, q⟩ := body f cdv Ar outer s H E ds M B BX hr h
    exact ⟨_, d, body_con (body := defBody st) (X := cxOf (HX P w) P w K mg base N qual (defScope st) f cdv Ar outer s H E) r fr (lnc_x lc) l q⟩
theorem met_AX (F : MetAt K C m qual st) (S : FnScope N ps (defScope st))
    (hb : ∀ (kV doc pm : Value) (an : Option Addr) (cdv ct : Value) (us : List Value), us.length = ps.length → bindArgs (PySem.W.fnOf m qual (defArgs st) (defBody st) (defScope st) .none kV doc pm an cdv ct) ⟨us, []⟩ = pure (ps.zip us))
    (len : ∀ ds M Q E, asp ds M Q E → ds.length = ps.length)
    (body : ∀ (f : Addr) (cdv : Value) (Ar : Around) (outer : List Env) (s : Shared) (H : Hp) (E : XK) (ds : List D) (M : Mem) (Q : AQ) (EX : AXc), Room k (Ar.deeper (envOfC qual (defScope st) s.heap.objs.size f cdv)) → asp ds M Q EX →
      ∃ t, PSs (cxOf (HX P w) P w K mg base N qual (defScope st) f cdv Ar outer s H E) (defBody st) (conS K (fun cls d _ H => E cls d H) (fun C fs _ M => EX C fs M) t) ∧ t { nx := fun _ M' => Q .non M', rt := Q } (astart N ds) M) : MCal P w K mg base (HX P w) (k + 1) C m ps (conSp K asp) :=
  met_okX F S hb (conSp.len len) fun f cdv Ar outer s H vs Q E hr ⟨ds, M, F0, B, BX, r, fr, h, l, lc⟩ => by
    obtain ⟨t, d, q⟩ := body f cdv Ar outer s H E ds M B BX hr h
    exact ⟨_, d, body_con (body := defBody st) (X := cxOf (HX P w) P w K mg base N qual (defScope st) f cdv Ar outer s H E) r fr (lnc_x lc) l q⟩
/-- a def called in an except suite -/
theorem def_AH (F : FunAt K mg x qual st) (S : FnScope N ps (defScope st))
    (hb : ∀ (kV doc pm : Value) (an : Option Addr) (cdv ct : Value) (us : List Value), us.length = ps.length → bindArgs (PySem.W.fnOf x qual (defArgs st) (defBody st) (defScope st) .none kV doc pm an cdv ct) ⟨us, []⟩ = pure (ps.zip us))
    (len : ∀ ds M Q E, asp ds M Q E → ds.length = ps.length)
    (body : ∀ (f : Addr) (cdv : Value) (Ar : Around) (outer : List Env) (s : Shared) (H : Hp) (E : XK) (p : Addr × Obj) (ds : List D) (M : Mem) (Q : AQ) (EX : AXc), L2H.Hot1 Ar p → L2H.RoomH k (Ar.deeper (envOfC qual (defScope st) s.heap.objs.size f cdv)) → asp ds M Q EX →
      ∃ t, PSs (L2H.cxH CX0 P w K mg base N qual (defScope st) f cdv Ar outer s H E p) (defBody st) (conS K noW noA t) ∧ t { nx := fun _ M' => Q .non M', rt := Q } (astart N ds) M) : CalH P w K mg base CX0 (k + 1) x ps (conSp K asp) :=
  def_okH F S hb (conSp.len len) fun f cdv Ar outer s H vs Q E p hp hr ⟨ds, M, F0, B, BX, r, fr, h, l, lc⟩ => by
    obtain ⟨t, d, q⟩ := body f cdv Ar outer s H E p ds M B BX hp hr h
    exact ⟨_, d, body_con (body := defBody st) (X := L2H.cxH CX0 P w K mg base N qual (defScope st) f cdv Ar outer s H E p) r fr .none l q⟩
end
end AV

set_option Elab.async false
set_option linter.all false
set_option maxRecDepth 100000
set_option maxHeartbeats 4000000
/-! A6: operators, subscripts, slices, built-in calls and methods over abstract values (own work). -/
namespace AV
open PySem PySem.Spec PyProof.Rows L2 G TL
/-! ### plain data: none, ints, texts, tuples and lists of such -/
mutual
def D.py : D → PyData
  | .bl b => .bool b
  | .int i => .int i
  | .str z => .str z
  | .tup ds => .tuple (pyL ds)
  | .lst ds => .list (pyL ds)
  | _ => .none
def pyL : List D → List PyData
  | [] => []
  | d :: ds => d.py :: pyL ds
end
mutual
/-- plain, at most n deep -/
def D.pl : D → Nat → Bool
  | .non, _ => true
  | .int _, _ => true
  | .str z, _ => PyData.strOk z
  | .tup ds, n + 1 => plL ds n
  | .lst ds, n + 1 => plL ds n
  | _, _ => false
def plL : List D → Nat → Bool
  | [], _ => true
  | d :: ds, n => d.pl n && plL ds n
end
theorem plL_iff {ds : List D} {n : Nat} : plL ds n = true ↔ ∀ d ∈ ds, d.pl n = true := by
  induction ds with
  | nil => simp [plL]
  | cons d ds ih => simp [plL, ih]
theorem pl_tup {ds : List D} {n : Nat} (h : ∀ d ∈ ds, d.pl n = true) : (D.tup ds).pl (n + 1) = true := by rw [D.pl]; exact plL_iff.mpr h
theorem pl_lst {ds : List D} {n : Nat} (h : ∀ d ∈ ds, d.pl n = true) : (D.lst ds).pl (n + 1) = true := by rw [D.pl]; exact plL_iff.mpr h
theorem pyL_map (ds : List D) : pyL ds = ds.map D.py := by
  induction ds with
  | nil => rfl
  | cons d ds ih => rw [pyL, ih]; rfl
theorem pl_shape : ∀ (n : Nat) (d : D), d.pl n = true → PyData.canLay0 d.py = true ∧ PyData.depth d.py ≤ n
  | n, .non, _ => by simp [D.py, PyData.canLay0, PyData.depth]
  | n, .int i, _ => by simp [D.py, PyData.canLay0, PyData.depth]
  | n, .str z, h => by simpa [D.py, PyData.canLay0, PyData.depth, D.pl] using h
  | n + 1, .tup ds, h => by
    rw [D.pl] at h
    have q : ∀ ds : List D, plL ds n = true → PyData.canLayAll0 (pyL ds) = true ∧ PyData.depthAll (pyL ds) ≤ n := by
      intro ds
      induction ds with
      | nil => intro _; simp [pyL, PyData.canLayAll0, PyData.depthAll]
      | cons d ds ih =>
        intro h
        rw [plL, Bool.and_eq_true] at h
        obtain ⟨a, b⟩ := pl_shape n d h.1
        obtain ⟨c, e⟩ := ih h.2
        rw [pyL, PyData.canLayAll0, PyData.depthAll, a, c]
        exact ⟨rfl, Nat.max_le.mpr ⟨b, e⟩⟩
    obtain ⟨a, b⟩ := q ds h
    rw [D.py, PyData.canLay0, PyData.depth]
    exact ⟨a, by omega⟩
  | n + 1, .lst ds, h => by
    rw [D.pl] at h
    have q : ∀ ds : List D, plL ds n = true → PyData.canLayAll0 (pyL ds) = true ∧ PyData.depthAll (pyL ds) ≤ n := by
      intro ds
      induction ds with
      | nil => intro _; simp [pyL, PyData.canLayAll0, PyData.depthAll]
      | cons d ds ih =>
        intro h
        rw [plL, Bool.and_eq_true] at h
        obtain ⟨a, b⟩ := pl_shape n d h.1
        obtain ⟨c, e⟩ := ih h.2
        rw [pyL, PyData.canLayAll0, PyData.depthAll, a, c]
        exact ⟨rfl, Nat.max_le.mpr ⟨b, e⟩⟩
    obtain ⟨a, b⟩ := q ds h
    rw [D.py, PyData.canLay0, PyData.depth]
    exact ⟨a, by omega⟩
  | n, .bl b, h => by simp [D.pl] at h
  | n, .ty b, h => by simp [D.pl] at h
  | n, .r b, h => by simp [D.pl] at h
  | n, .ins _ _, h => by simp [D.pl] at h
  | n, .scr _, h => by simp [D.pl] at h
  | n, .tz _, h => by simp [D.pl] at h
  | 0, .tup _, h => by simp [D.pl] at h
  | 0, .lst _, h => by simp [D.pl] at h
theorem pl_eqv : ∀ (n : Nat) (d e : D), d.pl n = true → e.pl n = true → (PyData.eqv d.py e.py = true ↔ d = e)
  | 0, d, e, h1, h2 => by
    cases d <;> simp [D.pl] at h1 <;> cases e <;> simp [D.pl] at h2 <;> simp [D.py, PyData.eqv]
  | n + 1, d, e, h1, h2 => by
    have q : ∀ ds es : List D, plL ds n = true → plL es n = true → (PyData.eqvAll (pyL ds) (pyL es) = true ↔ ds = es) := by
      intro ds
      induction ds with
      | nil => intro es _ _; cases es <;> simp [pyL, PyData.eqvAll]
      | cons d ds ih =>
        intro es h1 h2
        cases es with
        | nil => simp [pyL, PyData.eqvAll]
        | cons e es =>
          rw [plL, Bool.and_eq_true] at h1 h2
          rw [pyL, pyL, PyData.eqvAll, Bool.and_eq_true, pl_eqv n d e h1.1 h2.1, ih es h1.2 h2.2, List.cons.injEq]
    cases d with
    | tup ds =>
      rw [D.pl] at h1
      cases e with
      | tup es => rw [D.pl] at h2; rw [D.py, D.py, PyData.eqv, q ds es h1 h2, D.tup.injEq]
      | _ => simp [D.pl] at h2 <;> simp [D.py, PyData.eqv]
    | lst ds =>
      rw [D.pl] at h1
      cases e with
      | lst es => rw [D.pl] at h2; rw [D.py, D.py, PyData.eqv, q ds es h1 h2, D.lst.injEq]
      | _ => simp [D.pl] at h2 <;> simp [D.py, PyData.eqv]
    | non => cases e <;> simp [D.pl] at h2 <;> simp [D.py, PyData.eqv]
    | int i => cases e <;> simp [D.pl] at h2 <;> simp [D.py, PyData.eqv]
    | str z => cases e <;> simp [D.pl] at h2 <;> simp [D.py, PyData.eqv]
    | bl _ => simp [D.pl] at h1
    | ty _ => simp [D.pl] at h1
    | r _ => simp [D.pl] at h1
    | ins _ _ => simp [D.pl] at h1
    | scr _ => simp [D.pl] at h1
    | tz _ => simp [D.pl] at h1
section
variable {K : PySem.W.Frag} {F H : Hp} {M : Mem} {d : D} {v : V} {ds : List D} {vs : List V}
theorem Rv.dp (r : Rv K F v d) : ∀ n, d.pl n = true → Dp K F v d.py := by
  induction r with
  | non => intro n h; rw [D.py] <;> first | exact .non | simp
  | bl b => intro n h; simp [D.pl] at h
  | int i => intro n h; rw [D.py]; exact .int i
  | str z => intro n h; rw [D.py]; exact .str z
  | ty n => intro n h; simp [D.pl] at h
  | r a => intro n h; simp [D.pl] at h
  | tup hs hl hi ih =>
    intro n h
    cases n with
    | zero => simp [D.pl] at h
    | succ n =>
      rw [D.pl] at h
      rw [D.py, pyL_map]
      refine .tup hs (dpAll_of (by rw [List.length_map]; exact hl) fun i v d e1 e2 => ?_)
      rw [List.getElem?_map] at e2
      obtain ⟨d', e3, rfl⟩ := Option.map_eq_some_iff.mp e2
      exact ih i v d' e1 e3 n (plL_iff.mp h _ (List.mem_of_getElem? e3))
  | lst hs hl hi ih =>
    intro n h
    cases n with
    | zero => simp [D.pl] at h
    | succ n =>
      rw [D.pl] at h
      rw [D.py, pyL_map]
      refine .lst (SqL.of hs) (dpAll_of (by rw [List.length_map]; exact hl) fun i v d e1 e2 => ?_)
      rw [List.getElem?_map] at e2
      obtain ⟨d', e3, rfl⟩ := Option.map_eq_some_iff.mp e2
      exact ih i v d' e1 e3 n (plL_iff.mp h _ (List.mem_of_getElem? e3))
  | ins => intro n h; simp [D.pl] at h
  | scr => intro n h; simp [D.pl] at h
  | tz => intro n h; simp [D.pl] at h
theorem pl_sh {n : Nat} (hn : n ≤ 64) (h : d.pl n = true) : SeqAt.shaped d.py = true := by
  obtain ⟨a, b⟩ := pl_shape n d h
  unfold SeqAt.shaped
  rw [a, decide_eq_true (by omega)]
  rfl
/-- plain data, perhaps in a list that is still written -/
inductive Pd (M : Mem) (n : Nat) : D → D → Prop
  | d {d : D} : d.pl n = true → Pd M n d d
  | o {a : Addr} {xs : List D} {u : Ob → Mem} : At M a (.lst xs) u → (D.lst xs).pl n = true → Pd M n (.r a) (.lst xs)
theorem Pd.dp {n : Nat} {x : D} (h : Pd M n x d) (r : Rv K F v x) (f : Fr K M F H) : Dp K H v d.py := by
  cases h with
  | d h => exact Dp.same f.sub _ _ (r.dp n h)
  | o ha h =>
    obtain ⟨vs, e, l⟩ := f.at_ _ ha.mem
    cases r
    have r2 : Rv K H (.ref _) (.lst _) := .of_lst e (l.same f.sub)
    exact r2.dp n h
theorem Pd.pl {n : Nat} {x : D} (h : Pd M n x d) : d.pl n = true := by cases h <;> assumption
end
/-! ### operators -/
abbrev A2 := D → D → Mem → AQ → Prop
inductive aAdd : A2
  | int {i j : Int} {M : Mem} {Q : AQ} : Q (.int (i + j)) M → aAdd (.int i) (.int j) M Q
  | str {a b : Str} {M : Mem} {Q : AQ} : a.length + b.length ≤ sizeLine → Q (.str (a ++ b)) M → aAdd (.str a) (.str b) M Q
  | lst {x y : D} {xs ys : List D} {M : Mem} {Q : AQ} : Ls M x xs → Ls M y ys → xs.length + ys.length ≤ sizeLine → Q (.lst (xs ++ ys)) M → aAdd x y M Q
  | lstO {x y : D} {xs ys : List D} {M : Mem} {Q : AQ} : Ls M x xs → Ls M y ys → xs.length + ys.length ≤ sizeLine → (∀ a, Q (.r a) ((a, .lst (xs ++ ys)) :: M)) → aAdd x y M Q
  | tup {xs ys : List D} {M : Mem} {Q : AQ} : xs.length + ys.length ≤ sizeLine → Q (.tup (xs ++ ys)) M → aAdd (.tup xs) (.tup ys) M Q
inductive aAddO : A2
  | mk {x y : D} {xs ys : List D} {M : Mem} {Q : AQ} : Ls M x xs → Ls M y ys → xs.length + ys.length ≤ sizeLine → (∀ a, Q (.r a) ((a, .lst (xs ++ ys)) :: M)) → aAddO x y M Q
def aInt2 (C : Int → Int → Prop) (g : Int → Int → D) : A2 := fun x y M Q => ∃ i j, x = .int i ∧ y = .int j ∧ C i j ∧ Q (g i j) M
section
variable {X : Cx} {K : PySem.W.Frag}
theorem int2_tr {C C' : Int → Int → Prop} {g : Int → Int → D} {g' : Int → Int → V} (hc : ∀ i j, C i j → C' i j) (hg : ∀ F i j, Rv K F (g' i j) (g i j)) : Op2 K (rI C' g') (aInt2 C g) := fun x y v w M F H B Q ⟨i, j, e1, e2, c, h⟩ r1 r2 f l => by
  subst e1 e2
  cases r1
  cases r2
  exact ⟨i, j, rfl, rfl, hc i j c, l.same h (hg F i j) f⟩
theorem int0_tr {C : Int → Int → Prop} {g : Int → Int → D} {g' : Int → Int → V} (hg : ∀ F i j, Rv K F (g' i j) (g i j)) : Op2 K (rI0 g') (aInt2 C g) := fun x y v w M F H B Q ⟨i, j, e1, e2, c, h⟩ r1 r2 f l => by
  subst e1 e2
  cases r1
  cases r2
  exact ⟨i, j, rfl, rfl, l.same h (hg F i j) f⟩
abbrev cT : Int → Int → Prop := fun _ _ => True
abbrev aSub : A2 := aInt2 cT fun i j => .int (i - j)
abbrev aMul : A2 := aInt2 CMul fun i j => .int (i * j)
abbrev aDiv : A2 := aInt2 CDiv fun i j => .int (i / j)
abbrev aMod : A2 := aInt2 (fun _ j => 0 < j) fun i j => .int (i % j)
abbrev aPow : A2 := aInt2 CPow fun i j => .int (i ^ j.toNat)
abbrev aLt : A2 := aInt2 cT fun i j => .bl (decide (i < j))
abbrev aLe : A2 := aInt2 cT fun i j => .bl (decide (i ≤ j))
abbrev aGt : A2 := aInt2 cT fun i j => .bl (decide (j < i))
abbrev aGe : A2 := aInt2 cT fun i j => .bl (decide (j ≤ i))
theorem o_sub : OpR X (binaryOp .Sub) gSubI ∧ Op2 K gSubI aSub := ⟨g_sub, int0_tr fun _ _ _ => .int _⟩
theorem o_mul : OpR X (binaryOp .Mult) gMul ∧ Op2 K gMul aMul := ⟨g_mul, int2_tr (fun _ _ h => h) fun _ _ _ => .int _⟩
theorem o_div : OpR X (binaryOp .FloorDiv) gDiv ∧ Op2 K gDiv aDiv := ⟨g_div, int2_tr (fun _ _ h => h) fun _ _ _ => .int _⟩
theorem o_mod : OpR X (binaryOp .Mod) gMod ∧ Op2 K gMod aMod := ⟨g_mod, int2_tr (fun _ _ h => h) fun _ _ _ => .int _⟩
theorem o_pow : OpR X (binaryOp .Pow) gPow ∧ Op2 K gPow aPow := ⟨g_pow, int2_tr (fun _ _ h => h) fun _ _ _ => .int _⟩
theorem o_lt : OpR X (compareOp .Lt) (rI0 fun i j => .bl (decide (i < j))) ∧ Op2 K (rI0 fun i j => .bl (decide (i < j))) aLt := ⟨op_lt, int0_tr fun _ _ _ => .bl _⟩
theorem o_le : OpR X (compareOp .LtE) (rI0 fun i j => .bl (decide (i ≤ j))) ∧ Op2 K (rI0 fun i j => .bl (decide (i ≤ j))) aLe := ⟨op_le, int0_tr fun _ _ _ => .bl _⟩
theorem o_gt : OpR X (compareOp .Gt) gGt ∧ Op2 K gGt aGt := ⟨g_gt, int0_tr fun _ _ _ => .bl _⟩
theorem o_ge : OpR X (compareOp .GtE) gGe ∧ Op2 K gGe aGe := ⟨g_ge, int0_tr fun _ _ _ => .bl _⟩
def rAddA (K : PySem.W.Frag) : R2 := fun x y H Q => gAdd K x y H Q ∨ rCatS K x y H Q
theorem o_add (hK : X.K = K := by rfl) : OpR X (binaryOp .Add) (rAddA K) ∧ Op2 K (rAddA K) aAdd := by
  refine ⟨(g_add (K := K) hK).or (g_catS hK), fun x y v w M F H B Q h r1 r2 f l => ?_⟩
  cases h with
  | int h => cases r1; cases r2; exact .inl (v_addI (l.same h (.int _) f))
  | str hs h => cases r1; cases r2; exact .inl (v_addS hs (l.same h (.str _) f))
  | lst l1 l2 hs h =>
    obtain ⟨a, vs, rfl, s1, q1⟩ := l1.at_ r1 f
    obtain ⟨b, ws, rfl, s2, q2⟩ := l2.at_ r2 f
    exact .inr (v_catS s1 s2 (by rw [q1.1, q2.1]; exact hs) (NewL.run (.inl h) (q1.append q2) f l))
  | lstO l1 l2 hs h =>
    obtain ⟨a, vs, rfl, s1, q1⟩ := l1.at_ r1 f
    obtain ⟨b, ws, rfl, s2, q2⟩ := l2.at_ r2 f
    exact .inr (v_catS s1 s2 (by rw [q1.1, q2.1]; exact hs) (NewL.run (.inr h) (q1.append q2) f l))
  | tup hs h =>
    obtain ⟨a, vs, rfl, s1, q1⟩ := r1.tup_at f
    obtain ⟨b, ws, rfl, s2, q2⟩ := r2.tup_at f
    refine .inl (.inr (.inr (.inr ⟨a, b, vs, ws, rfl, rfl, s1, s2, by rw [q1.1, q2.1]; exact hs, fun e => ?_, fun _ e => ?_, fun _ _ => newT h (q1.append q2) f l⟩)))
    · subst e
      rw [List.eq_nil_of_length_eq_zero q1.1.symm, List.nil_append] at h
      exact l.same h r2 f
    · subst e
      rw [List.eq_nil_of_length_eq_zero q2.1.symm, List.append_nil] at h
      exact l.same h r1 f
theorem o_addO (hK : X.K = K := by rfl) : OpR X (binaryOp .Add) (rAddA K) ∧ Op2 K (rAddA K) aAddO := ⟨(o_add hK).1, fun x y v w M F H B Q h r1 r2 f l => by
  cases h with
  | mk l1 l2 hs h => exact (o_add hK).2 x y v w M F H B Q (.lstO l1 l2 hs h) r1 r2 f l⟩
/-- == -/
inductive aEq : A2
  | int {i j : Int} {M : Mem} {Q : AQ} : Q (.bl (decide (i = j))) M → aEq (.int i) (.int j) M Q
  | str {a b : Str} {M : Mem} {Q : AQ} : Q (.bl (decide (a = b))) M → aEq (.str a) (.str b) M Q
  | bl {a b : Bool} {M : Mem} {Q : AQ} : Q (.bl (decide (a = b))) M → aEq (.bl a) (.bl b) M Q
  | nn {M : Mem} {Q : AQ} : Q (.bl true) M → aEq .non .non M Q
  | ni {i : Int} {M : Mem} {Q : AQ} : Q (.bl false) M → aEq .non (.int i) M Q
  | in_ {i : Int} {M : Mem} {Q : AQ} : Q (.bl false) M → aEq (.int i) .non M Q
  | is_ {i : Int} {z : Str} {M : Mem} {Q : AQ} : Q (.bl false) M → aEq (.int i) (.str z) M Q
  | si {i : Int} {z : Str} {M : Mem} {Q : AQ} : Q (.bl false) M → aEq (.str z) (.int i) M Q
  | dat {x y d e : D} {M : Mem} {Q : AQ} (n : Nat) : Pd M n x d → Pd M n y e → n ≤ 64 → (∀ b : Bool, (b = true ↔ d = e) → Q (.bl b) M) → aEq x y M Q
inductive aNe : A2
  | int {i j : Int} {M : Mem} {Q : AQ} : Q (.bl (!decide (i = j))) M → aNe (.int i) (.int j) M Q
  | str {a b : Str} {M : Mem} {Q : AQ} : Q (.bl (!decide (a = b))) M → aNe (.str a) (.str b) M Q
  | bl {a b : Bool} {M : Mem} {Q : AQ} : Q (.bl (!decide (a = b))) M → aNe (.bl a) (.bl b) M Q
  | nn {M : Mem} {Q : AQ} : Q (.bl false) M → aNe .non .non M Q
  | ni {i : Int} {M : Mem} {Q : AQ} : Q (.bl true) M → aNe .non (.int i) M Q
  | in_ {i : Int} {M : Mem} {Q : AQ} : Q (.bl true) M → aNe (.int i) .non M Q
  | dat {x y d e : D} {M : Mem} {Q : AQ} (n : Nat) : Pd M n x d → Pd M n y e → n ≤ 64 → (∀ b : Bool, (b = true ↔ ¬ d = e) → Q (.bl b) M) → aNe x y M Q
def rEqA (K : PySem.W.Frag) : R2 := fun x y H Q => rEq x y H Q ∨ rEqD K x y H Q
def rNeA (K : PySem.W.Frag) : R2 := fun x y H Q => rNe x y H Q ∨ rNeD K x y H Q
theorem o_eq (hu : X.A.units + 64 < cLine) (hK : X.K = K := by rfl) : OpR X (compareOp .Eq) (rEqA K) ∧ Op2 K (rEqA K) aEq := by
  refine ⟨op_eq.or (op_eqDK hu hK), fun x y v w M F H B Q h r1 r2 f l => ?_⟩
  cases h with
  | int h => cases r1; cases r2; exact .inl (v_eqI (l.same h (.bl _) f))
  | str h => cases r1; cases r2; exact .inl (v_eqS (l.same h (.bl _) f))
  | bl h => cases r1; cases r2; exact .inl (v_eqB (l.same h (.bl _) f))
  | nn h => cases r1; cases r2; exact .inl (v_eqN (l.same h (.bl _) f))
  | ni h => cases r1; cases r2; exact .inl ⟨rfl, l.same h (.bl _) f⟩
  | in_ h => cases r1; cases r2; exact .inl ⟨rfl, l.same h (.bl _) f⟩
  | is_ h => cases r1; cases r2; exact .inl ⟨rfl, l.same h (.bl _) f⟩
  | si h => cases r1; cases r2; exact .inl ⟨rfl, l.same h (.bl _) f⟩
  | @dat x y d e _ _ n p1 p2 hn h =>
    refine .inr ⟨_, _, p1.dp r1 f, p2.dp r2 f, pl_sh hn p1.pl, pl_sh hn p2.pl, ?_⟩
    exact l.same (h _ (pl_eqv n d e p1.pl p2.pl)) (.bl _) f
theorem o_ne (hu : X.A.units + 64 < cLine) (hK : X.K = K := by rfl) : OpR X (compareOp .NotEq) (rNeA K) ∧ Op2 K (rNeA K) aNe := by
  refine ⟨op_ne.or (op_neDK hu hK), fun x y v w M F H B Q h r1 r2 f l => ?_⟩
  cases h with
  | int h => cases r1; cases r2; exact .inl (v_neI (l.same h (.bl _) f))
  | str h => cases r1; cases r2; exact .inl (v_neS (l.same h (.bl _) f))
  | bl h => cases r1; cases r2; exact .inl (v_neB (l.same h (.bl _) f))
  | nn h => cases r1; cases r2; exact .inl (v_neN (l.same h (.bl _) f))
  | ni h => cases r1; cases r2; exact .inl ⟨rfl, l.same h (.bl _) f⟩
  | in_ h => cases r1; cases r2; exact .inl ⟨rfl, l.same h (.bl _) f⟩
  | @dat x y d e _ _ n p1 p2 hn h =>
    refine .inr ⟨_, _, p1.dp r1 f, p2.dp r2 f, pl_sh hn p1.pl, pl_sh hn p2.pl, ?_⟩
    exact l.same (h _ (by have z := pl_eqv n d e p1.pl p2.pl; rw [← z]; cases PyData.eqv d.py e.py <;> simp)) (.bl _) f
/-- is None -/
inductive aIs : A2
  | nn {M : Mem} {Q : AQ} : Q (.bl true) M → aIs .non .non M Q
  | int {i : Int} {M : Mem} {Q : AQ} : Q (.bl false) M → aIs (.int i) .non M Q
  | str {z : Str} {M : Mem} {Q : AQ} : Q (.bl false) M → aIs (.str z) .non M Q
  | bl {b : Bool} {M : Mem} {Q : AQ} : Q (.bl false) M → aIs (.bl b) .non M Q
  | r {a : Addr} {M : Mem} {Q : AQ} : Q (.bl false) M → aIs (.r a) .non M Q
  | tup {ds : List D} {M : Mem} {Q : AQ} : Q (.bl false) M → aIs (.tup ds) .non M Q
  | lst {ds : List D} {M : Mem} {Q : AQ} : Q (.bl false) M → aIs (.lst ds) .non M Q
  | ins {C : Addr} {fs : List (Str × D)} {M : Mem} {Q : AQ} : Q (.bl false) M → aIs (.ins C fs) .non M Q
theorem o_is : OpR X (compareOp .Is) gIs ∧ Op2 K gIs aIs := ⟨g_is, fun x y v w M F H B Q h r1 r2 f l => by
  cases h with
  | nn h => cases r1; cases r2; exact v_isN (l.same h (.bl _) f)
  | int h => cases r1; cases r2; exact v_isI (l.same h (.bl _) f)
  | str h => cases r1; cases r2; exact v_isS (l.same h (.bl _) f)
  | bl h => cases r1; cases r2; exact v_isB (l.same h (.bl _) f)
  | r h => cases r1; cases r2; exact v_isR (l.same h (.bl _) f)
  | tup h => obtain ⟨a, vs, rfl, _⟩ := r1.tup_inv; cases r2; exact v_isR (l.same h (.bl _) f)
  | lst h => obtain ⟨a, vs, rfl, _⟩ := r1.lst_inv; cases r2; exact v_isR (l.same h (.bl _) f)
  | ins h => obtain ⟨a, dx, vs, rfl, _⟩ := r1.ins_inv; cases r2; exact v_isR (l.same h (.bl _) f)⟩
def aIsNot : A2 := fun x y M Q => aIs x y M fun d M' => ∃ b, d = .bl b ∧ Q (.bl (!b)) M'
theorem o_isnot : OpR X (compareOp .IsNot) gIsNot ∧ Op2 K gIsNot aIsNot := ⟨g_isnot, fun x y v w M F H B Q h r1 r2 f l => by
  have no : ∀ {a : Addr} {Q : VK}, Q (.bl true) H → gIsNot (.ref a) .non H Q := fun h => v_isnotR h
  cases h with
  | nn h => obtain ⟨b, e, h⟩ := h; cases e; cases r1; cases r2; exact v_isnotN (l.same h (.bl _) f)
  | int h => obtain ⟨b, e, h⟩ := h; cases e; cases r1; cases r2; exact v_isnotI (l.same h (.bl _) f)
  | str h => obtain ⟨b, e, h⟩ := h; cases e; cases r1; cases r2; exact v_isnotS (l.same h (.bl _) f)
  | bl h => obtain ⟨b, e, h⟩ := h; cases e; cases r1; cases r2; exact v_isnotB (l.same h (.bl _) f)
  | r h => obtain ⟨b, e, h⟩ := h; cases e; cases r1; cases r2; exact no (l.same h (.bl _) f)
  | tup h => obtain ⟨b, e, h⟩ := h; cases e; obtain ⟨a, vs, rfl, _⟩ := r1.tup_inv; cases r2; exact no (l.same h (.bl _) f)
  | lst h => obtain ⟨b, e, h⟩ := h; cases e; obtain ⟨a, vs, rfl, _⟩ := r1.lst_inv; cases r2; exact no (l.same h (.bl _) f)
  | ins h => obtain ⟨b, e, h⟩ := h; cases e; obtain ⟨a, dx, vs, rfl, _⟩ := r1.ins_inv; cases r2; exact no (l.same h (.bl _) f)⟩
/-- in: a text among texts, an int among ints, a sign in a text, data in a list -/
inductive aIn : A2
  | txts {y : D} {z : Str} {zs : List Str} {M : Mem} {Q : AQ} : Sq M y (zs.map D.str) → Q (.bl (decide (z ∈ zs))) M → aIn (.str z) y M Q
  | nums {y : D} {i : Int} {is : List Int} {M : Mem} {Q : AQ} : Sq M y (is.map D.int) → Q (.bl (decide (i ∈ is))) M → aIn (.int i) y M Q
  | sign {c : Nat} {z : Str} {M : Mem} {Q : AQ} : Q (.bl (decide (c ∈ z.cps.toList))) M → aIn (.str ⟨#[c]⟩) (.str z) M Q
  | dat {x y : D} {ds : List D} {M : Mem} {Q : AQ} (n : Nat) : x.pl n = true → Pd M (n + 1) y (.lst ds) → n < 64 → (∀ b : Bool, (b = true ↔ x ∈ ds) → Q (.bl b) M) → aIn x y M Q
  | tdat {x : D} {ds : List D} {M : Mem} {Q : AQ} (n : Nat) : x.pl n = true → (D.tup ds).pl (n + 1) = true → n < 64 → (∀ b : Bool, (b = true ↔ x ∈ ds) → Q (.bl b) M) → aIn x (.tup ds) M Q
theorem inV_str {z : Str} : ∀ {zs : List Str}, inV (.str z) (zs.map V.str) = decide (z ∈ zs)
  | [] => by simp [inV]
  | y :: zs => by
    have ih := inV_str (z := z) (zs := zs)
    unfold inV at ih ⊢
    rw [List.map_cons, List.any_cons, ih]
    have : eqV (.str y) (.str z) = decide (z = y) := by
      show (y == z) = _
      by_cases e : z = y
      · rw [e, decide_eq_true rfl]; exact beq_self_eq_true _
      · rw [decide_eq_false e]; exact beq_eq_false_iff_ne.mpr fun q => e q.symm
    rw [this, ← Bool.decide_or]
    exact dec_congr (by rw [List.mem_cons])
theorem inV_int {z : Int} : ∀ {zs : List Int}, inV (.int z) (zs.map V.int) = decide (z ∈ zs)
  | [] => by simp [inV]
  | y :: zs => by
    have ih := inV_int (z := z) (zs := zs)
    unfold inV at ih ⊢
    rw [List.map_cons, List.any_cons, ih]
    have : eqV (.int y) (.int z) = decide (z = y) := by
      show (y == z) = _
      by_cases e : z = y
      · rw [e, decide_eq_true rfl]; exact beq_self_eq_true _
      · rw [decide_eq_false e]; exact beq_eq_false_iff_ne.mpr fun q => e q.symm
    rw [this, ← Bool.decide_or]
    exact dec_congr (by rw [List.mem_cons])
theorem any_eqv {n : Nat} {x : D} {ds : List D} (hx : x.pl n = true) (h : plL ds n = true) : ((pyL ds).any fun z => PyData.eqv z x.py) = true ↔ x ∈ ds := by
  induction ds with
  | nil => simp [pyL]
  | cons d ds ih =>
    rw [plL, Bool.and_eq_true] at h
    rw [pyL, List.any_cons, Bool.or_eq_true, pl_eqv n d x h.1 hx, ih h.2, List.mem_cons]
    exact ⟨fun z => z.imp Eq.symm id, fun z => z.imp Eq.symm id⟩
def rInTD (K : PySem.W.Frag) : R2 := fun x y H Q => ∃ d ds, Dp K H x d ∧ Dp K H y (.tuple ds) ∧ SeqAt.shaped d = true ∧ SeqAt.shaped (.tuple ds) = true ∧ Q (.bl (ds.any fun z => PyData.eqv z d)) H
def rNotInTD (K : PySem.W.Frag) : R2 := fun x y H Q => ∃ d ds, Dp K H x d ∧ Dp K H y (.tuple ds) ∧ SeqAt.shaped d = true ∧ SeqAt.shaped (.tuple ds) = true ∧ Q (.bl (!ds.any fun z => PyData.eqv z d)) H
theorem op_inTD (hu : X.A.units + 65 < cLine) (hK : X.K = K := by rfl) : OpR X (compareOp .In) (rInTD K) := by
  subst hK
  intro pins s σ H x y v u Q I rx ry h
  obtain ⟨d, ds, hd, he, sd, se, q⟩ := h
  obtain ⟨as, r1⟩ := Dp.reads I d x v hd rx
  obtain ⟨bs, r2⟩ := Dp.reads I (.tuple ds) y u he ry
  exact SeqAt.in_tuple_reads r2 r1 (SeqAt.canLay_of_shaped se) (SeqAt.canLay_of_shaped sd) (room_in_shaped sd hu) ⟨.bl _, H, I, rfl, q⟩
theorem op_notInTD (hu : X.A.units + 65 < cLine) (hK : X.K = K := by rfl) : OpR X (compareOp .NotIn) (rNotInTD K) := by
  subst hK
  intro pins s σ H x y v u Q I rx ry h
  obtain ⟨d, ds, hd, he, sd, se, q⟩ := h
  obtain ⟨as, r1⟩ := Dp.reads I d x v hd rx
  obtain ⟨bs, r2⟩ := Dp.reads I (.tuple ds) y u he ry
  exact SeqAt.notIn_tuple_reads r2 r1 (SeqAt.canLay_of_shaped se) (SeqAt.canLay_of_shaped sd) (room_in_shaped sd hu) ⟨.bl _, H, I, rfl, q⟩
def rInA (K : PySem.W.Frag) : R2 := fun x y H Q => (gIn K x y H Q ∨ rInD K x y H Q) ∨ rInTD K x y H Q
def rNotInA (K : PySem.W.Frag) : R2 := fun x y H Q => (gNotIn K x y H Q ∨ rNotInD K x y H Q) ∨ rNotInTD K x y H Q
theorem o_in (hu : X.A.units + 65 < cLine) (hK : X.K = K := by rfl) : OpR X (compareOp .In) (rInA K) ∧ Op2 K (rInA K) aIn := by
  refine ⟨((g_in (K := K) hK).or (op_inDK hu hK)).or (op_inTD hu hK), fun x y v w M F H B Q h r1 r2 f l => ?_⟩
  cases h with
  | @txts y z zs _ _ hs h =>
    cases r1
    obtain ⟨a, vs, rfl, s, q⟩ := hs.at_ r2 f
    rw [q.strs] at s
    exact .inl (.inl (.inl ⟨a, _, rfl, s, rfl, by simp [flatV], by rw [if_neg Bool.false_ne_true, inV_str]; exact l.same h (.bl _) f⟩))
  | @nums y i is _ _ hs h =>
    cases r1
    obtain ⟨a, vs, rfl, s, q⟩ := hs.at_ r2 f
    rw [q.ints] at s
    exact .inl (.inl (.inl ⟨a, _, rfl, s, rfl, by simp [flatV], by rw [if_neg Bool.false_ne_true, inV_int]; exact l.same h (.bl _) f⟩))
  | sign h => cases r1; cases r2; exact .inl (.inl (v_inS (l.same h (.bl _) f)))
  | @dat x y ds _ _ n p1 p2 hn h =>
    have pp : plL ds n = true := by have := p2.pl; rwa [D.pl] at this
    have d2 := p2.dp r2 f
    rw [D.py] at d2
    exact .inl (.inr ⟨_, _, Dp.same f.sub _ _ (r1.dp n p1), d2, pl_sh (by omega) p1, by have := pl_sh (show n + 1 ≤ 64 by omega) p2.pl; rwa [D.py] at this, l.same (h _ (any_eqv p1 pp)) (.bl _) f⟩)
  | @tdat x ds _ _ n p1 p2 hn h =>
    have pp : plL ds n = true := by have := p2; rwa [D.pl] at this
    have d2 := (r2.dp (n + 1) p2)
    rw [D.py] at d2
    exact .inr ⟨_, _, Dp.same f.sub _ _ (r1.dp n p1), Dp.same f.sub _ _ d2, pl_sh (by omega) p1, by have := pl_sh (show n + 1 ≤ 64 by omega) p2; rwa [D.py] at this, l.same (h _ (any_eqv p1 pp)) (.bl _) f⟩
def aNotIn : A2 := fun x y M Q => aIn x y M fun d M' => ∃ b, d = .bl b ∧ Q (.bl (!b)) M'
theorem o_notin (hu : X.A.units + 65 < cLine) (hK : X.K = K := by rfl) : OpR X (compareOp .NotIn) (rNotInA K) ∧ Op2 K (rNotInA K) aNotIn := by
  refine ⟨((g_notin (K := K) hK).or (op_notInDK hu hK)).or (op_notInTD hu hK), fun x y v w M F H B Q h r1 r2 f l => ?_⟩
  cases h with
  | @txts y z zs _ _ hs h =>
    obtain ⟨b, e, h⟩ := h
    cases e
    cases r1
    obtain ⟨a, vs, rfl, s, q⟩ := hs.at_ r2 f
    rw [q.strs] at s
    exact .inl (.inl (.inl ⟨a, _, rfl, s, rfl, by simp [flatV], by rw [if_pos rfl, inV_str]; exact l.same h (.bl _) f⟩))
  | @nums y i is _ _ hs h =>
    obtain ⟨b, e, h⟩ := h
    cases e
    cases r1
    obtain ⟨a, vs, rfl, s, q⟩ := hs.at_ r2 f
    rw [q.ints] at s
    exact .inl (.inl (.inl ⟨a, _, rfl, s, rfl, by simp [flatV], by rw [if_pos rfl, inV_int]; exact l.same h (.bl _) f⟩))
  | sign h => obtain ⟨b, e, h⟩ := h; cases e; cases r1; cases r2; exact .inl (.inl (v_notinS (l.same h (.bl _) f)))
  | @dat x y ds _ _ n p1 p2 hn h =>
    have pp : plL ds n = true := by have := p2.pl; rwa [D.pl] at this
    have d2 := p2.dp r2 f
    rw [D.py] at d2
    obtain ⟨b, e, h⟩ := h _ (any_eqv p1 pp)
    cases e
    exact .inl (.inr ⟨_, _, Dp.same f.sub _ _ (r1.dp n p1), d2, pl_sh (by omega) p1, by have := pl_sh (show n + 1 ≤ 64 by omega) p2.pl; rwa [D.py] at this, l.same h (.bl _) f⟩)
  | @tdat x ds _ _ n p1 p2 hn h =>
    have pp : plL ds n = true := by have := p2; rwa [D.pl] at this
    have d2 := (r2.dp (n + 1) p2)
    rw [D.py] at d2
    obtain ⟨b, e, h⟩ := h _ (any_eqv p1 pp)
    cases e
    exact .inr ⟨_, _, Dp.same f.sub _ _ (r1.dp n p1), Dp.same f.sub _ _ d2, pl_sh (by omega) p1, by have := pl_sh (show n + 1 ≤ 64 by omega) p2; rwa [D.py] at this, l.same h (.bl _) f⟩
/-! ### subscripts -/
inductive aIx : A2
  | seq {x d : D} {xs : List D} {i : Int} {M : Mem} {Q : AQ} : Sq M x xs → atI xs i = some d → Q d M → aIx x (.int i) M Q
  | str {z : Str} {i : Int} {c : Nat} {M : Mem} {Q : AQ} : z.length ≤ sizeLine → atI z.cps.toList i = some c → Q (.str ⟨#[c]⟩) M → aIx (.str z) (.int i) M Q
theorem atI_rv {F : Hp} {vs : List V} {ds : List D} {i : Int} {d : D} (r : RvL K F vs ds) (e : atI ds i = some d) : ∃ v, atI vs i = some v ∧ Rv K F v d := by
  unfold atI at e ⊢
  rw [r.1]
  cases q : ixN ds.length i with
  | none => rw [q] at e; cases e
  | some j =>
    rw [q] at e
    obtain ⟨v, ev, rv⟩ := r.get (i := j) e
    exact ⟨v, ev, rv⟩
theorem o_ix (hK : X.K = K := by rfl) : IxR X (rIx K) ∧ Op2 K (rIx K) aIx := by
  refine ⟨g_ix hK, fun x y v w M F H B Q h r1 r2 f l => ?_⟩
  cases h with
  | seq hs e h =>
    cases r2
    obtain ⟨a, vs, rfl, s, q⟩ := hs.at_ r1 f
    obtain ⟨u, eu, ru⟩ := atI_rv q e
    rcases s with s | s
    · exact v_ixLs s eu (l.same h ru f)
    · exact v_ixTs s eu (l.same h ru f)
  | str hl e h => cases r1; cases r2; exact v_ixS hl e (l.same h (.str _) f)
/-! ### slices -/
abbrev cutD (xs : List D) (lo hi : Option Int) : List D := (xs.drop (HT.sIx xs.length 0 lo)).take (HT.sIx xs.length xs.length hi - HT.sIx xs.length 0 lo)
theorem RvL.cut {F : Hp} {vs : List V} {ds : List D} (r : RvL K F vs ds) (lo hi : Option Int) : RvL K F (cutV vs lo hi) (cutD ds lo hi) := by
  unfold cutV cutD
  rw [r.1]
  exact (r.drop _).take _
inductive aCutR : D → Option Int → Option Int → Mem → AQ → Prop
  | lst {x : D} {xs : List D} {lo hi : Option Int} {M : Mem} {Q : AQ} : Ls M x xs → Q (.lst (cutD xs lo hi)) M → aCutR x lo hi M Q
  | lstO {x : D} {xs : List D} {lo hi : Option Int} {M : Mem} {Q : AQ} : Ls M x xs → (∀ a, Q (.r a) ((a, .lst (cutD xs lo hi)) :: M)) → aCutR x lo hi M Q
  | tup {xs : List D} {lo hi : Option Int} {M : Mem} {Q : AQ} : Q (.tup (cutD xs lo hi)) M → aCutR (.tup xs) lo hi M Q
  | str {z : Str} {lo hi : Option Int} {M : Mem} {Q : AQ} : z.length ≤ sizeLine → Q (.str (cutS z lo hi)) M → aCutR (.str z) lo hi M Q
inductive aCutO : D → Option Int → Option Int → Mem → AQ → Prop
  | mk {x : D} {xs : List D} {lo hi : Option Int} {M : Mem} {Q : AQ} : Ls M x xs → (∀ a, Q (.r a) ((a, .lst (cutD xs lo hi)) :: M)) → aCutO x lo hi M Q
theorem o_sl (hK : X.K = K := by rfl) : SlR X (gSl K) ∧ OpS K (gSl K) aCutR := by
  refine ⟨g_sl hK, fun x lo hi v M F H B Q h r1 f l => ?_⟩
  cases h with
  | lst l1 h =>
    obtain ⟨a, vs, rfl, s1, q1⟩ := l1.at_ r1 f
    exact .inl ⟨a, vs, rfl, s1, NewL.run (.inl h) (q1.cut lo hi) f l⟩
  | lstO l1 h =>
    obtain ⟨a, vs, rfl, s1, q1⟩ := l1.at_ r1 f
    exact .inl ⟨a, vs, rfl, s1, NewL.run (.inr h) (q1.cut lo hi) f l⟩
  | @tup xs _ _ _ _ h =>
    obtain ⟨a, vs, rfl, s1, q1⟩ := r1.tup_at f
    refine .inr (.inl ⟨a, vs, rfl, s1, fun ⟨e1, e2⟩ => ?_, fun _ => newT h (q1.cut lo hi) f l⟩)
    rw [q1.1] at e1 e2
    have e : cutD xs lo hi = xs := by
      unfold cutD
      rw [e1, e2, List.drop_zero, Nat.sub_zero, List.take_length]
    rw [e] at h
    exact l.same h r1 f
  | str hl h => cases r1; exact .inr (.inr ⟨_, rfl, hl, l.same h (.str _) f⟩)
theorem o_slO (hK : X.K = K := by rfl) : SlR X (gSl K) ∧ OpS K (gSl K) aCutO := ⟨(o_sl hK).1, fun x lo hi v M F H B Q h r1 f l => by
  cases h with
  | mk l1 h => exact (o_sl hK).2 x lo hi v M F H B Q (.lstO l1 h) r1 f l⟩
end
end AV

set_option Elab.async false
set_option linter.all false
set_option maxRecDepth 100000
set_option maxHeartbeats 4000000
/-! A7: built-in calls, methods of lists and texts, f-strings, over abstract values (own work). -/
namespace AV
open PySem PySem.Spec PyProof.Rows L2 G TL RZ
abbrev AN := List D → Mem → AQ → Prop
abbrev AM := D → List D → Mem → AQ → Prop
section
variable {X : Cx} {K : PySem.W.Frag}
/-! ### len, isinstance, min, max, int, str, list, tuple, all, any -/
inductive aLen : AN
  | seq {x : D} {xs : List D} {M : Mem} {Q : AQ} : Sq M x xs → Q (.int (xs.length : Nat)) M → aLen [x] M Q
  | str {z : Str} {M : Mem} {Q : AQ} : z.length ≤ sizeLine → Q (.int (z.length : Nat)) M → aLen [.str z] M Q
theorem o_len (hK : X.K = K := by rfl) : CallR X (.builtin "len") (gLen K) ∧ OpN K (gLen K) aLen := ⟨g_len hK, fun xs vs M F H B Q h r f l => by
  cases h with
  | seq hs h =>
    obtain ⟨v, vr, rfl, r1, r2⟩ := r.inv
    obtain rfl := r2.inv_nil
    obtain ⟨a, us, rfl, s, q⟩ := hs.at_ r1 f
    rw [← q.1] at h
    rcases s with s | s
    · exact v_lenLs s (l.same h (.int _) f)
    · exact v_lenTs s (l.same h (.int _) f)
  | str hl h =>
    obtain ⟨v, vr, rfl, r1, r2⟩ := r.inv
    obtain rfl := r2.inv_nil
    cases r1
    exact v_lenS hl (l.same h (.int _) f)⟩
/-- the built-in kind of a value -/
inductive Kd (M : Mem) : D → String → Prop
  | non : Kd M .non "NoneType"
  | bl {b : Bool} : Kd M (.bl b) "bool"
  | int {i : Int} : Kd M (.int i) "int"
  | str {z : Str} : Kd M (.str z) "str"
  | tup {ds : List D} : Kd M (.tup ds) "tuple"
  | lst {ds : List D} : Kd M (.lst ds) "list"
  | o {a : Addr} {xs : List D} {u : Ob → Mem} : At M a (.lst xs) u → Kd M (.r a) "list"
theorem Kd.ty {M : Mem} {x : D} {n : String} {v : V} {F H : Hp} (h : Kd M x n) (r : Rv K F v x) (f : Fr K M F H) : TyX K H v (.type n) := by
  cases h with
  | non => cases r; exact .base .non
  | bl => cases r; exact .base (.bl _)
  | int => cases r; exact .base (.int _)
  | str => cases r; exact .base (.str _)
  | tup => obtain ⟨a, vs, rfl, s, _⟩ := r.tup_at f; exact tyx_t s
  | lst => obtain ⟨a, vs, rfl, s, _⟩ := (Ls.d (M := M)).at_ r f; exact tyx_l s
  | o ha =>
    obtain ⟨vs, e, _⟩ := f.at_ _ ha.mem
    cases r
    exact tyx_l (SqL.of e)
inductive aIsi (K : PySem.W.Frag) : AN
  | kd {x : D} {n T : String} {b : Bool} {M : Mem} {Q : AQ} : Kd M x n → kitB n T = some b → Q (.bl b) M → aIsi K [x, .ty T] M Q
  | own {x : D} {C : Addr} {fs : List (Str × D)} {M : Mem} {Q : AQ} : InsAt M x C fs → ClK K C → Q (.bl true) M → aIsi K [x, .r C] M Q
  | oth {x : D} {C C' : Addr} {fs : List (Str × D)} {M : Mem} {Q : AQ} {b : Bool} : InsAt M x C fs → ClK K C → PySem.W.kitOne K (.ref C) (.ref C') = some b → Q (.bl b) M → aIsi K [x, .r C'] M Q
theorem o_isi (hK : X.K = K := by rfl) : CallR X (.builtin "isinstance") (gIsi K) ∧ OpN K (gIsi K) (aIsi K) := ⟨g_isi hK, fun xs vs M F H B Q h r f l => by
  cases h with
  | kd hk e h =>
    obtain ⟨v, vr, rfl, r1, r2⟩ := r.inv
    obtain ⟨v2, vr2, rfl, r3, r4⟩ := r2.inv
    obtain rfl := r4.inv_nil
    cases r3
    exact v_isi (hk.ty r1 f) e (l.same h (.bl _) f)
  | own hi c h =>
    obtain ⟨v, vr, rfl, r1, r2⟩ := r.inv
    obtain ⟨v2, vr2, rfl, r3, r4⟩ := r2.inv
    obtain rfl := r4.inv_nil
    cases r3
    obtain ⟨a, dx, vfs, rfl, e, _⟩ := hi.at_ r1 f
    exact v_isiO e c (l.same h (.bl _) f)
  | @oth x C C' fs _ _ b hi c e h =>
    obtain ⟨v, vr, rfl, r1, r2⟩ := r.inv
    obtain ⟨v2, vr2, rfl, r3, r4⟩ := r2.inv
    obtain rfl := r4.inv_nil
    cases r3
    obtain ⟨a, dx, vfs, rfl, ea, _⟩ := hi.at_ r1 f
    exact .inl ⟨.ref a, .ref C', _, _, b, rfl, .own C', .base (.ins ea c.cl c.cc c.sp c.tk c.mo), e, l.same h (.bl _) f⟩⟩
inductive aMin : AN
  | mk {i j : Int} {M : Mem} {Q : AQ} : Q (.int (if j < i then j else i)) M → aMin [.int i, .int j] M Q
theorem two_ints {F : Hp} {vs : List V} {i j : Int} (r : RvL K F vs [.int i, .int j]) : vs = [.int i, .int j] := by
  obtain ⟨v, vr, rfl, r1, r2⟩ := r.inv
  obtain ⟨v2, vr2, rfl, r3, r4⟩ := r2.inv
  obtain rfl := r4.inv_nil
  cases r1
  cases r3
  rfl
theorem o_min (hc : X.calm = true) : CallR X (.builtin "min") gMin ∧ OpN K gMin aMin := ⟨g_min hc, fun xs vs M F H B Q h r f l => by
  cases h with
  | mk h => rw [two_ints r]; exact ⟨_, _, rfl, l.same h (.int _) f⟩⟩
def gMax : List V → Hp → VK → Prop := fun xs H Q => ∃ i j, xs = [.int i, .int j] ∧ Q (.int (if j > i then j else i)) H
inductive aMax : AN
  | mk {i j : Int} {M : Mem} {Q : AQ} : Q (.int (if j > i then j else i)) M → aMax [.int i, .int j] M Q
theorem o_max (hc : X.calm = true) : CallR X (.builtin "max") gMax ∧ OpN K gMax aMax := ⟨call_max2 hc, fun xs vs M F H B Q h r f l => by
  cases h with
  | mk h => rw [two_ints r]; exact ⟨_, _, rfl, l.same h (.int _) f⟩⟩
inductive aIntC : AN
  | int {i : Int} {M : Mem} {Q : AQ} : Q (.int i) M → aIntC [.int i] M Q
  | bl {b : Bool} {M : Mem} {Q : AQ} : Q (.int (if b then 1 else 0)) M → aIntC [.bl b] M Q
  | str {z : Str} {i : Int} {M : Mem} {Q : AQ} : PySem.intText? z = some i → z.length ≤ 640 → Q (.int i) M → aIntC [.str z] M Q
theorem o_int : CallR X (.type "int") gInt ∧ OpN K gInt aIntC := ⟨g_int, fun xs vs M F H B Q h r f l => by
  obtain ⟨v, vr, rfl, r1, r2⟩ := (by cases h <;> exact r.inv : ∃ v vs', vs = v :: vs' ∧ Rv K F v (xs.headD .non) ∧ RvL K F vs' xs.tail)
  cases h with
  | int h => obtain rfl := RvL.inv_nil r2; cases r1; exact v_intI (l.same h (.int _) f)
  | bl h => obtain rfl := RvL.inv_nil r2; cases r1; exact v_intB (l.same h (.int _) f)
  | str e hl h => obtain rfl := RvL.inv_nil r2; cases r1; exact v_intS e hl (l.same h (.int _) f)⟩
inductive aStrC : AN
  | int {i : Int} {M : Mem} {Q : AQ} : i.natAbs.log2 < 1920 → Q (.str (toString i)) M → aStrC [.int i] M Q
theorem o_str : CallR X (.type "str") gStr ∧ OpN K gStr aStrC := ⟨g_str, fun xs vs M F H B Q h r f l => by
  cases h with
  | int hi h =>
    obtain ⟨v, vr, rfl, r1, r2⟩ := r.inv
    obtain rfl := r2.inv_nil
    cases r1
    exact v_str hi (l.same h (.str _) f)⟩
inductive aListC : AN
  | d {x : D} {xs : List D} {M : Mem} {Q : AQ} : Sq M x xs → Q (.lst xs) M → aListC [x] M Q
  | o {x : D} {xs : List D} {M : Mem} {Q : AQ} : Sq M x xs → (∀ a, Q (.r a) ((a, .lst xs) :: M)) → aListC [x] M Q
theorem o_list (hK : X.K = K := by rfl) : CallR X (.type "list") (gList K) ∧ OpN K (gList K) aListC := ⟨g_list hK, fun xs vs M F H B Q h r f l => by
  cases h with
  | d hs h =>
    obtain ⟨v, vr, rfl, r1, r2⟩ := r.inv
    obtain rfl := r2.inv_nil
    obtain ⟨a, us, rfl, s, q⟩ := hs.at_ r1 f
    exact ⟨a, us, rfl, s, NewL.run (.inl h) q f l⟩
  | o hs h =>
    obtain ⟨v, vr, rfl, r1, r2⟩ := r.inv
    obtain rfl := r2.inv_nil
    obtain ⟨a, us, rfl, s, q⟩ := hs.at_ r1 f
    exact ⟨a, us, rfl, s, NewL.run (.inr h) q f l⟩⟩
inductive aListO : AN
  | mk {x : D} {xs : List D} {M : Mem} {Q : AQ} : Sq M x xs → (∀ a, Q (.r a) ((a, .lst xs) :: M)) → aListO [x] M Q
theorem o_listO (hK : X.K = K := by rfl) : CallR X (.type "list") (gList K) ∧ OpN K (gList K) aListO := ⟨g_list hK, fun xs vs M F H B Q h r f l => by
  cases h with
  | mk hs h => exact (o_list hK).2 _ vs M F H B Q (.o hs h) r f l⟩
inductive aTupC : AN
  | mk {x : D} {xs : List D} {M : Mem} {Q : AQ} : Sq M x xs → Q (.tup xs) M → aTupC [x] M Q
theorem o_tup (hK : X.K = K := by rfl) : CallR X (.type "tuple") (gTupl K) ∧ OpN K (gTupl K) aTupC := ⟨g_tup hK, fun xs vs M F H B Q h r f l => by
  cases h with
  | mk hs h =>
    obtain ⟨v, vr, rfl, r1, r2⟩ := r.inv
    obtain rfl := r2.inv_nil
    cases hs with
    | t =>
      obtain ⟨a, us, rfl, s, q⟩ := r1.tup_at f
      exact ⟨a, us, rfl, .inr ⟨s, l.same h r1 f⟩⟩
    | z =>
      obtain ⟨a, us, rfl, s, q⟩ := r1.tz_tup.tup_at f
      exact ⟨a, us, rfl, .inr ⟨s, l.same h r1.tz_tup f⟩⟩
    | s =>
      obtain ⟨a, us, rfl, s, q⟩ := (Ls.s (M := M)).at_ r1 f
      exact ⟨a, us, rfl, .inl ⟨s, newT h q f l⟩⟩
    | d =>
      obtain ⟨a, us, rfl, s, q⟩ := (Ls.d (M := M)).at_ r1 f
      exact ⟨a, us, rfl, .inl ⟨s, newT h q f l⟩⟩
    | o ha =>
      obtain ⟨a, us, rfl, s, q⟩ := (Ls.o ha).at_ r1 f
      exact ⟨a, us, rfl, .inl ⟨s, newT h q f l⟩⟩⟩
inductive aAll : AN
  | mk {x : D} {bs : List Bool} {M : Mem} {Q : AQ} : Ls M x (bs.map D.bl) → Q (.bl (bs.all id)) M → aAll [x] M Q
inductive aAny : AN
  | mk {x : D} {bs : List Bool} {M : Mem} {Q : AQ} : Ls M x (bs.map D.bl) → Q (.bl (bs.any id)) M → aAny [x] M Q
theorem o_all (hc : X.calm = true) (hK : X.K = K := by rfl) : CallR X (.builtin "all") (rAll K) ∧ OpN K (rAll K) aAll := ⟨g_all hc hK, fun xs vs M F H B Q h r f l => by
  cases h with
  | mk hs h =>
    obtain ⟨v, vr, rfl, r1, r2⟩ := r.inv
    obtain rfl := r2.inv_nil
    obtain ⟨a, us, rfl, s, q⟩ := hs.at_ r1 f
    rw [q.bls] at s
    exact ⟨a, _, rfl, s, l.same h (.bl _) f⟩⟩
theorem o_any (hc : X.calm = true) (hK : X.K = K := by rfl) : CallR X (.builtin "any") (rAny K) ∧ OpN K (rAny K) aAny := ⟨g_any hc hK, fun xs vs M F H B Q h r f l => by
  cases h with
  | mk hs h =>
    obtain ⟨v, vr, rfl, r1, r2⟩ := r.inv
    obtain rfl := r2.inv_nil
    obtain ⟨a, us, rfl, s, q⟩ := hs.at_ r1 f
    rw [q.bls] at s
    exact ⟨a, _, rfl, s, l.same h (.bl _) f⟩⟩
/-- len(set(t)), t a tuple of tuples of ints -/
@[reducible] def aLenSet (te : ATE) : ATE := fun xs M Q => te xs M fun x M1 => ∃ ks : List (List Int), x = .tup (ks.map fun k => .tup (k.map D.int)) ∧ ks.length < 64 ∧ ∀ n : Nat, (∃ L : List (List Int), L.Nodup ∧ L.length = n ∧ ∀ k, k ∈ L ↔ k ∈ ks) → Q (.int n) M1
theorem a_lenset {W : WX} {A : AX} {e : Expr} {te : ATE} (h : PE X e (tLenSetT K (conE K W A te))) : PE X e (conE K W A (aLenSet te)) := h.to fun σ H Q ⟨xs, M, F, B, rs, fr, lx, h, l⟩ =>
  con_step rs fr lx h fun x M1 v H1 F1 ⟨ks, e, hk, h1⟩ s1 r1 f1 _ _ => by
    subst e
    obtain ⟨a, vs, rfl, s, q⟩ := r1.tup_at f1
    have each : ∀ (ks : List (List Int)) (vs : List V), RvL K F1 vs (ks.map fun k => .tup (k.map D.int)) → ∃ ps : List (Addr × List Int), vs = ps.map (fun p => V.ref p.1) ∧ ps.map (·.2) = ks ∧ ∀ p ∈ ps, SqT K H1 p.1 (p.2.map V.int) := by
      intro ks
      induction ks with
      | nil => intro vs q; exact ⟨[], q.inv_nil, rfl, by simp⟩
      | cons k ks ih =>
        intro vs q
        obtain ⟨v, vr, rfl, r1, r2⟩ := RvL.inv q
        obtain ⟨ps, e1, e2, e3⟩ := ih vr r2
        obtain ⟨b, us, rfl, s2, q2⟩ := r1.tup_at f1
        rw [q2.ints] at s2
        refine ⟨(b, k) :: ps, by rw [List.map_cons, ← e1], by rw [List.map_cons, e2], fun p hp => ?_⟩
        rcases List.mem_cons.mp hp with rfl | hp
        · exact s2
        · exact e3 p hp
    obtain ⟨ps, e1, e2, e3⟩ := each ks vs q
    rw [e1] at s
    refine ⟨a, ps, rfl, s, e3, by rw [← e2, List.length_map] at hk; exact hk, fun n ⟨L, h1', h2', h3'⟩ => l _ _ _ _ _ (h1 n ⟨L, h1', h2', by rw [← e2]; exact h3'⟩) s1 (.int _) f1⟩
/-! ### methods -/
inductive aApp : AM
  | mk {a : Addr} {xs : List D} {d : D} {u : Ob → Mem} {M : Mem} {Q : AQ} : At M a (.lst xs) u → xs.length < sizeLine → Q .non (u (.lst (xs ++ [d]))) → aApp (.r a) [d] M Q
theorem o_app : OpM K rAppend aApp := fun x xs v vs M F H B Q h r1 r f l => by
  cases h with
  | mk ha hl h =>
    cases r1
    obtain ⟨w, vr, rfl, r2, r3⟩ := r.inv
    obtain rfl := r3.inv_nil
    obtain ⟨us, e, q⟩ := f.at_ _ ha.mem
    exact ⟨_, us, w, rfl, rfl, e, by rw [q.1]; exact hl, l.same h .non (f.put ha ⟨_, upd_same, q.append (.cons r2 .nil)⟩)⟩
inductive aExt : AM
  | mk {a : Addr} {xs ys : List D} {d : D} {u : Ob → Mem} {M : Mem} {Q : AQ} : At M a (.lst xs) u → (d = .lst ys ∨ ∃ b u', d = .r b ∧ At M b (.lst ys) u') → xs.length + ys.length ≤ sizeLine → Q .non (u (.lst (xs ++ ys))) → aExt (.r a) [d] M Q
theorem o_ext : OpM K rExtend aExt := fun x xs v vs M F H B Q h r1 r f l => by
  cases h with
  | mk ha hy hl h =>
    cases r1
    obtain ⟨w, vr, rfl, r2, r3⟩ := r.inv
    obtain rfl := r3.inv_nil
    obtain ⟨us, e, q⟩ := f.at_ _ ha.mem
    rcases hy with rfl | ⟨b, u', rfl, hb⟩
    · obtain ⟨b, ws, rfl, e2, q2⟩ := r2.lst_inv0
      exact ⟨_, b, us, ws, rfl, rfl, e, f.sub _ _ e2, by rw [q.1, q2.1]; exact hl, l.same h .non (f.put ha ⟨_, upd_same, q.append q2⟩)⟩
    · cases r2
      obtain ⟨ws, e2, q2⟩ := f.at_ _ hb.mem
      exact ⟨_, b, us, ws, rfl, rfl, e, e2, by rw [q.1, q2.1]; exact hl, l.same h .non (f.put ha ⟨_, upd_same, q.append q2⟩)⟩
inductive aPop : AM
  | mk {a : Addr} {xs : List D} {d : D} {u : Ob → Mem} {M : Mem} {Q : AQ} : At M a (.lst xs) u → xs[xs.length - 1]? = some d → Q d (u (.lst xs.dropLast)) → aPop (.r a) [] M Q
theorem RvL.dropLast {F : Hp} {vs : List V} {ds : List D} (r : RvL K F vs ds) : RvL K F vs.dropLast ds.dropLast := by
  rw [List.dropLast_eq_take, List.dropLast_eq_take, r.1]
  exact r.take _
theorem o_pop : OpM K rPop aPop := fun x xs v vs M F H B Q h r1 r f l => by
  cases h with
  | mk ha hl h =>
    cases r1
    obtain rfl := r.inv_nil
    obtain ⟨us, e, q⟩ := f.at_ _ ha.mem
    obtain ⟨w, ew, rw'⟩ := q.get hl
    exact ⟨_, us, w, rfl, rfl, e, by rw [q.1]; exact ew, l _ _ _ _ _ h (Same.refl F) rw' (f.put ha ⟨_, upd_same, q.dropLast⟩)⟩
inductive aJoin : AM
  | mk {a : Str} {x : D} {ys : List Str} {M : Mem} {Q : AQ} : Sq M x (ys.map D.str) → (ys.map (·.length)).sum + ys.length * a.length ≤ 16777216 → Q (.str (Txt.join a ys)) M → aJoin (.str a) [x] M Q
theorem o_join : OpM K (gJoin K) aJoin := fun x xs v vs M F H B Q h r1 r f l => by
  cases h with
  | mk hs hl h =>
    cases r1
    obtain ⟨w, vr, rfl, r2, r3⟩ := r.inv
    obtain rfl := r3.inv_nil
    obtain ⟨a, us, rfl, s, q⟩ := hs.at_ r2 f
    rw [q.strs] at s
    exact ⟨_, a, _, rfl, rfl, s, hl, l.same h (.str _) f⟩
inductive aSplit : AM
  | d {a b : Str} {M : Mem} {Q : AQ} : (b.length == 0) = false → a.length + 2 ≤ sizeLine → Q (.lst ((Txt.split a b).map D.str)) M → aSplit (.str a) [.str b] M Q
theorem rvl_strs {F : Hp} (zs : List Str) : RvL K F (zs.map V.str) (zs.map D.str) := ⟨by simp, fun i v d e1 e2 => by
  rw [List.getElem?_map] at e1 e2
  cases q : zs[i]? with
  | none => rw [q] at e1; cases e1
  | some z => rw [q] at e1 e2; cases e1; cases e2; exact .str z⟩
theorem o_split : OpM K gSplit aSplit := fun x xs v vs M F H B Q h r1 r f l => by
  cases h with
  | d hb hl h =>
    cases r1
    obtain ⟨w, vr, rfl, r2, r3⟩ := r.inv
    obtain rfl := r3.inv_nil
    cases r2
    exact ⟨_, _, rfl, rfl, hb, hl, NewL.run (.inl h) (rvl_strs _) f l⟩
def gStarts : V → List V → Hp → VK → Prop := fun x xs H Q => ∃ a b, x = .str a ∧ xs = [.str b] ∧ Q (.bl (Txt.startswith a b)) H
inductive aStarts : AM
  | mk {a b : Str} {M : Mem} {Q : AQ} : Q (.bl (Txt.startswith a b)) M → aStarts (.str a) [.str b] M Q
theorem g_starts : MtR X "str.startswith" gStarts := mt_startswith
theorem o_starts : OpM K gStarts aStarts := fun x xs v vs M F H B Q h r1 r f l => by
  cases h with
  | mk h =>
    cases r1
    obtain ⟨w, vr, rfl, r2, r3⟩ := r.inv
    obtain rfl := r3.inv_nil
    cases r2
    exact ⟨_, _, rfl, rfl, l.same h (.bl _) f⟩
/-! ### f-strings -/
@[reducible] def aFmt (te : ATE) : ATE := fun xs M Q => te xs M fun x M1 => (∃ y : Str, x = .str y ∧ y.length ≤ sizeLine ∧ Q (.str y) M1) ∨ ∃ i : Int, x = .int i ∧ i.natAbs.log2 < 1920 ∧ Q (.str (toString i)) M1
theorem a_fmt {W : WX} {A : AX} {e : Expr} {te : ATE} {pos : Pos} (h : PE X e (conE K W A te)) : PE X (.FormattedValue e (-1) none pos) (conE K W A (aFmt te)) := (pe_fmt h).to fun σ H Q ⟨xs, M, F, B, rs, fr, lx, h, l⟩ =>
  con_step rs fr lx h fun x M1 v H1 F1 h1 s1 r1 f1 _ _ => by
    rcases h1 with ⟨y, e, hl, h1⟩ | ⟨i, e, hl, h1⟩
    · subst e; cases r1; exact .inl ⟨y, rfl, hl, l _ _ _ _ _ h1 s1 (.str _) f1⟩
    · subst e; cases r1; exact .inr ⟨i, rfl, hl, l _ _ _ _ _ h1 s1 (.str _) f1⟩
def aJs : List ATE → Str → AS → Mem → (Str → Mem → Prop) → Prop
  | [], acc, _, M, Q => Q acc M
  | t :: ts, acc, xs, M, Q => t xs M fun x M1 => ∃ y : Str, x = .str y ∧ (acc ++ y).length ≤ sizeLine ∧ aJs ts (acc ++ y) xs M1 Q
theorem js_con {W : WX} {A : AX} : ∀ (ts : List ATE) (acc : Str) (σ : L2.St) (xs : AS) (M : Mem) (F H : Hp) (B : Str → Mem → Prop) (Q : Str → Hp → Prop), Rs K F xs σ → Fr K M F H → LnX K F A W → aJs ts acc xs M B → (∀ z M' H' F', B z M' → Same F F' → Fr K M' F' H' → Q z H') → tJs (ts.map (conE K W A)) acc σ H Q
  | [], acc, σ, xs, M, F, H, B, Q, rs, fr, lx, h, l => l _ _ _ _ h (Same.refl F) fr
  | t :: ts, acc, σ, xs, M, F, H, B, Q, rs, fr, lx, h, l => con_step rs fr lx h fun x M1 v H1 F1 ⟨y, e, hy, h1⟩ s1 r1 f1 rs1 lx1 => by
    subst e
    cases r1
    exact ⟨y, rfl, hy, js_con ts _ σ xs M1 F1 H1 B Q rs1 f1 lx1 h1 fun z M' H' F' b s f => l z M' H' F' b (s1.trans s) f⟩
@[reducible] def aJoined (ts : List ATE) : ATE := fun xs M Q => aJs ts Str.empty xs M fun z M1 => Q (.str z) M1
inductive AJ (X : Cx) (K : PySem.W.Frag) (W : WX) (A : AX) : List Expr → List ATE → Prop where
  | nil : AJ X K W A [] []
  | cons {e : Expr} {t : ATE} {es : List Expr} {ts : List ATE} (h : PE X e (conE K W A t)) (r : AJ X K W A es ts) : AJ X K W A (e :: es) (t :: ts)
theorem AJ.pj {W : WX} {A : AX} {es : List Expr} {ts : List ATE} (h : AJ X K W A es ts) : PJ X es (ts.map (conE K W A)) := by
  induction h with
  | nil => exact .nil
  | cons h _ ih => exact .cons h ih
theorem a_joined {W : WX} {A : AX} {v1 v2 : Expr} {rest : List Expr} {ts : List ATE} {pos : Pos} (h : AJ X K W A (v1 :: v2 :: rest) ts) : PE X (.JoinedStr (v1 :: v2 :: rest) pos) (conE K W A (aJoined ts)) :=
  (pe_joined h.pj).to fun σ H Q ⟨xs, M, F, B, rs, fr, lx, h, l⟩ => js_con ts _ σ xs M F H _ _ rs fr lx h fun z M' H' F' b s f => l _ _ _ _ _ b s (.str z) f
/-- -x -/
def aNeg : D → Mem → AQ → Prop := fun x M Q => ∃ i, x = .int i ∧ Q (.int (-i)) M
theorem o_neg : UnR X (unaryOp .USub) (rU fun i => .int (-i)) ∧ Op1 K (rU fun i => .int (-i)) aNeg := ⟨un_neg, fun x v M F H B Q ⟨i, e, h⟩ r f l => by
  subst e
  cases r
  exact ⟨i, rfl, l.same h (.int _) f⟩⟩
end
/-! ### zip -/
section
variable {K : PySem.W.Frag} {W : WX} {A : AX} {X : Cx} {F : Hp}
def zipD (xs ys : List D) : List D := (xs.zip ys).map fun p => .tup [p.1, p.2]
inductive ItsZ : List D → List D → Prop
  | l {as bs : List D} : ItsZ [.lst as, .lst bs] (zipD as bs)
  | t {as bs : List D} : ItsZ [.tup as, .tup bs] (zipD as bs)
@[reducible] def aiZip (t : ATA) : ATI := fun xs M R => t xs M fun ds M1 => ∃ its, ItsZ ds its ∧ R its M1
theorem zipD_len {xs ys : List D} : (zipD xs ys).length = min xs.length ys.length := by unfold zipD; rw [List.length_map, List.length_zip]
theorem zipD_get {xs ys : List D} {i : Nat} {d : D} (h : (zipD xs ys)[i]? = some d) : ∃ x y, xs[i]? = some x ∧ ys[i]? = some y ∧ d = .tup [x, y] := by
  unfold zipD at h
  rw [List.getElem?_map] at h
  obtain ⟨p, e, rfl⟩ := Option.map_eq_some_iff.mp h
  rw [List.getElem?_zip_eq_some] at e
  exact ⟨_, _, e.1, e.2, rfl⟩
theorem walk_zipT {a b : Addr} {xs ys : List V} {n : Nat} (hn : n = min xs.length ys.length) : Walk (ItzT K a b) n (fun H => SqT K H a xs ∧ SqT K H b ys) (YPair (fun i => xs[i]?) (fun i => ys[i]?)) := by
  subst hn
  refine ⟨fun i _ hi q => ?_, fun _ q => ⟨xs, ys, q.1, q.2, by omega⟩, fun i H v H' _ q y => ?_⟩
  · have h1 : i < xs.length := by omega
    have h2 : i < ys.length := by omega
    exact ⟨xs, ys, xs[i], ys[i], q.1, q.2, by simp [h1], by simp [h2]⟩
  · obtain ⟨T, x, z, h1, h2, h3, h4, h5⟩ := y
    exact ⟨T, x, z, h1, h2, h3, h4 xs q.1, h5 ys q.2⟩
theorem wk_pair {J : It} {G : Hp → Prop} {vs ws : List V} {as bs : List D} (rv : RvL K F vs as) (rw' : RvL K F ws bs) (w : Walk J (zipD as bs).length G (YPair (fun i => vs[i]?) (fun i => ws[i]?))) (hG : ∀ M' F' H', Same F F' → Fr K M' F' H' → G H') : Wk K F (zipD as bs) J :=
  ⟨G, _, w, hG, fun i H1 v H2 F1 M1 d ⟨T, x, y, e1, hn, e2, ex, ey⟩ ed s f => by
    subst e1 e2
    obtain ⟨x', y', e3, e4, rfl⟩ := zipD_get ed
    obtain ⟨s2, f2⟩ := f.data (ho := .tup [x, y]) hn
    exact ⟨_, s2, f2, .of_tup (SqT.of upd_same) (.cons ((rv.2 i x x' ex e3).same (s.trans s2)) (.cons ((rw'.2 i y y' ey e4).same (s.trans s2)) .nil))⟩⟩
theorem ai_zip {tg e : Expr} {t : ATA} (h : PI X tg e (iZipA X.K (conA K W A t))) (hK : X.K = K := by rfl) : PI X tg e (conI K W A (aiZip t)) := by
  subst hK
  exact h.to fun σ H R ⟨xs, M, F, B, rs, fr, lx, h, l⟩ => conA_step rs fr lx h fun ds M1 vs H1 F1 ⟨its, hk, h1⟩ s1 r1 f1 _ _ => by
    cases hk with
    | l =>
      obtain ⟨v, vr, rfl, r2, r3⟩ := r1.inv
      obtain ⟨v2, vr2, rfl, r4, r5⟩ := r3.inv
      obtain rfl := r5.inv_nil
      obtain ⟨a, us, rfl, sa, qa⟩ := r2.lst_inv
      obtain ⟨b, ws, rfl, sb, qb⟩ := r4.lst_inv
      exact ⟨a, b, us, ws, rfl, .inl ⟨sa.ext f1.sub, sb.ext f1.sub, l _ _ _ _ _ h1 s1 f1 (wk_pair qa qb (walk_zip (by rw [zipD_len, qa.1, qb.1])) fun M' F' H' s f => ⟨(sa.ext s).ext f.sub, (sb.ext s).ext f.sub⟩)⟩⟩
    | t =>
      obtain ⟨v, vr, rfl, r2, r3⟩ := r1.inv
      obtain ⟨v2, vr2, rfl, r4, r5⟩ := r3.inv
      obtain rfl := r5.inv_nil
      obtain ⟨a, us, rfl, sa, qa⟩ := r2.tup_inv
      obtain ⟨b, ws, rfl, sb, qb⟩ := r4.tup_inv
      exact ⟨a, b, us, ws, rfl, .inr ⟨sa.ext f1.sub, sb.ext f1.sub, l _ _ _ _ _ h1 s1 f1 (wk_pair qa qb (walk_zipT (by rw [zipD_len, qa.1, qb.1])) fun M' F' H' s f => ⟨(sa.ext s).ext f.sub, (sb.ext s).ext f.sub⟩)⟩⟩
end
end AV

set_option Elab.async false
set_option linter.all false
set_option maxRecDepth 100000
set_option maxHeartbeats 4000000
/-! A8: the steps of a reading over abstract values (own work). -/
namespace AV
open PySem PySem.Spec PyProof.Rows L2 G TL
section
variable {K : PySem.W.Frag} {xs : AS} {M : Mem} {Q : AQ} {B : AEnds} {ta tb tc te : ATE} {t u : ATT} {tu tw : ATS} {tr : ATA} {g : ATG} {gs : ATGs} {d x y z : D} {i j : Int} {n : Nat} {ar ar' : A2} {a C dd : Addr} {o : Ob} {fs : List (Str × D)} {f : Str} {asp : ASp} {A : AX} {b : Bool}
theorem s_seq (h : tu { B with nx := Nx K fun xs' M' => tw B xs' M' } xs M) : aSeq K tu tw B xs M := h
theorem s_cut (I : AS → Mem → Prop) (h : tu { B with nx := Nx K I } xs M) (k : ∀ xs' M', I xs' M' → tw B xs' M') : aCut K tu tw B xs M := ⟨I, h, k⟩
theorem s_cut0 (h : tu { B with nx := Nx K (tw B) } xs M) : aCut K tu tw B xs M := ⟨tw B, h, fun _ _ q => q⟩
theorem s_next (h : B.nx xs M) : aNext B xs M := h
theorem s_asg (h : te xs M fun d M1 => g d xs M1 B.nx) : aAsg te g B xs M := h
theorem s_drop (h : te xs M fun _ M1 => B.nx xs M1) : aDrop te B xs M := h
theorem s_ret (h : te xs M (NxV K B.rt)) : aRet K te B xs M := h
theorem s_retN (h : B.rt .non M) : aRetN B xs M := h
theorem s_brk (h : B.bk xs M) : aBrk B xs M := h
theorem s_cnt (h : B.ct xs M) : aCnt B xs M := h
theorem s_ifS (h : t xs M fun b M1 => if b = true then tu B xs M1 else tw B xs M1) : aIfS t tu tw B xs M := h
theorem s_var {i : Nat} (h : xs[i]? = some (some d)) (k : Q d M) : aVar i xs M Q := ⟨d, h, k⟩
theorem x_var {i : Nat} {R : D → Prop} (h : xs[i]? = some (some d)) (k : R d) : ∃ d, xs[i]? = some (some d) ∧ R d := ⟨d, h, k⟩
theorem x_aug {i : Nat} {m : Int} {R : Int → Prop} (h : xs[i]? = some (some (.int m))) (q : R m) : ∃ n, xs[i]? = some (some (.int n)) ∧ R n := ⟨m, h, q⟩
theorem x_int {R : Int → Prop} (h : R i) : ∃ j, D.int i = .int j ∧ R j := ⟨i, rfl, h⟩
theorem x_gtup {ds : List D} {R : List D → Prop} (hl : ds.length = n) (h : R ds) : ∃ es, D.tup ds = .tup es ∧ es.length = n ∧ R es := ⟨ds, rfl, hl, h⟩
theorem x_gcons {ds : List D} {R : D → List D → Prop} (h : R d ds) : ∃ e r, d :: ds = e :: r ∧ R e r := ⟨d, ds, rfl, h⟩
theorem x_gnil {R : Prop} (h : R) : ([] : List D) = [] ∧ R := ⟨rfl, h⟩
theorem s_c (k : Q d M) : aC d xs M Q := k
theorem s_op (h : ta xs M fun x M1 => tb xs M1 fun y M2 => ar x y M2 Q) : aOp ar ta tb xs M Q := h
theorem s_test {R : Bool → Mem → Prop} (h : te xs M fun x M' => ∃ k, x = .bl k ∧ R k M') : aTest te xs M R := h
theorem s_exbl {R : Bool → Prop} (h : R b) : ∃ k, D.bl b = .bl k ∧ R k := ⟨b, rfl, h⟩
theorem s_exint {R : Int → Prop} (h : R i) : ∃ k, D.int i = .int k ∧ R k := ⟨i, rfl, h⟩
theorem s_un {r : D → Mem → AQ → Prop} (h : ta xs M fun x M1 => r x M1 Q) : aUn r ta xs M Q := h
theorem s_chain (h : ta xs M fun x M1 => tb xs M1 fun y M2 => ar x y M2 fun z M3 => ∃ k, z = .bl k ∧ if k = true then tc xs M3 fun w M4 => ar' y w M4 Q else Q (.bl false) M3) : aChain ar ar' ta tb tc xs M Q := h
theorem s_cons {R : List D → Mem → Prop} (h : te xs M fun x M1 => tr xs M1 fun ys M2 => R (x :: ys) M2) : aCons te tr xs M R := h
theorem s_nil {R : List D → Mem → Prop} (h : R [] M) : aNil xs M R := h
theorem s_cb {r : AN} (h : tr xs M fun ds M1 => r ds M1 Q) : aCB r tr xs M Q := h
theorem s_call (h : tr xs M fun ds M1 => asp ds M1 Q noX) : aCall asp tr xs M Q := h
theorem s_callX (h : tr xs M fun ds M1 => asp ds M1 Q fun C fs M' => A C fs xs M') : aCallX A asp tr xs M Q := h
theorem s_meth {m : Str} (h : te xs M fun x M1 => ∃ fs, InsAt M1 x C fs ∧ fs.lookup m = none ∧ tr xs M1 fun ds M2 => asp (x :: ds) M2 Q noX) : aMeth C m asp te tr xs M Q := h
theorem s_insex {R : List (Str × D) → Prop} {m : Str} (h : InsAt M x C fs) (l : fs.lookup m = none) (k : R fs) : ∃ fs, InsAt M x C fs ∧ fs.lookup m = none ∧ R fs := ⟨fs, h, l, k⟩
theorem s_tup (h : tr xs M fun ys M1 => ys.length ≤ sizeLine ∧ Q (.tup ys) M1) : aTup tr xs M Q := h
theorem s_lst (h : tr xs M fun ys M1 => ys.length ≤ sizeLine ∧ Q (.lst ys) M1) : aLst tr xs M Q := h
theorem s_lstO (h : tr xs M fun ys M1 => ys.length ≤ sizeLine ∧ ∀ a, Q (.r a) ((a, .lst ys) :: M1)) : aLstO tr xs M Q := h
theorem s_bm {T : String} {r : AM} (h : te xs M fun x M1 => x.isK M1 T ∧ tr xs M1 fun ys M2 => r x ys M2 Q) : aBM T r te tr xs M Q := h
theorem s_bm0 {T : String} {r : AM} (h : te xs M fun x M1 => x.isK M1 T ∧ r x [] M1 Q) : aBM0 T r te xs M Q := h
theorem s_isKL {ys : List D} {v : Ob → Mem} {R : Prop} (h : At M a (.lst ys) v) (k : R) : (D.r a).isK M "list" ∧ R := ⟨⟨ys, v, h⟩, k⟩
theorem s_isKD {ys : List D} {R : Prop} (k : R) : (D.lst ys).isK M "list" ∧ R := ⟨trivial, k⟩
theorem s_isKS {z : Str} {R : Prop} (k : R) : (D.str z).isK M "str" ∧ R := ⟨trivial, k⟩
theorem s_fld (h : te xs M fun x M1 => ∃ C fs d, InsAt M1 x C fs ∧ Cls K C ∧ NoAttr K C f ∧ fs.lookup f = some d ∧ Q d M1) : aFld K te f xs M Q := h
theorem s_fldex {R : D → Prop} (h : InsAt M x C fs) (c : Cls K C) (n : PySem.W.findIn K (.ref C) f = some none) (l : fs.lookup f = some d) (k : R d) : ∃ C fs d, InsAt M x C fs ∧ Cls K C ∧ NoAttr K C f ∧ fs.lookup f = some d ∧ R d := ⟨C, fs, d, h, c, n, l, k⟩
theorem s_fldS (h : tb xs M fun y M1 => ta xs M1 fun x M2 => ∃ a C fs fs' u, x = .r a ∧ At M2 a (.ins C fs) u ∧ Cls K C ∧ NoAttr K C f ∧ fs.length < 1000 ∧ PutR f y fs fs' ∧ B.nx xs (u (.ins C fs'))) : aFldS K ta tb f B xs M := h
theorem s_fldSex {fs' : List (Str × D)} {v : Ob → Mem} {R : Mem → Prop} (h : At M a (.ins C fs) v) (c : Cls K C) (n : PySem.W.findIn K (.ref C) f = some none) (l : fs.length < 1000) (p : PutR f y fs fs') (k : R (v (.ins C fs'))) :
    ∃ a' C fs fs' u, D.r a = .r a' ∧ At M a' (.ins C fs) u ∧ Cls K C ∧ NoAttr K C f ∧ fs.length < 1000 ∧ PutR f y fs fs' ∧ R (u (.ins C fs')) := ⟨a, C, fs, fs', v, rfl, h, c, n, l, p, k⟩
theorem s_fldA {k : Int → Int → Int} (h : ta xs M fun x M1 => ∃ a C fs i, x = .r a ∧ InsAt M1 (.r a) C fs ∧ Cls K C ∧ NoAttr K C f ∧ fs.lookup f = some (.int i) ∧
    tb xs M1 fun y M2 => ∃ j fs' fs2 u, y = .int j ∧ At M2 a (.ins C fs') u ∧ fs'.length < 1000 ∧ PutR f (.int (k i j)) fs' fs2 ∧ B.nx xs (u (.ins C fs2))) : aFldA K ta tb k f B xs M := h
theorem s_fldAex1 {R : Addr → Addr → Int → Prop} (h : InsAt M (.r a) C fs) (c : Cls K C) (n : PySem.W.findIn K (.ref C) f = some none) (l : fs.lookup f = some (.int i)) (k : R a C i) : ∃ a' C fs i, D.r a = .r a' ∧ InsAt M (.r a') C fs ∧ Cls K C ∧ NoAttr K C f ∧ fs.lookup f = some (.int i) ∧ R a' C i := ⟨a, C, fs, i, rfl, h, c, n, l, k⟩
theorem s_fldAex2 {k : Int → Int → Int} {fs2 : List (Str × D)} {v : Ob → Mem} {R : Mem → Prop} (h : At M a (.ins C fs) v) (l : fs.length < 1000) (p : PutR f (.int (k i j)) fs fs2) (q : R (v (.ins C fs2))) :
    ∃ j' fs' fs2 u, D.int j = .int j' ∧ At M a (.ins C fs') u ∧ fs'.length < 1000 ∧ PutR f (.int (k i j')) fs' fs2 ∧ R (u (.ins C fs2)) := ⟨j, fs, fs2, v, rfl, h, l, p, q⟩
theorem s_aug {i : Nat} {m : Int} {k : Int → Int → Int} (h : xs[i]? = some (some (.int m))) (q : te xs M fun y M1 => ∃ j, y = .int j ∧ B.nx (xs.set i (some (.int (k m j)))) M1) : aAug i te k B xs M := ⟨m, h, q⟩
theorem s_sl {r : D → Option Int → Option Int → Mem → AQ → Prop} {tl th : ATO} (h : te xs M fun x M1 => tl xs M1 fun l M2 => th xs M2 fun u M3 => r x l u M3 Q) : aSl r te tl th xs M Q := h
theorem s_nopart {R : Option Int → Mem → Prop} (h : R none M) : aNoPart xs M R := h
theorem s_part {R : Option Int → Mem → Prop} (h : te xs M fun x M1 => ∃ i, x = .int i ∧ R (some i) M1) : aPart te xs M R := h
theorem s_and {R : Bool → Mem → Prop} (h : t xs M fun c M1 => if c = true then u xs M1 R else R false M1) : aAnd t u xs M R := h
theorem s_or {R : Bool → Mem → Prop} (h : t xs M fun c M1 => if c = true then R true M1 else u xs M1 R) : aOr t u xs M R := h
theorem s_not {R : Bool → Mem → Prop} (h : t xs M fun c M1 => R (!c) M1) : aNot t xs M R := h
theorem s_if (h : t xs M fun c M1 => if c = true then ta xs M1 Q else tb xs M1 Q) : aIf t ta tb xs M Q := h
theorem s_orT (h : ta xs M fun x M1 => ∃ k, x.tru M1 k ∧ if k = true then Q x M1 else tb xs M1 Q) : aOrT ta tb xs M Q := h
theorem s_andT (h : ta xs M fun x M1 => ∃ k, x.tru M1 k ∧ if k = true then tb xs M1 Q else Q x M1) : aAndT ta tb xs M Q := h
theorem s_notT (h : ta xs M fun x M1 => ∃ k, x.tru M1 k ∧ Q (.bl (!k)) M1) : aNotT ta xs M Q := h
theorem s_tr {R : Bool → Mem → Prop} (h : te xs M fun x M' => ∃ k, x.tru M' k ∧ R k M') : aTr te xs M R := h
theorem s_tbl {R : Bool → Prop} (h : R b) : ∃ k, (D.bl b).tru M k ∧ R k := ⟨b, rfl, h⟩
theorem s_tnon {R : Bool → Prop} (h : R false) : ∃ k, D.non.tru M k ∧ R k := ⟨_, rfl, h⟩
theorem s_tint {R : Bool → Prop} (h : R (i != 0)) : ∃ k, (D.int i).tru M k ∧ R k := ⟨_, rfl, h⟩
theorem s_tstr {R : Bool → Prop} {z : Str} (l : z.length ≤ sizeLine) (h : R ((z.length : Int) != 0)) : ∃ k, (D.str z).tru M k ∧ R k := ⟨_, ⟨l, rfl⟩, h⟩
theorem s_tlst {R : Bool → Prop} {ys : List D} (h : R (!ys.isEmpty)) : ∃ k, (D.lst ys).tru M k ∧ R k := ⟨_, rfl, h⟩
theorem s_ttup {R : Bool → Prop} {ys : List D} (h : R (!ys.isEmpty)) : ∃ k, (D.tup ys).tru M k ∧ R k := ⟨_, rfl, h⟩
theorem s_to {R : Bool → Prop} {ys : List D} {v : Ob → Mem} (l : At M a (.lst ys) v) (h : R (!ys.isEmpty)) : ∃ k, (D.r a).tru M k ∧ R k := ⟨_, ⟨ys, v, l, rfl⟩, h⟩
theorem s_for {wi : ATI} (h : wi xs M fun its M1 => forIs K g tu B its xs M1) : aFor K wi g tu B xs M := h
theorem s_iof {R : List D → Mem → Prop} (h : te xs M fun x M1 => ∃ its, Its x its ∧ R its M1) : aiOf te xs M R := h
theorem s_itl {R : List D → Prop} {ys : List D} (h : R ys) : ∃ its, Its (.lst ys) its ∧ R its := ⟨ys, .lst, h⟩
theorem s_itt {R : List D → Prop} {ys : List D} (h : R ys) : ∃ its, Its (.tup ys) its ∧ R its := ⟨ys, .tup, h⟩
theorem s_its {R : List D → Prop} {z : Str} (h : R (chars z)) : ∃ its, Its (.str z) its ∧ R its := ⟨_, .str, h⟩
theorem s_itc {R : List D → Prop} {ys : List D} (h : R ys) : ∃ its, Its (.scr ys) its ∧ R its := ⟨ys, .scr, h⟩
theorem s_r1 {R : List D → Mem → Prop} (h : tr xs M fun ds M1 => ∃ j : Int, ds = [.int j] ∧ (-(2 ^ 62) ≤ j ∧ j < 2 ^ 62) ∧ R ((List.range j.toNat).map fun (i : Nat) => D.int i) M1) : aiR1 tr xs M R := h
theorem s_r1x {R : Int → Prop} (b : -(2 ^ 62) ≤ j ∧ j < 2 ^ 62) (h : R j) : ∃ k : Int, [D.int j] = [.int k] ∧ (-(2 ^ 62) ≤ k ∧ k < 2 ^ 62) ∧ R k := ⟨j, rfl, b, h⟩
theorem s_r2 {R : List D → Mem → Prop} (h : tr xs M fun ds M1 => ∃ i j : Int, ds = [.int i, .int j] ∧ (-(2 ^ 62) ≤ i ∧ i < 2 ^ 62 ∧ -(2 ^ 62) ≤ j ∧ j < 2 ^ 62) ∧ R ((List.range (j - i).toNat).map fun (k : Nat) => D.int (i + k)) M1) : aiR2 tr xs M R := h
theorem s_r2x {R : Int → Int → Prop} (b : -(2 ^ 62) ≤ i ∧ i < 2 ^ 62 ∧ -(2 ^ 62) ≤ j ∧ j < 2 ^ 62) (h : R i j) : ∃ k l : Int, [D.int i, D.int j] = [.int k, .int l] ∧ (-(2 ^ 62) ≤ k ∧ k < 2 ^ 62 ∧ -(2 ^ 62) ≤ l ∧ l < 2 ^ 62) ∧ R k l := ⟨i, j, rfl, b, h⟩
theorem s_zipL {as bs : List D} {R : List D → Prop} (h : R (zipD as bs)) : ∃ its, ItsZ [.lst as, .lst bs] its ∧ R its := ⟨_, .l, h⟩
theorem s_zipT {as bs : List D} {R : List D → Prop} (h : R (zipD as bs)) : ∃ its, ItsZ [.tup as, .tup bs] its ∧ R its := ⟨_, .t, h⟩
theorem s_lc {fin : Fin} {wi : ATI} {tt : ATT} {vs : List Nat} (h : wi xs M fun its M1 => ∀ a, lcIs a g tt te (awipe xs vs) its ((a, .lst []) :: M1) fun acc M2 => fin a acc M2 Q) : aLc fin wi g tt te vs xs M Q := h
theorem s_ayes {R : Bool → Mem → Prop} (h : R true M) : aYes xs M R := h
theorem s_mk {fin : FinI} (h : tr xs M fun ds M1 => ∀ x, asp (.r x :: ds) ((x, .ins C []) :: M1) (fun d M2 => d = .non ∧ fin x C M2 Q) fun C fs M' => A C fs xs M') : aMk A fin C asp tr xs M Q := h
theorem s_raise (h : tr xs M fun ds M1 => ∃ d, ds = [d] ∧ d.fmt ∧ A C [(f, d)] xs M1) : aRaise A C f tr B xs M := h
theorem s_raiseX {R : D → Prop} (h : d.fmt) (k : R d) : ∃ e, [d] = [e] ∧ e.fmt ∧ R e := ⟨d, rfl, h, k⟩
theorem s_xf (h : te xs M fun x M1 => ∃ fs u d, x = .r a ∧ ExK K C ∧ PySem.W.findIn K (.ref C) f = some none ∧ At M1 dd (.xd fs) u ∧ fs.lookup f = some d ∧ Q d M1) : aXf K a C dd f te xs M Q := h
theorem s_xfex {v : Ob → Mem} {R : D → Prop} (e : ExK K C) (n : PySem.W.findIn K (.ref C) f = some none) (h : At M dd (.xd fs) v) (l : fs.lookup f = some d) (k : R d) : ∃ fs u d, D.r a = .r a ∧ ExK K C ∧ PySem.W.findIn K (.ref C) f = some none ∧ At M dd (.xd fs) u ∧ fs.lookup f = some d ∧ R d := ⟨fs, v, d, rfl, e, n, h, l, k⟩
theorem s_joined {ts : List ATE} (h : aJs ts Str.empty xs M fun z M1 => Q (.str z) M1) : aJoined ts xs M Q := h
theorem s_jnil {acc : Str} {R : Str → Mem → Prop} (h : R acc M) : aJs [] acc xs M R := h
theorem s_jcons {t : ATE} {ts : List ATE} {acc : Str} {R : Str → Mem → Prop} (h : t xs M fun x M1 => ∃ y : Str, x = .str y ∧ (acc ++ y).length ≤ sizeLine ∧ aJs ts (acc ++ y) xs M1 R) : aJs (t :: ts) acc xs M R := h
theorem s_jx {y acc : Str} {R : Str → Prop} (l : (acc ++ y).length ≤ sizeLine) (h : R y) : ∃ y' : Str, D.str y = .str y' ∧ (acc ++ y').length ≤ sizeLine ∧ R y' := ⟨y, rfl, l, h⟩
theorem s_fmt (h : te xs M fun x M1 => (∃ y : Str, x = .str y ∧ y.length ≤ sizeLine ∧ Q (.str y) M1) ∨ ∃ i : Int, x = .int i ∧ i.natAbs.log2 < 1920 ∧ Q (.str (toString i)) M1) : aFmt te xs M Q := h
theorem s_fmtI {R R' : Str → Prop} (h : i.natAbs.log2 < 1920) (k : R' (toString i)) : (∃ y : Str, D.int i = .str y ∧ y.length ≤ sizeLine ∧ R y) ∨ ∃ i' : Int, D.int i = .int i' ∧ i'.natAbs.log2 < 1920 ∧ R' (toString i') := .inr ⟨i, rfl, h, k⟩
theorem s_fmtS {z : Str} {R : Str → Prop} {R' : Int → Prop} (h : z.length ≤ sizeLine) (k : R z) : (∃ y : Str, D.str z = .str y ∧ y.length ≤ sizeLine ∧ R y) ∨ ∃ i' : Int, D.str z = .int i' ∧ i'.natAbs.log2 < 1920 ∧ R' i' := .inl ⟨z, rfl, h, k⟩
theorem s_lenset (h : te xs M fun x M1 => ∃ ks : List (List Int), x = .tup (ks.map fun k => .tup (k.map D.int)) ∧ ks.length < 64 ∧ ∀ n : Nat, (∃ L : List (List Int), L.Nodup ∧ L.length = n ∧ ∀ k, k ∈ L ↔ k ∈ ks) → Q (.int n) M1) : aLenSet te xs M Q := h
theorem s_size {n : Nat} {R : Prop} (h : n ≤ sizeLine) (k : R) : n ≤ sizeLine ∧ R := ⟨h, k⟩
/-! targets -/
theorem s_gname {i : Nat} {R : AS → Mem → Prop} (h : R (xs.set i (some d)) M) : agName i d xs M R := h
theorem s_gtup {ds : List D} {R : AS → Mem → Prop} (hl : ds.length = n) (h : gs ds xs M R) : agTup n gs (.tup ds) xs M R := ⟨ds, rfl, hl, h⟩
theorem s_gcons {ds : List D} {R : AS → Mem → Prop} (h : g d xs M fun xs' M' => gs ds xs' M' R) : agCons g gs (d :: ds) xs M R := ⟨d, ds, rfl, h⟩
theorem s_gnil {R : AS → Mem → Prop} (h : R xs M) : agNil [] xs M R := ⟨rfl, h⟩
theorem s_gsub {R : AS → Mem → Prop} (h : ta xs M fun o M1 => tb xs M1 fun i M2 => aSet o i d M2 fun M3 => R xs M3) : agSub ta tb d xs M R := h
theorem s_set {ys : List D} {m : Nat} {v : Ob → Mem} {R : Mem → Prop} (h : At M a (.lst ys) v) (e : ixN ys.length i = some m) (k : R (v (.lst (ys.set m d)))) : aSet (.r a) (.int i) d M R := ⟨a, ys, i, m, v, rfl, rfl, h, e, k⟩
/-! values -/
theorem v_i2 {Cn : Int → Int → Prop} {gn : Int → Int → D} (c : Cn i j) (k : Q (gn i j) M) : aInt2 Cn gn (.int i) (.int j) M Q := ⟨i, j, rfl, rfl, c, k⟩
theorem v_isnot (h : aIs x y M fun d M' => ∃ b, d = .bl b ∧ Q (.bl (!b)) M') : aIsNot x y M Q := h
theorem v_notin (h : aIn x y M fun d M' => ∃ b, d = .bl b ∧ Q (.bl (!b)) M') : aNotIn x y M Q := h
theorem v_neg (k : Q (.int (-i)) M) : aNeg (.int i) M Q := ⟨i, rfl, k⟩
theorem v_rev {ds : List D} (h : Ls M x ds) (k : Q (.lst ds.reverse) M) : ∃ ds, Ls M x ds ∧ NewL ds.reverse M Q := ⟨ds, h, .inl k⟩
theorem s_rev (h : te xs M fun x M1 => ∃ ds, Ls M1 x ds ∧ NewL ds.reverse M1 Q) : aRev K te xs M Q := h
theorem s_isE {aa : Addr} (h : aIsE K aa C dd [x, y] M Q) : aIsE K aa C dd [x, y] M Q := h
theorem v_isEown {cv : Addr} {v : Ob → Mem} (hk : PySem.W.kitOne K (.ref C) (.ref cv) = some b) (e : ExK K C) (h : At M dd (.xd fs) v) (k : Q (.bl b) M) : aIsE K a C dd [.r a, .r cv] M Q := ⟨.r cv, cv, fs, v, b, rfl, .inl ⟨rfl, hk⟩, e, h, k⟩
/-! fields -/
theorem lk_hd {r : List (Str × D)} : List.lookup f ((f, d) :: r) = some d := by simp only [List.lookup, beq_self_eq_true]
theorem lk_tl {gn : Str} {r : List (Str × D)} {od : Option D} (ne : (f == gn) = false) (h : List.lookup f r = od) : List.lookup f ((gn, x) :: r) = od := by
  simp only [List.lookup, ne]; exact h
theorem lk_nil : List.lookup f ([] : List (Str × D)) = none := rfl
theorem At.put {u : Ob → Mem} {o' : Ob} (h : At M a o u) : At (u o') a o' u := by
  induction h with
  | hd => exact .hd
  | tl _ ih => exact .tl ih
theorem At.self {u : Ob → Mem} (h : At M a o u) : u o = M := by
  induction h with
  | hd => rfl
  | tl _ ih => exact congrArg _ ih
/-! loops -/
theorem map_get {α : Type} {l : List α} {fn : α → D} {i : Nat} {d : D} (h : (l.map fn)[i]? = some d) : ∃ x, l[i]? = some x ∧ d = fn x := by
  rw [List.getElem?_map] at h
  obtain ⟨x, e, rfl⟩ := Option.map_eq_some_iff.mp h
  exact ⟨x, e, rfl⟩
theorem rng_get {m i : Nat} {fn : Nat → D} {d : D} (h : ((List.range m).map fn)[i]? = some d) : i < m ∧ d = fn i := by
  obtain ⟨k, e, rfl⟩ := map_get h
  obtain ⟨hl, e2⟩ := List.getElem?_eq_some_iff.mp e
  rw [List.length_range] at hl
  rw [List.getElem_range] at e2
  exact ⟨hl, by rw [e2]⟩
/-- for over a mapped list -/
theorem f_map {α : Type} (l : List α) {fn : α → D} (I : Nat → AS → Mem → Prop) (h0 : I 0 xs M)
    (hs : ∀ i x xs M, l[i]? = some x → I i xs M → g (fn x) xs M fun xs1 M1 => tu { B with nx := Nx K (I (i + 1)), ct := Nx K (I (i + 1)), bk := B.nx } xs1 M1)
    (hd : ∀ xs M, I l.length xs M → B.nx xs M) : forIs K g tu B (l.map fn) xs M :=
  ⟨I, h0, fun i d xs M e h => by
    obtain ⟨x, e1, rfl⟩ := map_get e
    exact hs i x xs M e1 h, fun xs M h => hd xs M (by rwa [List.length_map] at h)⟩
/-- for i in range(m) -/
theorem f_rng {m : Nat} {fn : Nat → D} (I : Nat → AS → Mem → Prop) (h0 : I 0 xs M)
    (hs : ∀ i xs M, i < m → I i xs M → g (fn i) xs M fun xs1 M1 => tu { B with nx := Nx K (I (i + 1)), ct := Nx K (I (i + 1)), bk := B.nx } xs1 M1)
    (hd : ∀ xs M, I m xs M → B.nx xs M) : forIs K g tu B ((List.range m).map fn) xs M :=
  ⟨I, h0, fun i d xs M e h => by
    obtain ⟨e1, rfl⟩ := rng_get e
    exact hs i xs M e1 h, fun xs M h => hd xs M (by rwa [List.length_map, List.length_range] at h)⟩
/-- for over any list of items -/
theorem f_all {its : List D} (I : Nat → AS → Mem → Prop) (h0 : I 0 xs M)
    (hs : ∀ i d xs M, its[i]? = some d → I i xs M → g d xs M fun xs1 M1 => tu { B with nx := Nx K (I (i + 1)), ct := Nx K (I (i + 1)), bk := B.nx } xs1 M1)
    (hd : ∀ xs M, I its.length xs M → B.nx xs M) : forIs K g tu B its xs M := ⟨I, h0, hs, hd⟩
/-! comprehensions; I a word of the turn, of what is made, of the memory beside the list -/
def LcW (a : Addr) (I : Nat → List D → Mem → Prop) (i : Nat) (acc : List D) (M : Mem) : Prop := ∃ M', M = (a, .lst acc) :: M' ∧ acc.length ≤ i ∧ I i acc M'
/-- an item e is made; none is made -/
def LcN (a : Addr) (I : Nat → List D → Mem → Prop) (i : Nat) (acc : List D) (e : D) (M : Mem) : Prop := ∃ u, At M a (.lst acc) u ∧ acc.length < sizeLine ∧ LcW a I (i + 1) (acc ++ [e]) (u (.lst (acc ++ [e])))
def LcK (a : Addr) (I : Nat → List D → Mem → Prop) (i : Nat) (acc : List D) (M : Mem) : Prop := ∃ u, At M a (.lst acc) u ∧ LcW a I (i + 1) acc M
variable {acc : List D} {I : Nat → List D → Mem → Prop} {i0 : Nat}
theorem LcN.mk (h1 : acc.length ≤ i0) (h2 : i0 < sizeLine) (h : I (i0 + 1) (acc ++ [d]) M) : LcN a I i0 acc d ((a, .lst acc) :: M) := ⟨_, .hd, by omega, M, rfl, by rw [List.length_append, List.length_singleton]; omega, h⟩
theorem LcK.mk (h1 : acc.length ≤ i0) (h : I (i0 + 1) acc M) : LcK a I i0 acc ((a, .lst acc) :: M) := ⟨_, .hd, M, rfl, by omega, h⟩
theorem c_inv {fin : Fin} {its : List D} {tt : ATT} {ws : AS} (I : Nat → List D → Mem → Prop) (h0 : I 0 [] M)
    (hs : ∀ i d acc M, its[i]? = some d → acc.length ≤ i → I i acc M → g d ws ((a, .lst acc) :: M) fun xs1 M1 => tt xs1 M1 fun b M2 => if b = true then te xs1 M2 fun e M3 => LcN a I i acc e M3 else LcK a I i acc M2)
    (hd : ∀ acc M, acc.length ≤ its.length → I its.length acc M → fin a acc ((a, .lst acc) :: M) Q) : lcIs a g tt te ws its ((a, .lst []) :: M) fun acc M2 => fin a acc M2 Q :=
  ⟨LcW a I, ⟨M, rfl, Nat.le_refl _, h0⟩, fun i d acc M e ⟨M', em, hl, h⟩ => by subst em; exact hs i d acc M' e hl h, fun acc M ⟨M', em, hl, h⟩ => by subst em; exact hd acc M' hl h⟩
theorem fin_d {ys : List D} (h : Q (.lst ys) M) : finD a ys ((a, .lst ys) :: M) Q := ⟨M, .hd, h⟩
theorem fin_o {ys : List D} (h : Q (.r a) ((a, .lst ys) :: M)) : finO a ys ((a, .lst ys) :: M) Q := h
/-- each item x gives fn' x, the memory stays -/
def IMap (l : List D) (M0 : Mem) : Nat → List D → Mem → Prop := fun i acc M => acc = l.take i ∧ M = M0
theorem LcN.map {l : List D} (h1 : i0 < l.length) (h2 : l.length < sizeLine) (ha : acc = l.take i0) (h : l[i0]? = some d) : LcN a (IMap l M) i0 acc d ((a, .lst acc) :: M) :=
  .mk (by rw [ha, List.length_take]; omega) (by omega) ⟨by rw [ha, List.take_add_one, h]; rfl, rfl⟩
theorem c_map {α : Type} (l : List α) {fn : α → D} (fn' : α → D) {fin : Fin} {tt : ATT} {ws : AS} (hl : l.length < sizeLine)
    (hs : ∀ i x acc, l[i]? = some x → acc = (l.map fn').take i → g (fn x) ws ((a, .lst acc) :: M) fun xs1 M1 => tt xs1 M1 fun b M2 => if b = true then te xs1 M2 fun e M3 => LcN a (IMap (l.map fn') M) i acc e M3 else LcK a (IMap (l.map fn') M) i acc M2)
    (hd : fin a (l.map fn') ((a, .lst (l.map fn')) :: M) Q) : lcIs a g tt te ws (l.map fn) ((a, .lst []) :: M) fun acc M2 => fin a acc M2 Q :=
  c_inv (IMap (l.map fn') M) ⟨by simp, rfl⟩ (fun i d acc M' e _ ⟨h1, h2⟩ => by
    subst h2
    obtain ⟨x, e1, rfl⟩ := map_get e
    exact hs i x acc e1 h1) fun acc M' _ ⟨h1, h2⟩ => by
    subst h2
    rw [List.length_map, ← List.length_map (f := fn'), List.take_length] at h1
    subst h1
    exact hd
theorem LcN.put {α : Type} {l : List α} {fn' : α → D} {x : α} (hl : l.length < sizeLine) (ha : acc = (l.map fn').take i0) (h : l[i0]? = some x) (e : d = fn' x) : LcN a (IMap (l.map fn') M) i0 acc d ((a, .lst acc) :: M) := by
  have hi := (List.getElem?_eq_some_iff.mp h).1
  exact .map (by rw [List.length_map]; exact hi) (by rw [List.length_map]; exact hl) ha (by rw [List.getElem?_map, h, e]; rfl)
/-! errors -/
/-- a try: the body by what its errors lead to -/
theorem s_try {c : Value} {i : Nat} {tb : AX → ATS} {ts : Addr → Addr → Addr → ATS} (h : tb (fun C fs xs' M' => ∃ b, PySem.W.exmOne K (.ref C) c = some b ∧ (b = true → ∀ a dd, ts a C dd { nx := fun xs M => B.nx (xs.set i none) M, rt := B.rt, bk := fun xs M => B.bk (xs.set i none) M, ct := fun xs M => B.ct (xs.set i none) M } (xs'.set i (some (.r a))) ((dd, .xd fs) :: M')) ∧
    (b = false → A C fs xs' M')) B xs M) : aTry K A c i tb ts B xs M := h
theorem s_caught {c : Value} {R : Prop} {P : Addr → Addr → Prop} (e : PySem.W.exmOne K (.ref C) c = some true) (h : ∀ a dd, P a dd) : ∃ b, PySem.W.exmOne K (.ref C) c = some b ∧ (b = true → ∀ a dd, P a dd) ∧ (b = false → R) := ⟨true, e, fun _ => h, fun z => Bool.noConfusion z⟩
end
end AV

set_option Elab.async false
set_option linter.all false
set_option maxRecDepth 100000
set_option maxHeartbeats 4000000
/-! A9: isinstance of a caught error over a tuple of classes (own work). -/
namespace AV
open PySem PySem.Spec PyProof.Rows L2 G TL
def gIsET (K : PySem.W.Frag) (a : Addr) (cls : Value) (d : Option Addr) : List V → Hp → VK → Prop := fun xs H Q => ∃ (tp : Addr) (cs : List V) (us : List Value) (D dd : Addr) (fs : List (Str × V)) (b : Bool), xs = [.ref a, .ref tp] ∧ SqT K H tp cs ∧ Paired ClsV cs us ∧ cls = .ref D ∧ ExK K D ∧ d = some dd ∧ H dd = some (.xd fs) ∧ PySem.W.kitAny K (.ref D) us = some b ∧ Q (.bl b) H
theorem call_isET {X : Cx} {K : PySem.W.Frag} {a : Addr} {oe : Obj} {cls : Value} {d : Option Addr} {pn : List (Addr × Obj)} (hz : Zc cls d oe) (hf : ∃ vs, oe.data = .fields vs) (hK : X.K = K) : CallR (X.suite a ((a, oe) :: pn)) (.builtin "isinstance") (gIsET K a cls d) := by
  subst hK
  intro pins s σ H xs us Q I r h
  obtain ⟨tp, cs, ws, D, dd, fs, b, rfl, hT, hcv, rfl, T, rfl, ed, e, q⟩ := h
  cases r with
  | cons rx rr =>
    cases rr with
    | cons rt rr =>
      cases rr
      cases rx
      cases rt
      obtain ⟨its, rv, ⟨o, h1, h2, n, h3⟩, _⟩ := I.tuple hT
      have e3 := ClsV.all hcv rv
      subst e3
      obtain ⟨oc, od', dt, sl⟩ := o
      simp only at h2 h3
      subst h2 h3
      obtain ⟨od, J⟩ := inst_of I hz hf ed
      exact PySem.W.kia_tup (PySem.W.exkit T.ga T.gg T.ox.exC T.hd T.cl T.sp T.tk T.mo) I.kIn J h1 e (fun z => nomatch z) fun tk => ⟨.bl b, H, I.kept (t' := tk) fun _ _ z => z, rfl, q⟩
def aIsET (K : PySem.W.Frag) (a C dd : Addr) : List D → Mem → AQ → Prop := fun ds M Q => ∃ (cs : List Addr) (fs : List (Str × D)) (u : Ob → Mem) (b : Bool), ds = [.r a, .tup (cs.map D.r)] ∧ PySem.W.kitAny K (.ref C) (cs.map Value.ref) = some b ∧ ExK K C ∧ At M dd (.xd fs) u ∧ Q (.bl b) M
theorem isET_op {K : PySem.W.Frag} {a C dd : Addr} : OpN K (gIsET K a (.ref C) (some dd)) (aIsET K a C dd) := fun ds vs M F H B Q ⟨cs, fs, u, b, e, hk, ek, ha, h⟩ r f l => by
  subst e
  obtain ⟨v1, vr, rfl, r1, r2⟩ := r.inv
  cases r1
  obtain ⟨v2, vr2, rfl, r3, r4⟩ := r2.inv
  obtain rfl := r4.inv_nil
  obtain ⟨vfs, e1, rf⟩ := f.at_ _ ha.mem
  obtain ⟨tp, ws, rfl, s, q⟩ := r3.tup_at f
  have pr : ∀ (cs : List Addr) (ws : List V), RvL K F ws (cs.map D.r) → Paired ClsV ws (cs.map Value.ref) := by
    intro cs
    induction cs with
    | nil => intro ws q; rw [q.inv_nil]; exact .nil
    | cons c cs ih =>
      intro ws q
      obtain ⟨v, vr, rfl, r1, r2⟩ := RvL.inv q
      cases r1
      exact .cons (.own c) (ih vr r2)
  exact ⟨tp, ws, _, C, dd, vfs, b, rfl, s, pr cs ws q, rfl, ek, rfl, e1, hk, l.same h (.bl b) f⟩
theorem v_isEty {K : PySem.W.Frag} {a C dd : Addr} {n : String} {fs : List (Str × D)} {u : Ob → Mem} {b : Bool} {M : Mem} {Q : AQ} (hk : PySem.W.kitOne K (.ref C) (.type n) = some b) (e : ExK K C) (h : At M dd (.xd fs) u) (k : Q (.bl b) M) : aIsE K a C dd [.r a, .ty n] M Q := ⟨.ty n, 0, fs, u, b, rfl, .inr ⟨n, rfl, hk⟩, e, h, k⟩
theorem kitv_mk {K : PySem.W.Frag} {R : Addr} (h : PySem.W.subIn K (.ref R) (.type "ValueError") = some true) : PySem.W.kitOne K (.ref R) (.type "ValueError") = some true := by
  unfold PySem.W.kitOne
  rw [if_neg (by intro z; exact Bool.noConfusion (show false = true from z))]
  have e : PySem.W.kitMeta "ValueError" = true := by decide +kernel
  show (if PySem.W.kitMeta "ValueError" = true then PySem.W.subIn K (.ref R) (.type "ValueError") else none) = some true
  rw [if_pos e]
  exact h
end AV

set_option Elab.async false
set_option linter.all false
set_option maxRecDepth 100000
set_option maxHeartbeats 4000000
/-! A10: methods that may raise, tuples among the module's names (own work). -/
namespace AV
open PySem PySem.Spec PyProof.Rows L2 G TL
section
variable {X : Cx} {K : PySem.W.Frag} {W : WX} {A : AX} {k : Nat} {C : Addr} {m : Str} {ps : List Str} {sp : Sp} {asp : ASp} {o e : Expr} {es : List Expr} {to : TE} {t : TA} {ta : ATE} {ar : ATA} {pos apos : Pos} {pl : Sem Bool}
/-- o.m(..): what the method lets out is told by the letters as they stand -/
def tMethX (C : Addr) (m : Str) (sp : Sp) (E : L2.St → XK) (to : TE) (t : TA) : TE := fun σ H Q =>
  to σ H fun x H1 => ∃ a dx fs, x = .ref a ∧ H1 a = some (.ins C dx fs) ∧ fs.lookup m = none ∧ t σ H1 fun vs H2 => sp (x :: vs) H2 Q (E σ)
theorem g_methX (c : MCal X.prog X.w X.K X.mg X.base (HX X.prog X.w) k C m ps sp) (cl : Cls X.K C) (hr : Room k X.A) (tk : L2N.Takes X W) (he : PE X o to) (ha : PA X (e :: es) t)
    (h1 : starEach (e :: es) X.env = (false, eval e X.env) :: starEach es X.env := by rfl) (h2 : (backTo pos (starEach es X.env)).any (·.1) = false := by rfl)
    (h3 : eval (.Call (.Attribute o m apos) (e :: es) [] pos) X.env = (eval o X.env >>= fun ov => standAt apos.atName >>= fun _ => holding [ov] (getMethod ov m pl) >>= fun r =>
      callWith pos r.1 r.2 (backTo pos (starEach (e :: es) X.env)) (backToKw pos (keywordEach [] X.env))) := by rfl) : PE X (.Call (.Attribute o m apos) (e :: es) [] pos) (tMethX C m sp (WE W) to t) := by
  obtain ⟨f, fd, hm, b, F⟩ := c.ex
  constructor
  intro pins s σ H Q I h
  refine PySem.W.methodCall_KW (pl := pl) (thn (he.run pins s σ H _ I h) ?_) h3
  rintro u s1 ⟨x, H1, I1, rx, a, dx, fs, rfl, ea, l, q⟩
  cases rx
  refine getmeth_ok I1 ea cl hm l (PySem.W.callWith_K (first := [.ref a]) (h₀ := X.base) I.ok.mod.kin hm.kp (thn (ha.run pos pins s1 σ H1 _ I1 q) ?_) h1 h2)
  rintro us s2 ⟨vs, H2, I2, r, q2⟩
  exact ⟨I2.kIn, run_fnS (us := .ref a :: us) (vs := .ref a :: vs) F hr b (L2N.passAt tk σ) I2 (.cons rfl r) q2⟩
theorem g_methX0 (c : MCal X.prog X.w X.K X.mg X.base (HX X.prog X.w) k C m ps sp) (cl : Cls X.K C) (hr : Room k X.A) (tk : L2N.Takes X W) (he : PE X o to)
    (h3 : eval (.Call (.Attribute o m apos) [] [] pos) X.env = (eval o X.env >>= fun ov => standAt apos.atName >>= fun _ => holding [ov] (getMethod ov m pl) >>= fun r =>
      callWith pos r.1 r.2 (backTo pos (starEach [] X.env)) (backToKw pos (keywordEach [] X.env))) := by rfl) : PE X (.Call (.Attribute o m apos) [] [] pos) (tMethX C m sp (WE W) to tNil) := by
  obtain ⟨f, fd, hm, b, F⟩ := c.ex
  constructor
  intro pins s σ H Q I h
  refine PySem.W.methodCall_KW (pl := pl) (thn (he.run pins s σ H _ I h) ?_) h3
  rintro u s1 ⟨x, H1, I1, rx, a, dx, fs, rfl, ea, l, q⟩
  cases rx
  exact getmeth_ok I1 ea cl hm l (PySem.W.callWith_K0 (first := [.ref a]) I1.kIn hm.kp (run_fnS (us := [.ref a]) (vs := [.ref a]) F hr b (L2N.passAt tk σ) I1 (.cons rfl .nil) q))
@[reducible] def aMethX (A : AX) (C : Addr) (m : Str) (asp : ASp) (tob : ATE) (t : ATA) : ATE := fun xs M Q => tob xs M fun x M1 => ∃ fs, InsAt M1 x C fs ∧ fs.lookup m = none ∧ t xs M1 fun ds M2 => asp (x :: ds) M2 Q fun C' fs' M' => A C' fs' xs M'
theorem a_methX (h : PE X e (tMethX C m (conSp K asp) (WE W) (conE K W A ta) (conA K W A ar))) : PE X e (conE K W A (aMethX A C m asp ta ar)) := h.to fun σ H Q ⟨xs, M, F, B, rs, fr, lx, h, l⟩ =>
  con_step rs fr lx h fun x M1 v H1 F1 ⟨fs, hi, hm, h1⟩ s1 r1 f1 rs1 lx1 => by
    obtain ⟨a, dx, vfs, rfl, e1, rf⟩ := hi.at_ r1 f1
    exact ⟨a, dx, vfs, rfl, e1, rf.lookup_none hm, conA_step rs1 f1 lx1 h1 fun ds M2 vs H2 F2 h2 s2 r2 f2 rs2 lx2 =>
      ⟨x :: ds, M2, F2, B, _, .cons (r1.same s2) r2, f2, h2, l.mono (s1.trans s2), fun C' fs' M3 H3 F3 dd a' s f3 => lx2 C' fs' xs M3 σ H3 F3 dd a' s (rs2.same s) f3⟩⟩
theorem a_methX0 (h : PE X e (tMethX C m (conSp K asp) (WE W) (conE K W A ta) tNil)) : PE X e (conE K W A (aMethX A C m asp ta aNil)) := h.to fun σ H Q ⟨xs, M, F, B, rs, fr, lx, h, l⟩ =>
  con_step rs fr lx h fun x M1 v H1 F1 ⟨fs, hi, hm, h1⟩ s1 r1 f1 rs1 lx1 => by
    obtain ⟨a, dx, vfs, rfl, e1, rf⟩ := hi.at_ r1 f1
    exact ⟨a, dx, vfs, rfl, e1, rf.lookup_none hm,
      [x], M1, F1, B, _, .cons r1 .nil, f1, h1, l.mono s1, fun C' fs' M3 H3 F3 dd a' s f3 => lx1 C' fs' xs M3 σ H3 F3 dd a' s (rs1.same s) f3⟩
/-! ### an object behind others -/
theorem At.app {T M0 : Mem} {r : Addr} {o : Ob} : At (T ++ (r, o) :: M0) r o (fun o' => T ++ (r, o') :: M0) := by
  induction T with
  | nil => exact .hd
  | cons p T ih => exact .tl ih
/-- what is gone may be dropped: M' is M and more -/
def Gone (K : PySem.W.Frag) (M' M : Mem) : Prop := ∀ d, FzV K d M' d M
theorem Gone.refl {M : Mem} : Gone K M M := fun d => .refl
theorem Gone.hd {p : Addr × Ob} {M' M : Mem} (h : Gone K M' M) : Gone K (p :: M') M := fun d => FzV.trans (FzV.drop .hd) (h d)
theorem Gone.app {T M' M : Mem} (h : Gone K M' M) : Gone K (T ++ M') M := by
  induction T with
  | nil => exact h
  | cons p T ih => exact ih.hd
/-! ### isinstance over a tuple of built-in types -/
def gIsT (K : PySem.W.Frag) : List V → Hp → VK → Prop := fun xs H Q => ∃ (x : V) (tp : Addr) (cs : List V) (t : Value) (us : List Value) (b : Bool), xs = [x, .ref tp] ∧ SqT K H tp cs ∧ Paired ClsV cs us ∧ TyX K H x t ∧ PySem.W.kitAny K t us = some b ∧ Q (.bl b) H
theorem call_isT (hK : X.K = K := by rfl) : CallR X (.builtin "isinstance") (gIsT K) := by
  subst hK
  intro pins s σ H xs us Q I r h
  obtain ⟨x, tp, cs, t, ws, b, rfl, hT, hcv, ty, e, q⟩ := h
  cases r with
  | cons rx rr =>
    cases rr with
    | cons rt rr =>
      cases rr
      cases rt
      obtain ⟨its, rv, ⟨o, h1, h2, n, h3⟩, _⟩ := I.tuple hT
      have e3 := ClsV.all hcv rv
      subst e3
      obtain ⟨oc, od', dt, sl⟩ := o
      simp only at h2 h3
      subst h2 h3
      obtain ⟨P, Z, p, hx⟩ := kit_of I rx ty
      exact PySem.W.kia_tup Z I.kIn p h1 e hx fun tk => ⟨.bl b, H, I.tok tk, rfl, q⟩
def aIsT (K : PySem.W.Frag) : List D → Mem → AQ → Prop := fun ds M Q => ∃ (x : D) (n : String) (ts : List String) (b : Bool), ds = [x, .tup (ts.map D.ty)] ∧ Kd M x n ∧ PySem.W.kitAny K (.type n) (ts.map Value.type) = some b ∧ Q (.bl b) M
theorem isT_op : OpN K (gIsT K) (aIsT K) := fun ds vs M F H B Q ⟨x, n, ts, b, e, hk, ek, h⟩ r f l => by
  subst e
  obtain ⟨v1, vr, rfl, r1, r2⟩ := r.inv
  obtain ⟨v2, vr2, rfl, r3, r4⟩ := r2.inv
  obtain rfl := r4.inv_nil
  obtain ⟨tp, cs, rfl, hs, rl⟩ := r3.tup_at f
  have pr : ∀ (ts : List String) (cs : List V), RvL K F cs (ts.map D.ty) → Paired ClsV cs (ts.map Value.type) := fun ts => by
    induction ts with
    | nil => intro cs rl; rw [rl.inv_nil]; exact .nil
    | cons t ts ih =>
      intro cs rl
      obtain ⟨c, cr, rfl, q1, q2⟩ := RvL.inv rl
      cases q1
      exact .cons (.ty _) (ih cr q2)
  exact ⟨v1, tp, cs, .type n, ts.map Value.type, b, rfl, hs, pr ts cs rl, hk.ty r1 f, ek, l.same h (.bl _) f⟩
theorem o_isT (hK : X.K = K := by rfl) : CallR X (.builtin "isinstance") (gIsT K) ∧ OpN K (gIsT K) (aIsT K) := ⟨call_isT hK, isT_op⟩
/-! ### a tuple of texts or ints among the module's names -/
/-- the module's name n is a tuple of these -/
def ModTup (K : PySem.W.Frag) (mg : Str → Option Value) (n : Str) (ds : List D) : Prop := ∃ a vs, mg n = some (.ref a) ∧ (∀ F, SqT K F a vs) ∧ ∀ F, RvL K F vs ds
theorem a_ctup {x : Str} {p : Pos} {ds : List D} (h : ModTup X.K X.mg x ds) (hg : Gl X x) (hK : X.K = K := by rfl) (hdb : (x == ("__debug__" : Str)) = false := by decide) : PE X (.Name x p) (conE K W A (aC (.tup ds))) := by
  obtain ⟨a, vs, hm, hs, hr⟩ := h
  subst hK
  exact a_c (pe_glob (v := .ref a) hg hm rfl hdb) fun F => Rv.of_tup (hs F) (hr F)
/-- texts as the table's values -/
theorem modTup_str {K : PySem.W.Frag} {mg : Str → Option Value} {n : Str} {a : Addr} {o : Obj} {its : Array Value} {m : Nat} {zs : List Str} (h1 : mg n = some (.ref a)) (h2 : K.lookup a = some o) (h3 : o.cls = .type "tuple") (h4 : o.data = .seq its m) (h5 : its.size ≤ sizeLine) (h6 : Vals (zs.map V.str) its.toList) : ModTup K mg n (zs.map D.str) :=
  ⟨a, zs.map V.str, h1, fun F => .inr ⟨o, its, m, h2, h3, h4, h5, h6⟩, fun F => ⟨by simp, fun i v d e1 e2 => by
    rw [List.getElem?_map] at e1 e2
    cases e : zs[i]? with
    | none => rw [e] at e1; cases e1
    | some z => rw [e] at e1 e2; cases e1; cases e2; exact .str z⟩⟩
end
end AV

set_option Elab.async false
set_option linter.all false
set_option maxRecDepth 100000
set_option maxHeartbeats 4000000
/-! A11: enumerate of data, the last of a list, steps beside (own work). -/
namespace AV
open PySem PySem.Spec PyProof.Rows L2 G TL RZ
section
variable {X : Cx} {K : PySem.W.Frag} {W : WX} {A : AX} {F : Hp}
/-! ### enumerate -/
def enD (ds : List D) : List D := zipD ((List.range ds.length).map fun i => D.int (i : Nat)) ds
theorem enD_len {ds : List D} : (enD ds).length = ds.length := by unfold enD; rw [zipD_len, List.length_map, List.length_range, Nat.min_self]
theorem enD_get {ds : List D} {i : Nat} {d : D} (h : (enD ds)[i]? = some d) : ∃ y, ds[i]? = some y ∧ d = .tup [.int (i : Nat), y] := by
  obtain ⟨x, y, e1, e2, rfl⟩ := zipD_get h
  refine ⟨y, e2, ?_⟩
  rw [List.getElem?_map] at e1
  obtain ⟨j, e3, rfl⟩ := Option.map_eq_some_iff.mp e1
  have := (List.getElem?_eq_some_iff.mp e3).2
  rw [List.getElem_range] at this
  rw [this]
@[reducible] def aiEnum (t : ATA) : ATI := fun xs M R => t xs M fun ds M1 => ∃ its, ds = [.lst its] ∧ R (enD its) M1
theorem wk_enum {a : Addr} {vs : List V} {its : List D} (hs : SqL K F a vs) (r : RvL K F vs its) : Wk K F (enD its) (Ite K a) :=
  ⟨fun H => SqL K H a vs, YPair (fun i => some (.int (i : Nat))) (fun i => vs[i]?), by rw [enD_len, ← r.1]; exact walk_enum, fun M' F' H' s f => (hs.ext s).ext f.sub, fun i H1 v H2 F1 M1 d ⟨T, x, y, e1, hn, e2, ex, ey⟩ ed s f => by
    subst e1 e2
    obtain ⟨y', e3, rfl⟩ := enD_get ed
    obtain ⟨s2, f2⟩ := f.data (ho := .tup [x, y]) hn
    cases ex
    exact ⟨_, s2, f2, .of_tup (SqT.of upd_same) (.cons (.int _) (.cons ((r.2 i y y' ey e3).same (s.trans s2)) .nil))⟩⟩
theorem ai_enum {tg e : Expr} {t : ATA} (h : PI X tg e (iEnum X.K (conA K W A t))) (hK : X.K = K := by rfl) : PI X tg e (conI K W A (aiEnum t)) := by
  subst hK
  exact h.to fun σ H R ⟨xs, M, F, B, rs, fr, lx, h, l⟩ => conA_step rs fr lx h fun ds M1 vs H1 F1 ⟨its, hk, h1⟩ s1 r1 f1 _ _ => by
    subst hk
    obtain ⟨v, vr, rfl, r2, r3⟩ := r1.inv
    obtain rfl := r3.inv_nil
    obtain ⟨a, us, rfl, sa, qa⟩ := r2.lst_inv
    exact ⟨a, us, rfl, sa.ext f1.sub, l _ _ _ _ _ h1 s1 f1 (wk_enum sa qa)⟩
theorem s_enl {R : List D → Prop} {ys : List D} (h : R ys) : ∃ its, [D.lst ys] = [.lst its] ∧ R its := ⟨ys, rfl, h⟩
variable {xs : AS} {M : Mem} {B : AEnds} {tu : ATS} {g : ATG}
/-- for i, x in enumerate(..) over a mapped list -/
theorem f_enum {α : Type} (l : List α) {fn : α → D} (I : Nat → AS → Mem → Prop) (h0 : I 0 xs M)
    (hs : ∀ i x xs M, l[i]? = some x → I i xs M → g (.tup [.int (i : Nat), fn x]) xs M fun xs1 M1 => tu { B with nx := Nx K (I (i + 1)), ct := Nx K (I (i + 1)), bk := B.nx } xs1 M1)
    (hd : ∀ xs M, I l.length xs M → B.nx xs M) : forIs K g tu B (enD (l.map fn)) xs M :=
  f_all I h0 (fun i d xs M e h => by
    obtain ⟨y, e1, rfl⟩ := enD_get e
    obtain ⟨x, e2, rfl⟩ := map_get e1
    exact hs i x xs M e2 h) fun xs M h => hd xs M (by rwa [enD_len, List.length_map] at h)
end
/-! ### places of a list -/
theorem atI_last {α : Type} {l : List α} {x : α} : atI (l ++ [x]) (-1) = some x := by
  have e : atI (l ++ [x]) (-1) = (l ++ [x])[l.length]? := by
    unfold atI
    have : ixN (l ++ [x]).length (-1) = some l.length := by
      rw [List.length_append, List.length_singleton]
      unfold ixN
      simp
      omega
    rw [this]
    rfl
  rw [e]
  simp
theorem atI_hd {α : Type} {l : List α} {x : α} : atI (x :: l) 0 = some x := atI_nat (j := 0) rfl
/-- the place i of a mapped list -/
theorem at_mem {α : Type} {l : List α} {fn : α → D} {i : Int} (h0 : 0 ≤ i) (h : i < (l.length : Int)) : ∃ x, x ∈ l ∧ l[i.toNat]? = some x ∧ atI (l.map fn) i = some (fn x) := by
  have hl : i.toNat < l.length := by omega
  refine ⟨l[i.toNat], List.getElem_mem hl, List.getElem?_eq_getElem hl, ?_⟩
  have q : atI (l.map fn) ((i.toNat : Nat) : Int) = some (fn l[i.toNat]) := atI_nat (by rw [List.getElem?_map, List.getElem?_eq_getElem hl]; rfl)
  rwa [Int.toNat_of_nonneg h0] at q
/-- what find? says of the rest behind the first i -/
theorem find_go {α : Type} {p : α → Bool} {l : List α} {i : Nat} {r : α} (h : l[i]? = some r) : (l.drop i).find? p = if p r then some r else (l.drop (i + 1)).find? p := by
  obtain ⟨hi, e⟩ := List.getElem?_eq_some_iff.mp h
  rw [List.drop_eq_getElem_cons hi, e, List.find?_cons]
  cases p r <;> rfl
/-- an object below others -/
theorem At.under {T M : Mem} {a : Addr} {o : Ob} {u : Ob → Mem} (h : At M a o u) : At (T ++ M) a o (fun o' => T ++ u o') := by
  induction T with
  | nil => exact h
  | cons p T ih => exact .tl ih
theorem Rem.under {T M M' : Mem} {a : Addr} {o : Ob} (h : Rem M a o M') : Rem (T ++ M) a o (T ++ M') := by
  induction T with
  | nil => exact h
  | cons p T ih => exact .tl ih
/-! ### == of an own class; in an except suite -/
theorem un64H {k : Nat} {A : Around} (hr : L2H.RoomH k A) : A.units + 64 < cLine := by have := hr.un; omega
@[reducible] def aNever : ATS := fun _ _ _ => False
theorem as_never {K : PySem.W.Frag} {X : Cx} {st : Stmt} {W : WX} {A : AX} : PS X st (conS K W A aNever) := ps_never.to fun D σ H ⟨xs, M, F, B, _, _, _, h, _⟩ => h.elim
@[reducible] def aEqO (C : Addr) (asp : ASp) : D → D → Mem → AQ → Prop := fun x y M Q => (∃ fs, InsAt M x C fs) ∧ (∃ gs, InsAt M y C gs) ∧ asp [x, y] M (fun d M' => ∃ z, d = .bl z ∧ Q (.bl z) M') noX
theorem o_eqO {K : PySem.W.Frag} {X : Cx} {k : Nat} {C : Addr} {ps : List Str} {asp : ASp} (c : MCal X.prog X.w X.K X.mg X.base CX0 k C "__eq__" ps (conSp K asp)) (hr : Room k X.A) : OpR X (compareOp .Eq) (rEqO C (conSp K asp)) ∧ Op2 K (rEqO C (conSp K asp)) (aEqO C asp) :=
  ⟨op_eqO c hr, fun x y v w M F H B Q ⟨⟨fs, h1⟩, ⟨gs, h2⟩, h⟩ r1 r2 f l => by
    obtain ⟨a, dx, vf, rfl, e1, _⟩ := h1.at_ r1 f
    obtain ⟨b, dy, vg, rfl, e2, _⟩ := h2.at_ r2 f
    refine ⟨a, b, dx, dy, vf, vg, rfl, rfl, e1, e2, [x, y], M, F, _, noX, .cons r1 (.cons r2 .nil), f, h, ?_, .none⟩
    intro d M' v' H' F' hb s r fr
    obtain ⟨z, e, hq⟩ := hb
    subst e
    cases r
    exact ⟨z, rfl, l _ _ _ _ _ hq s (.bl z) fr⟩⟩
end AV

set_option Elab.async false
set_option linter.all false
set_option maxRecDepth 100000
set_option maxHeartbeats 4000000
/-! A12: lists times ints, xs[i] op= e, unpacked lists, dicts, places by numbers (own work). -/
namespace AV
open PySem PySem.Spec PyProof.Rows L2 G TL
section
variable {X : Cx} {K : PySem.W.Frag} {W : WX} {A : AX} {F : Hp}
/-! ### list * int -/
inductive aRep : A2
  | mk {x : D} {xs : List D} {k : Int} {M : Mem} {Q : AQ} : (x = .lst xs ∨ ∃ a u, x = .r a ∧ At M a (.lst xs) u) → (-(2 ^ 63) ≤ k ∧ k < 2 ^ 63) → xs.length * k.toNat ≤ sizeLine → Q (.lst (List.replicate k.toNat xs).flatten) M → aRep x (.int k) M Q
inductive aRepO : A2
  | mk {x : D} {xs : List D} {k : Int} {M : Mem} {Q : AQ} : (x = .lst xs ∨ ∃ a u, x = .r a ∧ At M a (.lst xs) u) → (-(2 ^ 63) ≤ k ∧ k < 2 ^ 63) → xs.length * k.toNat ≤ sizeLine → (∀ a, Q (.r a) ((a, .lst (List.replicate k.toNat xs).flatten) :: M)) → aRepO x (.int k) M Q
theorem RvL.rep {vs : List V} {ds : List D} (h : RvL K F vs ds) : ∀ n : Nat, RvL K F (List.replicate n vs).flatten (List.replicate n ds).flatten
  | 0 => .nil
  | n + 1 => by
    rw [List.replicate_succ, List.replicate_succ, List.flatten_cons, List.flatten_cons]
    exact h.append (RvL.rep h n)
theorem lst_at {M : Mem} {x : D} {xs : List D} {v : V} {H : Hp} (h : x = .lst xs ∨ ∃ a u, x = .r a ∧ At M a (.lst xs) u) (r : Rv K F v x) (f : Fr K M F H) : ∃ a vs, v = .ref a ∧ H a = some (.lst vs) ∧ RvL K F vs xs := by
  rcases h with rfl | ⟨a, u, rfl, ha⟩
  · obtain ⟨a, vs, rfl, e, l⟩ := r.lst_inv0
    exact ⟨a, vs, rfl, f.sub _ _ e, l⟩
  · cases r
    obtain ⟨vs, e, l⟩ := f.at_ _ ha.mem
    exact ⟨_, vs, rfl, e, l⟩
theorem o_rep : OpR X (binaryOp .Mult) rRep ∧ Op2 K rRep aRep := ⟨op_rep, fun x y v w M F H B Q h r1 r2 f l => by
  cases h with
  | mk hx hk hs h =>
    cases r2
    obtain ⟨a, vs, rfl, e, q⟩ := lst_at hx r1 f
    exact ⟨a, _, vs, rfl, rfl, e, hk.1, hk.2, by rw [q.1]; exact hs, NewL.run (.inl h) (q.rep _) f l⟩⟩
theorem o_repO : OpR X (binaryOp .Mult) rRep ∧ Op2 K rRep aRepO := ⟨op_rep, fun x y v w M F H B Q h r1 r2 f l => by
  cases h with
  | mk hx hk hs h =>
    cases r2
    obtain ⟨a, vs, rfl, e, q⟩ := lst_at hx r1 f
    exact ⟨a, _, vs, rfl, rfl, e, hk.1, hk.2, by rw [q.1]; exact hs, NewL.run (.inr h) (q.rep _) f l⟩⟩
theorem rep_one {α : Type} {x : α} : ∀ {n : Nat}, (List.replicate n [x]).flatten = List.replicate n x
  | 0 => rfl
  | n + 1 => by rw [List.replicate_succ, List.flatten_cons, rep_one]; rfl
theorem v_rep1 {d : D} {k : Int} {M : Mem} {Q : AQ} (hk : -(2 ^ 63) ≤ k ∧ k < 1000000) (h : Q (.lst (List.replicate k.toNat d)) M) : aRep (.lst [d]) (.int k) M Q :=
  .mk (.inl rfl) ⟨hk.1, by omega⟩ (by rw [List.length_singleton, line_val]; omega) (by rw [rep_one]; exact h)
theorem v_repO1 {d : D} {k : Int} {M : Mem} {Q : AQ} (hk : -(2 ^ 63) ≤ k ∧ k < 1000000) (h : ∀ a, Q (.r a) ((a, .lst (List.replicate k.toNat d)) :: M)) : aRepO (.lst [d]) (.int k) M Q :=
  .mk (.inl rfl) ⟨hk.1, by omega⟩ (by rw [List.length_singleton, line_val]; omega) (fun a => by rw [rep_one]; exact h a)
/-! ### xs[i] op= e, ints -/
theorem get_list : PGet X (rIxL X.K) := by
  intro pins s σ H x y v u Q I rx ry h
  obtain ⟨p, xs, i, z, rfl, rfl, hq, he, q⟩ := h
  cases rx
  obtain ⟨t, rfl⟩ := ry
  obtain ⟨its, r, pl, hz⟩ := I.list hq
  obtain ⟨j, h1, h2, h3, h4, h5⟩ := atI_get he
  obtain ⟨w, ew, rw'⟩ := r.get h2
  have hl := r.length
  have hn := line63
  have fin : EP X pins σ Q w s := ⟨z, H, I, rw', q⟩
  by_cases h0 : 0 ≤ i
  · have hj : i.toNat = j := by
      rw [seqIndex_of h0 h5] at h1
      exact Option.some.inj h1
    exact wpAny_getItem_list pl.isList h0 (by omega) (by rw [hj]; simpa using ew) fin
  · have hj : (i + (its.toArray.size : Int)).toNat = j := by
      rw [seqIndex_neg (by omega) h4] at h1
      rw [List.size_toArray, ← hl]
      exact Option.some.inj h1
    exact wpAny_getItem_list_neg pl.isList (by omega) (by rw [List.size_toArray] <;> omega) (by omega) (by rw [hj]; simpa using ew) fin
@[reducible] def aAugS (to ti te : ATE) (k : Int → Int → Int) : ATS := fun Q xs M => to xs M fun o M1 => ti xs M1 fun i M2 => ∃ a ys m n u, o = .r a ∧ i = .int m ∧ At M2 a (.lst ys) u ∧ atI ys m = some (.int n) ∧ te xs M2 fun y M3 => ∃ j, y = .int j ∧ aSet (.r a) (.int m) (.int (k n j)) M3 fun M4 => Q.nx xs M4
theorem as_augS {st : Stmt} {tob ti te : ATE} {k : Int → Int → Int} (h : PS X st (tAugS (conE K W A tob) (conE K W A ti) (conE K W A te) (rIxL X.K) (ipI k) rSetL)) (hK : X.K = K := by rfl) : PS X st (conS K W A (aAugS tob ti te k)) := by
  subst hK
  exact h.to fun Q σ H ⟨xs, M, F, B, rs, fr, lx, h, l⟩ => con_step rs fr lx h fun o M1 v1 H1 F1 h1 s1 r1 f1 rs1 lx1 => con_step rs1 f1 lx1 h1 fun i M2 v2 H2 F2 ⟨a, ys, m, n, u, e1, e2, ha, hn, h2⟩ s2 r2 f2 rs2 lx2 => by
    subst e1 e2
    cases r1
    cases r2
    obtain ⟨vs, e, rl⟩ := f2.at_ _ ha.mem
    obtain ⟨w, ew, rw'⟩ := atI_rv rl hn
    cases rw'
    refine ⟨a, vs, m, _, rfl, rfl, SqL.of e, ew, con_step rs2 f2 lx2 h2 fun y M3 v3 H3 F3 ⟨j, e3, h3⟩ s3 r3 f3 rs3 lx3 => ?_⟩
    subst e3
    cases r3
    exact ⟨n, j, rfl, rfl, set_con h3 (.r a) (.int m) (.int _) f3 fun M4 H4 b f4 => l.nx _ _ _ _ _ b ((s1.trans s2).trans s3) rs3 f4⟩
/-! ### a, b = a list -/
@[reducible] def agUnl (n : Nat) (t : ATGs) : ATG := fun d xs M Q => ∃ ds, Ls M d ds ∧ ds.length = n ∧ t ds xs M Q
theorem ag_unl {t : ATGs} {vs : List Nat} {k n : Nat} {pos : Pos} {es : List Expr} (hc : X.calm = true) (h : PGs X es (conGs K W A vs t)) (hn : (assignEach es X.env).length = n := by rfl) (hst : (assignEach es X.env).findIdx? (·.1) = none := by rfl) (hK : X.K = K := by rfl) :
    PG X (.Tuple es k pos) (conG K W A vs (agUnl n t)) := by
  subst hK
  exact (pg_unl hc h hn hst).to fun v σ H Q ⟨x, xs, M, F, B, rv, rs, fr, lx, ⟨ds, hd, hl, h⟩, l⟩ => by
    obtain ⟨a, vs', rfl, hq, r⟩ := hd.at_ rv fr
    exact ⟨a, vs', rfl, hq, r.1.trans hl, ds, xs, M, F, B, r, rs, fr, lx, h, l⟩
/-! ### (a, *b) -/
@[reducible] def aStar (te : ATE) (tr : ATA) : ATA := fun xs M Q => te xs M fun x M1 => ∃ ys, Sq M1 x ys ∧ tr xs M1 fun zs M2 => Q (ys ++ zs) M2
theorem aa_star {e : Expr} {es : List Expr} {p : Pos} {te : ATE} {tr : ATA} (ha : PE X e (conE K W A te)) (hr : PA X es (conA K W A tr)) (hs : starEach (.Starred e p :: es) X.env = (true, eval e X.env) :: starEach es X.env := by rfl) (hK : X.K = K := by rfl) : PA X (.Starred e p :: es) (conA K W A (aStar te tr)) := by
  subst hK
  exact (StX.pa_star ha hr hs).to fun σ H Q ⟨xs, M, F, B, rs, fr, lx, h, l⟩ => con_step rs fr lx h fun x M1 v H1 F1 ⟨ys, hq, h1⟩ s1 r1 f1 rs1 lx1 => by
    obtain ⟨a, vs, rfl, s, rl⟩ := hq.at_ r1 f1
    exact ⟨a, vs, rfl, s.symm, conA_step rs1 f1 lx1 h1 fun ds M2 vs' H2 F2 h2 s2 r2 f2 _ _ => l _ _ _ _ _ h2 (s1.trans s2) ((rl.same s2).append r2) f2⟩
/-! ### steps -/
section
variable {M : Mem} {a : Addr} {v : Ob → Mem} {d : D} {ys : List D}
theorem x_augS {m n : Int} {R : Addr → Int → Int → Prop} (h : At M a (.lst ys) v) (e : atI ys m = some (.int n)) (k : R a m n) : ∃ a' ys m' n u, D.r a = .r a' ∧ D.int m = .int m' ∧ At M a' (.lst ys) u ∧ atI ys m' = some (.int n) ∧ R a' m' n := ⟨a, ys, m, n, v, rfl, rfl, h, e, k⟩
theorem x_unl {n : Nat} {R : List D → Prop} (h : Ls M d ys) (hl : ys.length = n) (k : R ys) : ∃ ds, Ls M d ds ∧ ds.length = n ∧ R ds := ⟨ys, h, hl, k⟩
theorem x_star {R : List D → Prop} (h : Sq M d ys) (k : R ys) : ∃ ds, Sq M d ds ∧ R ds := ⟨ys, h, k⟩
end
/-! ### str(text) -/
/-! ### places by numbers -/
theorem At.nth {L M : Mem} {i : Nat} {a : Addr} {o : Ob} (h : L[i]? = some (a, o)) : At (L ++ M) a o (fun o' => L.set i (a, o') ++ M) := by
  induction L generalizing i with
  | nil => simp at h
  | cons p L ih =>
    cases i with
    | zero => cases h; exact .hd
    | succ i => exact .tl (ih (by simpa using h))
theorem At.mid {T L M : Mem} {i : Nat} {a : Addr} {o : Ob} (h : L[i]? = some (a, o)) : At (T ++ (L ++ M)) a o (fun o' => T ++ (L.set i (a, o') ++ M)) := (At.nth h).under
end
end AV

set_option Elab.async false
set_option linter.all false
set_option maxRecDepth 100000
set_option maxHeartbeats 4000000
/-! A13: dicts of the module, dicts that are written (own work). -/
namespace AV
open PySem PySem.Spec PyProof.Rows L2 G TL
section
variable {X : Cx} {K : PySem.W.Frag} {W : WX} {A : AX} {F H : Hp}
/-! ### dicts of the module: texts to ints, texts, tuples of ints -/
mutual
def KvP (K : PySem.W.Frag) : D → Value → Prop
  | .int i, u => ∃ t, u = .int i t
  | .str z, u => ∃ t, u = .str z t
  | .tup ds, u => ∃ a od its m sl, u = .ref a ∧ K.lookup a = some ⟨.type "tuple", od, .seq its m, sl⟩ ∧ its.size ≤ sizeLine ∧ KvPL K ds its.toList
  | _, _ => False
def KvPL (K : PySem.W.Frag) : List D → List Value → Prop
  | [], us => us = []
  | d :: ds, us => ∃ u r, us = u :: r ∧ KvP K d u ∧ KvPL K ds r
end
abbrev KvD (K : PySem.W.Frag) (u : Value) (d : D) : Prop := KvP K d u
mutual
theorem kvp_rv {K : PySem.W.Frag} : ∀ (d : D) (u : Value), KvP K d u → ∃ v, RelV v u ∧ ∀ F, Rv K F v d
  | .int i, u, h => by
    rw [KvP] at h
    obtain ⟨t, rfl⟩ := h
    exact ⟨.int i, ⟨t, rfl⟩, fun F => .int i⟩
  | .str z, u, h => by
    rw [KvP] at h
    obtain ⟨t, rfl⟩ := h
    exact ⟨.str z, ⟨t, rfl⟩, fun F => .str z⟩
  | .tup ds, u, h => by
    rw [KvP] at h
    obtain ⟨a, od, its, m, sl, rfl, h1, h2, h3⟩ := h
    obtain ⟨vs, hv, hr⟩ := kvpL_rv ds its.toList h3
    exact ⟨.ref a, rfl, fun F => .of_tup (.inr ⟨_, its, m, h1, rfl, rfl, h2, hv⟩) (hr F)⟩
  | .non, u, h => by simp [KvP] at h
  | .bl _, u, h => by simp [KvP] at h
  | .ty _, u, h => by simp [KvP] at h
  | .r _, u, h => by simp [KvP] at h
  | .lst _, u, h => by simp [KvP] at h
  | .ins _ _, u, h => by simp [KvP] at h
  | .scr _, u, h => by simp [KvP] at h
  | .tz _, u, h => by simp [KvP] at h
theorem kvpL_rv {K : PySem.W.Frag} : ∀ (ds : List D) (us : List Value), KvPL K ds us → ∃ vs, Vals vs us ∧ ∀ F, RvL K F vs ds
  | [], us, h => by
    rw [KvPL] at h
    subst h
    exact ⟨[], .nil, fun F => .nil⟩
  | d :: ds, us, h => by
    rw [KvPL] at h
    obtain ⟨u, r, rfl, h1, h2⟩ := h
    obtain ⟨v, hv, rv⟩ := kvp_rv d u h1
    obtain ⟨vs, hvs, rvs⟩ := kvpL_rv ds r h2
    exact ⟨v :: vs, .cons hv hvs, fun F => .cons (rv F) (rvs F)⟩
end
theorem KvD.rv {K : PySem.W.Frag} {u : Value} {d : D} (h : KvD K u d) : ∃ v, RelV v u ∧ ∀ F, Rv K F v d := kvp_rv d u h
/-- the module's name n is this data -/
def ModVal (K : PySem.W.Frag) (mg : Str → Option Value) (n : Str) (d : D) : Prop := ∃ u, mg n = some u ∧ KvP K d u
inductive EsV (K : PySem.W.Frag) : List DictEntry → List (Str × D) → Prop
  | nil : EsV K [] []
  | cons {e : DictEntry} {r : List DictEntry} {x : Str} {t : Tok} {d : D} {kvs : List (Str × D)} : e.key = .str x t → KvD K e.val d → EsV K r kvs → EsV K (e :: r) ((x, d) :: kvs)
def ModDict (pp : Params) (K : PySem.W.Frag) (mg : Str → Option Value) (n : Str) (kvs : List (Str × D)) : Prop :=
  ∃ a es m, mg n = some (.ref a) ∧ K.lookup a = some ⟨.type "dict", none, .dict es m, #[]⟩ ∧ (a == sysModules) = false ∧ PySem.W.KeysLit pp es.toList ∧ EsV K es.toList kvs
theorem esv_find {z : Str} : ∀ {l : List DictEntry} {kvs : List (Str × D)}, EsV K l kvs → (match l.find? (·.key.isStr z) with
    | some e => ∃ d, kvs.lookup z = some d ∧ KvD K e.val d
    | none => kvs.lookup z = none) ∧ l.any (·.refKey) = false
  | _, _, .nil => ⟨rfl, rfl⟩
  | _, _, @EsV.cons _ e r x t d kvs hk hv hr => by
    obtain ⟨h1, h2⟩ := esv_find (z := z) hr
    have hs : e.key.isStr z = (x == z) := by rw [hk]; rfl
    have hrk : e.refKey = false := by unfold DictEntry.refKey; rw [hk]
    refine ⟨?_, by rw [List.any_cons, h2, hrk]; rfl⟩
    rw [List.find?_cons, hs, List.lookup_cons]
    by_cases q : x = z
    · subst q
      rw [show (x == x) = true from beq_self_eq_true x]
      exact ⟨d, rfl, hv⟩
    · rw [show (x == z) = false from beq_eq_false_iff_ne.mpr q, show (z == x) = false from beq_eq_false_iff_ne.mpr fun e => q e.symm]
      exact h1
theorem mod_find {a : Addr} {es : Array DictEntry} {m : Nat} {kvs : List (Str × D)} {z : Str} (hl : K.lookup a = some ⟨.type "dict", none, .dict es m, #[]⟩) (hv : EsV K es.toList kvs) :
    (∃ u d, PySem.W.nsIn K a z = some (some u) ∧ kvs.lookup z = some d ∧ KvD K u d) ∨ (PySem.W.nsIn K a z = some none ∧ kvs.lookup z = none) := by
  obtain ⟨h1, h2⟩ := esv_find (z := z) hv
  unfold PySem.W.nsIn
  rw [hl]
  dsimp only
  cases e : es.toList.find? (·.key.isStr z) with
  | some en =>
    rw [e] at h1
    obtain ⟨d, h3, h4⟩ := h1
    exact .inl ⟨_, d, rfl, h3, h4⟩
  | none =>
    rw [e] at h1
    exact .inr ⟨by rw [h2]; rfl, h1⟩
variable {x : Str} {p pos : Pos} {b : Expr} {tb : ATE} {kvs : List (Str × D)}
theorem a_cval {d : D} (h : ModVal X.K X.mg x d) (hg : Gl X x) (hK : X.K = K := by rfl) (hdb : (x == ("__debug__" : Str)) = false := by decide) : PE X (.Name x p) (conE K W A (aC d)) := by
  obtain ⟨u, hm, hk⟩ := h
  obtain ⟨v, rv, rr⟩ := kvp_rv d u hk
  subst hK
  exact a_c (pe_glob (v := v) hg hm rv hdb) rr
@[reducible] def aKd (kvs : List (Str × D)) (tb : ATE) : ATE := fun xs M Q => tb xs M fun y M1 => ∃ z d, y = .str z ∧ kvs.lookup z = some d ∧ Q d M1
theorem a_kd (h : ModDict X.w.params X.K X.mg x kvs) (hg : Gl X x) (hb : PE X b (conE K W A tb)) (hs : PlainIx b) (hK : X.K = K := by rfl) (hdb : (x == ("__debug__" : Str)) = false := by decide) : PE X (.Subscript (.Name x p) b pos) (conE K W A (aKd kvs tb)) := by
  obtain ⟨a, es, m, hm, hl, hd, hk, hv⟩ := h
  subst hK
  exact (pe_ix ix_kdict (pe_glob (v := .ref a) hg hm rfl hdb) hb hs).to fun σ H Q ⟨xs, M, F, B, rs, fr, lx, h, l⟩ =>
    con_step rs fr lx h fun y M1 v1 H1 F1 ⟨z, d, e1, e2, h1⟩ s1 r1 f1 _ _ => by
      subst e1
      cases r1
      rcases mod_find (z := z) hl hv with ⟨u, d', h2, h3, h4⟩ | ⟨h2, h3⟩
      · rw [e2] at h3
        cases h3
        obtain ⟨v, rv, rr⟩ := h4.rv
        exact ⟨a, z, v, rfl, rfl, ⟨es, m, u, hl, hk, h2, rv⟩, l _ _ _ _ _ h1 s1 (rr _) f1⟩
      · rw [e2] at h3; cases h3
/-- x in d, x not in d -/
@[reducible] def aKin (kvs : List (Str × D)) (n : Bool) (tb : ATE) : ATE := fun xs M Q => tb xs M fun y M1 => ∃ z, y = .str z ∧ Q (.bl (n ^^ (kvs.lookup z).isSome)) M1
theorem kin_con {a : Addr} {es : Array DictEntry} {m : Nat} {n : Bool} {σ : L2.St} {H : Hp} {Q : VK} (hl : K.lookup a = some ⟨.type "dict", none, .dict es m, #[]⟩) (hv : EsV K es.toList kvs) (h : conE K W A (aKin kvs n tb) σ H Q) :
    conE K W A tb σ H fun y H1 => ∃ (z : Str) (r : Option Value), y = .str z ∧ V.ref a = .ref a ∧ PySem.W.nsIn K a z = some r ∧ Q (.bl (n ^^ r.isSome)) H1 := by
  obtain ⟨xs, M, F, B, rs, fr, lx, h, l⟩ := h
  exact con_step rs fr lx h fun y M1 v1 H1 F1 ⟨z, e1, h1⟩ s1 r1 f1 _ _ => by
    subst e1
    cases r1
    rcases mod_find (z := z) hl hv with ⟨u, d', h2, h3, h4⟩ | ⟨h2, h3⟩
    · rw [h3] at h1
      exact ⟨z, _, rfl, rfl, h2, l _ _ _ _ _ h1 s1 (.bl _) f1⟩
    · rw [h3] at h1
      exact ⟨z, _, rfl, rfl, h2, l _ _ _ _ _ h1 s1 (.bl _) f1⟩
theorem a_kin (h : ModDict X.w.params X.K X.mg x kvs) (hg : Gl X x) (hb : PE X b (conE K W A tb)) (hK : X.K = K := by rfl) (hdb : (x == ("__debug__" : Str)) = false := by decide) (hmk : behindInMarks .In (.Name x p) = false := by rfl) : PE X (.Compare b [.In] [.Name x p] pos) (conE K W A (aKin kvs false tb)) := by
  obtain ⟨a, es, m, hm, hl, hd, hk, hv⟩ := h
  subst hK
  refine (pe_cmpR (op_in_kd (d := a) (es := es) (n := m) ⟨hl, hk, hd⟩) hb (pe_glob (v := .ref a) hg hm rfl hdb) hmk).to fun σ H Q q => ?_
  obtain ⟨xs, M, F, B, rs, fr, lx, h, l⟩ := kin_con hl hv q
  refine ⟨xs, M, F, B, rs, fr, lx, h, fun d M' v H' F' b s r f => ?_⟩
  obtain ⟨z, r', e1, _, e2, q⟩ := l d M' v H' F' b s r f
  exact ⟨z, r', e1, rfl, e2, by rwa [Bool.false_xor] at q⟩
theorem a_knotin (h : ModDict X.w.params X.K X.mg x kvs) (hg : Gl X x) (hb : PE X b (conE K W A tb)) (hK : X.K = K := by rfl) (hdb : (x == ("__debug__" : Str)) = false := by decide) (hmk : behindInMarks .NotIn (.Name x p) = false := by rfl) : PE X (.Compare b [.NotIn] [.Name x p] pos) (conE K W A (aKin kvs true tb)) := by
  obtain ⟨a, es, m, hm, hl, hd, hk, hv⟩ := h
  subst hK
  refine (pe_cmpR (op_notIn_kd (d := a) (es := es) (n := m) ⟨hl, hk, hd⟩) hb (pe_glob (v := .ref a) hg hm rfl hdb) hmk).to fun σ H Q q => ?_
  obtain ⟨xs, M, F, B, rs, fr, lx, h, l⟩ := kin_con hl hv q
  refine ⟨xs, M, F, B, rs, fr, lx, h, fun d M' v H' F' b s r f => ?_⟩
  obtain ⟨z, r', e1, _, e2, q⟩ := l d M' v H' F' b s r f
  exact ⟨z, r', e1, rfl, e2, by rwa [Bool.true_xor] at q⟩
theorem a_tkin (h : ModDict X.w.params X.K X.mg x kvs) (hg : Gl X x) (hb : PE X b (conE K W A tb)) (hK : X.K = K := by rfl) (hdb : (x == ("__debug__" : Str)) = false := by decide) (hmk : behindInMarks .In (.Name x p) = false := by rfl) : PT X (.Compare b [.In] [.Name x p] pos) (conT K W A (aTest (aKin kvs false tb))) := by
  obtain ⟨a, es, m, hm, hl, hd, hk, hv⟩ := h
  subst hK
  refine (pt_cmpR (op_in_kd (d := a) (es := es) (n := m) ⟨hl, hk, hd⟩) hb (pe_glob (v := .ref a) hg hm rfl hdb) hmk).to fun σ H Q q => ?_
  obtain ⟨xs, M, F, B, rs, fr, lx, h, l⟩ := q
  obtain ⟨xs, M, F, B, rs, fr, lx, h, l⟩ := kin_con (Q := fun d H' => ∃ k, d = .bl k ∧ Q k H') hl hv ⟨xs, M, F, _, rs, fr, lx, h, fun d M' v H' F' ⟨k, e, b⟩ s r f => by
    subst e
    cases r
    exact ⟨k, rfl, l _ _ _ _ b s f⟩⟩
  refine ⟨xs, M, F, B, rs, fr, lx, h, fun d M' v H' F' b s r f => ?_⟩
  obtain ⟨z, r', e1, _, e2, q⟩ := l d M' v H' F' b s r f
  exact ⟨z, r', e1, rfl, e2, by rwa [Bool.false_xor] at q⟩
theorem a_tknotin (h : ModDict X.w.params X.K X.mg x kvs) (hg : Gl X x) (hb : PE X b (conE K W A tb)) (hK : X.K = K := by rfl) (hdb : (x == ("__debug__" : Str)) = false := by decide) (hmk : behindInMarks .NotIn (.Name x p) = false := by rfl) : PT X (.Compare b [.NotIn] [.Name x p] pos) (conT K W A (aTest (aKin kvs true tb))) := by
  obtain ⟨a, es, m, hm, hl, hd, hk, hv⟩ := h
  subst hK
  refine (pt_cmpR (op_notIn_kd (d := a) (es := es) (n := m) ⟨hl, hk, hd⟩) hb (pe_glob (v := .ref a) hg hm rfl hdb) hmk).to fun σ H Q q => ?_
  obtain ⟨xs, M, F, B, rs, fr, lx, h, l⟩ := q
  obtain ⟨xs, M, F, B, rs, fr, lx, h, l⟩ := kin_con (Q := fun d H' => ∃ k, d = .bl k ∧ Q k H') hl hv ⟨xs, M, F, _, rs, fr, lx, h, fun d M' v H' F' ⟨k, e, b⟩ s r f => by
    subst e
    cases r
    exact ⟨k, rfl, l _ _ _ _ b s f⟩⟩
  refine ⟨xs, M, F, B, rs, fr, lx, h, fun d M' v H' F' b s r f => ?_⟩
  obtain ⟨z, r', e1, _, e2, q⟩ := l d M' v H' F' b s r f
  exact ⟨z, r', e1, rfl, e2, by rwa [Bool.true_xor] at q⟩
/-- d.get(k, dflt) -/
@[reducible] def aKget (kvs : List (Str × D)) (tb tc : ATE) : ATE := fun xs M Q => tb xs M fun y M1 => ∃ z, y = .str z ∧ tc xs M1 fun e M2 => Q ((kvs.lookup z).getD e) M2
theorem a_kget {c : Expr} {tc : ATE} {apos cpos : Pos} (h : ModDict X.w.params X.K X.mg x kvs) (hg : Gl X x) (hb : PE X b (conE K W A tb)) (hc : PE X c (conE K W A tc)) (m : M2 X (.Name x p) "get" apos b c cpos) (hK : X.K = K := by rfl) (hdb : (x == ("__debug__" : Str)) = false := by decide) :
    PE X (.Call (.Attribute (.Name x p) "get" apos) [b, c] [] cpos) (conE K W A (aKget kvs tb tc)) := by
  obtain ⟨a, es, mm, hm, hl, hd, hk, hv⟩ := h
  subst hK
  have ho : PE X (.Name x p) (tC (.ref a)) := pe_glob (v := .ref a) hg hm rfl hdb
  refine ⟨fun pins s σ H Q I h => ?_⟩
  obtain ⟨xs, M, F, B, rs, fr, lx, h, l⟩ := h
  refine wpAny_Call_method m.base m.few m.line PySem.F.plainAttrs_dict PySem.F.slot_dict_get PySem.F.type_dict_get (thn (ho.run pins s σ H (fun v H' => v = .ref a ∧ H' = H) I ⟨rfl, rfl⟩) fun u s1 ⟨x1, H1, I1, rx, q1, q2⟩ => ?_)
  subst q1 q2
  obtain rfl : u = Value.ref a := rx
  have hmap := PySem.W.mapOf_K (prog := X.prog) (w := X.w) I1.kIn hl hk
  refine ⟨hmap.typeIs, fun bb q => ?_, ?_⟩
  · cases q
    exact ⟨_, I1.kIn _ _ hl, rfl⟩
  rw [m.trees]
  refine Calls.callWith_builtin rfl (Calls.evalArgs_plain (Calls.spliced_cons (thn (hb.run pins s1 σ _ (fun v H' => ∃ (z : Str), v = .str z ∧ conE X.K W A tc σ H' fun w H3 => ∀ u', (∃ d0, (kvs.lookup z) = some d0 ∧ ∀ F, Rv X.K F u' d0) ∨ (kvs.lookup z = none ∧ u' = w) → Q u' H3) I1 (con_step rs fr lx h fun y M1 v1 H1 F1 ⟨z, e1, h1⟩ s1 r1 f1 rs1 lx1 => ?_)) fun iv s2 ⟨y, H2, I2, ry, z, ey, q2⟩ =>
    Calls.spliced_cons (thn (hc.run pins s2 σ H2 _ I2 q2) fun fv s3 ⟨zv, H3, I3, rz, q3⟩ => Calls.spliced_nil ?_))))
  · subst e1
    cases r1
    refine ⟨z, rfl, con_step rs1 f1 lx1 h1 fun e M2 v2 H2 F2 h2 s2 r2 f2 _ _ => fun u' hu' => ?_⟩
    rcases hu' with ⟨d0, hz, hr⟩ | ⟨hz, rfl⟩
    · rw [hz] at h2
      exact l _ _ _ _ _ h2 (s1.trans s2) (hr _) f2
    · rw [hz] at h2
      exact l _ _ _ _ _ h2 (s1.trans s2) r2 f2
  · subst ey
    obtain ⟨tz, rfl⟩ := ry
    have hm3 := PySem.W.mapOf_K (prog := X.prog) (w := X.w) I3.kIn hl hk
    refine call_meetsIn PySem.F.slot_dict_get hm3.typeIs PySem.F.entry_dict_get (PySem.F.args_dict_get_3 _ _ _) (meets_dict_get_default (strKind X.prog X.w) a (strKind_is X.prog X.w z tz) hd fv) ⟨_, hm3, ?_⟩
    rcases mod_find (z := z) hl hv with ⟨u, d', h2, h3, h4⟩ | ⟨h2, h3⟩
    · rw [PySem.W.find_K hl h2]
      obtain ⟨v, rv, rr⟩ := h4.rv
      exact ⟨v, H3, I3.tok _, rv, q3 v (.inl ⟨d', h3, rr⟩)⟩
    · rw [PySem.W.find_K hl h2]
      exact ⟨zv, H3, I3.tok _, rz, q3 zv (.inr ⟨h3, rfl⟩)⟩
/-! ### dicts that are written: by texts -/
theorem inr_val {f : Str} : ∀ {vfs : List (Str × V)}, valV (inrK vfs) (Sum.inr f) = vfs.lookup f
  | [] => rfl
  | (g, v) :: r => by
    rw [List.lookup_cons]
    by_cases q : g = f
    · subst q
      rw [show (g == g) = true from beq_self_eq_true g]
      exact valV_pos rfl
    · rw [show (f == g) = false from beq_eq_false_iff_ne.mpr fun e => q e.symm]
      exact (valV_neg (p := ((Sum.inr g : Key), v)) (r := inrK r) (fun e => q (Sum.inr.inj e))).trans (inr_val (vfs := r))
theorem inr_any {f : Str} {vfs : List (Str × V)} : ((inrK vfs).any fun kv => decide (kv.1 = (Sum.inr f : Key))) = decide (f ∈ vfs.map (·.1)) := by
  induction vfs with
  | nil => rfl
  | cons p r ih =>
    show (decide ((Sum.inr p.1 : Key) = Sum.inr f) || (inrK r).any _) = _
    rw [ih, ← Bool.decide_or]
    exact dec_congr (by rw [List.map_cons, List.mem_cons]; exact ⟨fun h => h.imp (fun e => (Sum.inr.inj e).symm) id, fun h => h.imp (fun e => by rw [e]) id⟩)
theorem inr_put {f : Str} {v : V} : ∀ {vfs : List (Str × V)}, (vfs.map (·.1)).Nodup → putK (inrK vfs) (Sum.inr f) v = inrK (putF f v vfs)
  | [], _ => rfl
  | (g, u) :: r, nd => by
    rw [List.map_cons, List.nodup_cons] at nd
    have ih := inr_put (f := f) (v := v) (vfs := r) nd.2
    unfold putF
    by_cases q : g = f
    · subst q
      rw [if_pos rfl]
      unfold putK
      rw [inr_any, if_pos (by simp)]
      show (if (Sum.inr g : Key) = Sum.inr g then ((Sum.inr g : Key), v) else (Sum.inr g, u)) :: (inrK r).map _ = ((Sum.inr g : Key), v) :: inrK r
      rw [if_pos rfl]
      congr 1
      have : ∀ (l : List (Str × V)), g ∉ l.map (·.1) → (inrK l).map (fun kv => if kv.1 = (Sum.inr g : Key) then (kv.1, v) else kv) = inrK l := by
        intro l
        induction l with
        | nil => intro _; rfl
        | cons p l ih =>
          intro h
          rw [List.map_cons, List.mem_cons, not_or] at h
          show (if (Sum.inr p.1 : Key) = Sum.inr g then ((Sum.inr p.1 : Key), v) else (Sum.inr p.1, p.2)) :: (inrK l).map _ = ((Sum.inr p.1 : Key), p.2) :: inrK l
          rw [if_neg fun e => h.1 (Sum.inr.inj e).symm, ih h.2]
      exact this r nd.1
    · rw [if_neg q]
      unfold putK at ih ⊢
      rw [inr_any] at ih ⊢
      by_cases m : f ∈ r.map (·.1)
      · rw [if_pos (by simpa using m)] at ih
        rw [if_pos (by simpa using .inr (by simpa using m))]
        show (if (Sum.inr g : Key) = Sum.inr f then ((Sum.inr g : Key), v) else (Sum.inr g, u)) :: (inrK r).map _ = ((Sum.inr g : Key), u) :: inrK (putF f v r)
        rw [if_neg fun e => q (Sum.inr.inj e), ih]
      · rw [if_neg (by simpa using m)] at ih
        rw [if_neg (by simp only [decide_eq_true_eq]; exact fun h => (List.mem_cons.mp h).elim (fun e => q e.symm) m)]
        show ((Sum.inr g : Key), u) :: (inrK r ++ [(Sum.inr f, v)]) = ((Sum.inr g : Key), u) :: inrK (putF f v r)
        rw [ih]
theorem rvf_keys {vfs : List (Str × V)} {fs : List (Str × D)} (h : RvF K F vfs fs) : vfs.map (·.1) = fs.map (·.1) := by
  refine List.ext_getElem? fun i => ?_
  rw [List.getElem?_map, List.getElem?_map]
  cases e1 : vfs[i]? with
  | none =>
    rw [List.getElem?_eq_none (by rw [← h.1]; exact List.getElem?_eq_none_iff.mp e1)]
    rfl
  | some p =>
    have hi := (List.getElem?_eq_some_iff.mp e1).1
    have e2 : fs[i]? = some (fs[i]'(by rw [← h.1]; exact hi)) := List.getElem?_eq_getElem _
    rw [e2]
    show some p.1 = some _
    rw [(h.2 i p _ e1 e2).1]
theorem PutR.keys {f : Str} {d : D} {fs fs' : List (Str × D)} (h : PutR f d fs fs') (nd : (fs.map (·.1)).Nodup) : (fs'.map (·.1)).Nodup ∧ ∀ g, g ∈ fs'.map (·.1) → g = f ∨ g ∈ fs.map (·.1) := by
  induction h with
  | nil => exact ⟨by simp, fun g hg => by simpa using hg⟩
  | hd => exact ⟨nd, fun g hg => .inr hg⟩
  | @tl g e r r' ne _ ih =>
    rw [List.map_cons, List.nodup_cons] at nd
    obtain ⟨i1, i2⟩ := ih nd.2
    refine ⟨?_, fun g' hg => ?_⟩
    · rw [List.map_cons, List.nodup_cons]
      refine ⟨fun z => ?_, i1⟩
      rcases i2 _ z with q | q
      · exact absurd q (by simpa using ne)
      · exact nd.1 q
    · rw [List.map_cons, List.mem_cons] at hg ⊢
      rcases hg with q | q
      · exact .inr (.inl q)
      · rcases i2 _ q with z | z
        · exact .inl z
        · exact .inr (.inr z)
/-- d["f"] -/
@[reducible] def aDix (f : Str) (ta : ATE) : ATE := fun xs M Q => ta xs M fun x M1 => ∃ a kvs u d, x = .r a ∧ At M1 a (.dct kvs) u ∧ kvs.lookup f = some d ∧ Q d M1
theorem a_dix {o : Expr} {f : Str} {j : Nat} {p2 : Pos} {ta : ATE} (hu : X.A.units + 1 < cLine) (ho : PE X o (conE K W A ta)) (hs : NoSl (.Constant (.str f) j p2) := by first | exact fun _ _ => rfl | trivial | simp [NoSl]) : PE X (.Subscript o (.Constant (.str f) j p2) pos) (conE K W A (aDix f ta)) :=
  (pe_dget hu ho pe_str hs).to fun σ H Q ⟨xs, M, F, B, rs, fr, lx, h, l⟩ => con_step rs fr lx h fun x M1 v1 H1 F1 ⟨a, kvs, u, d, e1, ha, e2, h1⟩ s1 r1 f1 _ _ => by
    subst e1
    cases r1
    obtain ⟨vfs, eh, rf, _⟩ := f1.at_ _ ha.mem
    obtain ⟨v, ev, rv⟩ := rf.lookup e2
    exact ⟨a, v, rfl, by rw [show (some v) = valV (inrK vfs) (Sum.inr f) from (ev.symm.trans inr_val.symm)]; exact DGet.k (k := Sum.inr f) eh, l _ _ _ _ _ h1 s1 rv f1⟩
/-- d["f"] = v -/
def aDput (o : D) (f : Str) (d : D) (M : Mem) (Q : Mem → Prop) : Prop := ∃ a kvs kvs' u, o = .r a ∧ At M a (.dct kvs) u ∧ kvs.length < 1000 ∧ PutR f d kvs kvs' ∧ Q (u (.dct kvs'))
@[reducible] def agDsub (f : Str) (to : ATE) : ATG := fun d xs M Q => to xs M fun o M1 => aDput o f d M1 fun M2 => Q xs M2
theorem ag_dsub {e : Expr} {f : Str} {tob : ATE} (h : PG X e (gSub (conE K W A tob) (tC (.str f)) rSetD)) : PG X e (conG K W A [] (agDsub f tob)) := h.to fun v σ H Q ⟨x, xs, M, F, B, rv, rs, fr, lx, h, l⟩ =>
  con_step rs fr lx h fun o M1 v1 H1 F1 ⟨a, kvs, kvs', u, e1, ha, hl, hp, h1⟩ s1 r1 f1 rs1 lx1 => by
    subst e1
    cases r1
    obtain ⟨vfs, eh, rf, nd⟩ := f1.at_ _ ha.mem
    have hn : (vfs.map (·.1)).Nodup := by rw [rvf_keys rf]; exact nd
    have rp := rf.put (f := f) (rv.same s1)
    refine ⟨a, upd H1 a (.dK (inrK (putF f v vfs))), rfl, ?_, ?_⟩
    · rw [← inr_put hn]
      exact DPut.k (k := Sum.inr f) eh (by rw [List.length_map, rf.1, line_val]; omega)
    · rw [hp.eq] at rp
      exact l _ _ _ _ _ h1 s1 rs1 (f1.put (o' := .dct kvs') ha ⟨_, upd_same, rp, (hp.keys nd).1⟩) Off.refl
/-- {"f": e, ..} -/
def aPs : List (Str × ATE) → AS → Mem → (List (Str × D) → Mem → Prop) → Prop
  | [], _, M, Q => Q [] M
  | (f, t) :: r, xs, M, Q => t xs M fun d M1 => aPs r xs M1 fun kvs M2 => Q ((f, d) :: kvs) M2
theorem ps_con : ∀ (ps : List (Str × ATE)) (σ : L2.St) (xs : AS) (M : Mem) (F H : Hp) (B : List (Str × D) → Mem → Prop) (Q : List (V × V) → Hp → Prop), Rs K F xs σ → Fr K M F H → LnX K F A W → aPs ps xs M B →
    (∀ kvs M' vkvs H' F', B kvs M' → Same F F' → RvF K F' vkvs kvs → Fr K M' F' H' → Q (vkvs.map fun p => (V.str p.1, p.2)) H') → tPairs (ps.map fun p => (tC (.str p.1), conE K W A p.2)) σ H Q
  | [], σ, xs, M, F, H, B, Q, rs, fr, lx, h, l => l [] M [] H F h (Same.refl F) ⟨rfl, fun i p q e => by simp at e⟩ fr
  | (f, t) :: r, σ, xs, M, F, H, B, Q, rs, fr, lx, h, l => con_step rs fr lx h fun d M1 v H1 F1 h1 s1 r1 f1 rs1 lx1 =>
    ps_con r σ xs M1 F1 H1 _ _ rs1 f1 lx1 h1 fun kvs M' vkvs H' F' b s rf f' => l ((f, d) :: kvs) M' ((f, v) :: vkvs) H' F' b (s1.trans s) ⟨by simp [rf.1], fun i p q e1 e2 => by
      cases i with
      | zero => cases e1; cases e2; exact ⟨rfl, r1.same s⟩
      | succ i => exact rf.2 i p q (by simpa using e1) (by simpa using e2)⟩ f'
@[reducible] def aDisp (ps : List (Str × ATE)) : ATE := fun xs M Q => ∀ p, aPs ps xs ((p, .dct []) :: M) fun kvs M2 => ∃ u, At M2 p (.dct []) u ∧ kvs.length ≤ 15 ∧ (kvs.map (·.1)).Nodup ∧ Q (.r p) (u (.dct kvs))
inductive APs (X : Cx) (K : PySem.W.Frag) (W : WX) (A : AX) (pos : Pos) : List (Option Expr) → List Expr → List (Str × ATE) → Prop
  | nil : APs X K W A pos [] [] []
  | cons {f : Str} {j : Nat} {p2 : Pos} {v : Expr} {t : ATE} {ks : List (Option Expr)} {vs : List Expr} {r : List (Str × ATE)} : PE X v (conE K W A t) → APs X K W A pos ks vs r → APs X K W A pos (some (.Constant (.str f) j p2) :: ks) (v :: vs) ((f, t) :: r)
theorem APs.pps {ks : List (Option Expr)} {vs : List Expr} {r : List (Str × ATE)} (h : APs X K W A pos ks vs r) : PPs X pos ks vs (r.map fun p => (tC (.str p.1), conE K W A p.2)) := by
  induction h with
  | nil => exact pps_nil
  | cons hv _ ih => exact pps_cons pe_str hv ih
theorem mergeK_nodup : ∀ {vfs acc : List (Str × V)}, ((acc ++ vfs).map (·.1)).Nodup → mergeK (inrK acc) (inrK vfs) = inrK (acc ++ vfs)
  | [], acc, _ => by rw [List.append_nil]; rfl
  | (f, v) :: r, acc, nd => by
    have e1 : ((acc ++ [(f, v)]) ++ r) = acc ++ (f, v) :: r := by simp
    have hna : f ∉ acc.map (·.1) := fun h => by
      rw [List.map_append, List.nodup_append] at nd
      exact nd.2.2 f h f (by simp) rfl
    have step : putK (inrK acc) (Sum.inr f) v = inrK (acc ++ [(f, v)]) := by
      unfold putK
      rw [inr_any, if_neg (by simpa using hna)]
      simp [inrK]
    show mergeK (putK (inrK acc) (Sum.inr f) v) (inrK r) = _
    rw [step, mergeK_nodup (by rw [e1]; exact nd), e1]
theorem a_disp {ks : List (Option Expr)} {vs : List Expr} {r : List (Str × ATE)} (h : APs X K W A pos ks vs r) (hall : ks.all (·.isSome) = true := by rfl) (hl : ks.length = vs.length := by rfl) (h0 : ks ≠ [] := by nofun) (h15 : ks.length ≤ 15 := by decide) : PE X (.Dict ks vs pos) (conE K W A (aDisp r)) :=
  (pe_disp h.pps hall hl h0 h15).to fun σ H Q ⟨xs, M, F, B, rs, fr, lx, h, l⟩ => fun p hp => by
    have f1 := fr.own (o := .dct []) (ho := .dK []) hp ⟨[], upd_same, ⟨rfl, fun i p q e => by simp at e⟩, List.nodup_nil⟩
    refine ps_con r σ xs _ F _ _ _ rs f1 lx (h p) fun kvs M' vkvs H' F' ⟨u, ha, hl, hnd, b⟩ s rf f' => ?_
    obtain ⟨v0, e0, r0, _⟩ := f'.at_ _ ha.mem
    rw [List.eq_nil_of_length_eq_zero r0.1] at e0
    refine ⟨e0, inrK vkvs, by rw [List.map_map]; rfl, by rw [List.length_map, rf.1]; exact hl, ?_⟩
    have e2 : mergeK [] (inrK vkvs) = inrK vkvs := by
      have := mergeK_nodup (vfs := vkvs) (acc := []) (by rw [List.nil_append, rvf_keys rf]; exact hnd)
      rwa [List.nil_append] at this
    rw [e2]
    exact l _ _ _ _ _ b s (.r p) (f'.put (o' := .dct kvs) ha ⟨vkvs, upd_same, rf, hnd⟩)
theorem x_kd {z : Str} {d : D} {R : D → Prop} (h : kvs.lookup z = some d) (k : R d) : ∃ z' d', D.str z = .str z' ∧ kvs.lookup z' = some d' ∧ R d' := ⟨z, d, rfl, h, k⟩
theorem x_kin {z : Str} {R : Str → Prop} (k : R z) : ∃ z', D.str z = .str z' ∧ R z' := ⟨z, rfl, k⟩
theorem x_dix {M : Mem} {a : Addr} {u : Ob → Mem} {f : Str} {d : D} {R : D → Prop} (h : At M a (.dct kvs) u) (e : kvs.lookup f = some d) (k : R d) : ∃ a' kvs u d, D.r a = .r a' ∧ At M a' (.dct kvs) u ∧ kvs.lookup f = some d ∧ R d := ⟨a, kvs, u, d, rfl, h, e, k⟩
theorem x_dput {M : Mem} {a : Addr} {u : Ob → Mem} {f : Str} {d : D} {kvs' : List (Str × D)} {Q : Mem → Prop} (h : At M a (.dct kvs) u) (hl : kvs.length < 1000) (hp : PutR f d kvs kvs') (k : Q (u (.dct kvs'))) : aDput (.r a) f d M Q := ⟨a, kvs, kvs', u, rfl, h, hl, hp, k⟩
/-! ### memory told in another order, less of it -/
theorem Fz.perm {xs : AS} {M M' : Mem} (h : M.Perm M') : Fz K xs M xs M' := fun F σ H rs fr =>
  ⟨F, Same.refl F, rs, fr.sub, fun p hp => fr.out p (h.mem_iff.mpr hp), (h.map (·.1)).nodup_iff.mp fr.nod, fun p hp => fr.at_ p (h.mem_iff.mpr hp)⟩
theorem FzV.perm {d : D} {M M' : Mem} (h : M.Perm M') : FzV K d M d M' := fun F v H rv fr =>
  ⟨F, Same.refl F, rv, fr.sub, fun p hp => fr.out p (h.mem_iff.mpr hp), (h.map (·.1)).nodup_iff.mp fr.nod, fun p hp => fr.at_ p (h.mem_iff.mpr hp)⟩
/-- M' may be told as M, whatever else is known -/
def RelM (K : PySem.W.Frag) (M' M : Mem) : Prop := (∀ xs, Fz K xs M' xs M) ∧ ∀ d, FzV K d M' d M
theorem RelM.refl {M : Mem} : RelM K M M := ⟨fun _ => .refl, fun _ => .refl⟩
theorem RelM.trans {M1 M2 M3 : Mem} (a : RelM K M1 M2) (b : RelM K M2 M3) : RelM K M1 M3 := ⟨fun xs => (a.1 xs).trans (b.1 xs), fun d => (a.2 d).trans (b.2 d)⟩
theorem RelM.perm {M M' : Mem} (h : M.Perm M') : RelM K M M' := ⟨fun _ => .perm h, fun _ => .perm h⟩
theorem RelM.drop {M M' : Mem} {a : Addr} {o : Ob} (h : Rem M a o M') : RelM K M M' := ⟨fun _ => .drop h, fun _ => .drop h⟩
theorem RelM.hd {p : Addr × Ob} {M : Mem} : RelM K (p :: M) M := .drop (a := p.1) (o := p.2) .hd
theorem RelM.app {L M : Mem} : RelM K (L ++ M) M := by
  induction L with
  | nil => exact .refl
  | cons p L ih => exact RelM.hd.trans ih
theorem RelM.mid {T L M : Mem} : RelM K (T ++ (L ++ M)) (T ++ M) :=
  (RelM.perm (M' := L ++ (T ++ M)) (by rw [← List.append_assoc, ← List.append_assoc]; exact (List.perm_append_comm).append_right M)).trans .app
theorem At.left {L M : Mem} {a : Addr} {o : Ob} {u : Ob → Mem} (h : At L a o u) : At (L ++ M) a o (fun o' => u o' ++ M) := by
  induction h with
  | hd => exact .hd
  | tl _ ih => exact .tl ih
theorem At.rev {L : Mem} {a : Addr} {o : Ob} {u : Ob → Mem} (h : At L a o u) : At L.reverse a o (fun o' => (u o').reverse) := by
  induction h with
  | @hd M a o => simp only [List.reverse_cons]; exact At.under .hd
  | @tl M a o p u _ ih => simp only [List.reverse_cons]; exact At.left ih
end
end AV

set_option Elab.async false
set_option linter.all false
set_option maxRecDepth 100000
set_option maxHeartbeats 4000000
/-! A14: sums, more operators (own work). -/
namespace AV
open PySem PySem.Spec PyProof.Rows L2 G TL
section
variable {X : Cx} {K : PySem.W.Frag} {W : WX} {A : AX} {F H : Hp}
theorem g_sum (hc : X.calm = true) {K : PySem.W.Frag} (hK : X.K = K := by rfl) : CallR X (.builtin "sum") (rSum K) := by subst hK; exact cr_sum hc
inductive aSum : AN
  | mk {x : D} {ns : List Int} {M : Mem} {Q : AQ} : Ls M x (ns.map D.int) → Q (.int ns.sum) M → aSum [x] M Q
theorem o_sum (hc : X.calm = true) (hK : X.K = K := by rfl) : CallR X (.builtin "sum") (rSum K) ∧ OpN K (rSum K) aSum := ⟨g_sum hc hK, fun xs vs M F H B Q h r f l => by
  cases h with
  | mk hs h =>
    obtain ⟨v, vr, rfl, r1, r2⟩ := r.inv
    obtain rfl := r2.inv_nil
    obtain ⟨a, us, rfl, s, q⟩ := hs.at_ r1 f
    rw [q.ints] at s
    exact ⟨a, _, rfl, s, l.same h (.int _) f⟩⟩
theorem un1 {k : Nat} {A : Around} (hr : Room k A) : A.units + 1 < cLine := by have := hr.un; omega
end
end AV

set_option Elab.async false
set_option linter.all false
set_option maxRecDepth 100000
set_option maxHeartbeats 4000000
/-! A15: walks over a list that is still written (own work). -/
namespace AV
open PySem PySem.Spec PyProof.Rows L2 G TL
section
variable {X : Cx} {K : PySem.W.Frag} {W : WX} {A : AX} {F : Hp}
/-- J walks the items its, as long as N is so of the memory -/
structure WkN (K : PySem.W.Frag) (N : Mem → Prop) (F : Hp) (its : List D) (J : It) : Prop where
  ex : ∃ (G : Hp → Prop) (Y : Nat → Hp → V → Hp → Prop), Walk J its.length G Y ∧ (∀ M' F' H', Same F F' → N M' → Fr K M' F' H' → G H') ∧
    ∀ i H1 x H2 F1 M1 d, Y i H1 x H2 → its[i]? = some d → Same F F1 → N M1 → Fr K M1 F1 H1 → ∃ F2, Same F1 F2 ∧ Fr K M1 F2 H2 ∧ Rv K F2 x d
def HasL (o : Addr) (its : List D) (M : Mem) : Prop := ∃ u, At M o (.lst its) u
theorem wkN_list {a : Addr} {its : List D} : WkN K (HasL a its) F its (Itl K a) :=
  ⟨fun H => ∃ vs, SqL K H a vs ∧ vs.length = its.length, fun i H x H' => H' = H ∧ ∀ vs, SqL K H a vs → vs[i]? = some x,
    ⟨fun i _ hi ⟨vs, q, hl⟩ => ⟨vs, vs[i], q, by simp⟩, fun _ ⟨vs, q, hl⟩ => ⟨vs, q, by omega⟩, fun _ _ _ _ _ _ y => y⟩,
    fun M' F' H' _ ⟨u, ha⟩ f => by
      obtain ⟨vs, e, l⟩ := f.at_ _ ha.mem
      exact ⟨vs, SqL.of e, l.1⟩,
    fun i H1 x H2 F1 M1 d ⟨e1, h⟩ ed s ⟨u, ha⟩ f => by
      obtain ⟨vs, e, l⟩ := f.at_ _ ha.mem
      exact ⟨F1, Same.refl _, by rw [e1]; exact f, l.2 i x d (h vs (SqL.of e)) ed⟩⟩
def conIO (K : PySem.W.Frag) (W : WX) (A : AX) (ta : ATE) : TI := fun σ H R => ∃ (xs : AS) (M : Mem) (F : Hp) (B : Addr → List D → Mem → Prop), Rs K F xs σ ∧ Fr K M F H ∧ LnX K F A W ∧ (ta xs M fun x M1 => ∃ o its, x = .r o ∧ HasL o its M1 ∧ B o its M1) ∧
  ∀ o its M' J H' F', B o its M' → Same F F' → Fr K M' F' H' → WkN K (HasL o its) F' its J → R J H'
theorem ai_ofO {tg e : Expr} {ta : ATE} (h : PI X tg e (gIt K (conE K W A ta))) : PI X tg e (conIO K W A ta) := h.to fun σ H R ⟨xs, M, F, B, rs, fr, lx, h, l⟩ =>
  con_step rs fr lx h fun x M1 v H1 F1 ⟨o, its, ex, hl, h1⟩ s1 r1 f1 _ _ => by
    subst ex
    cases r1
    obtain ⟨u, ha⟩ := hl
    obtain ⟨vs, e1, q⟩ := f1.at_ _ ha.mem
    exact .inl ⟨o, rfl, ⟨vs, SqL.of e1⟩, l _ _ _ _ _ _ h1 s1 f1 wkN_list⟩
/-! comprehensions -/
def lcIsN (N : Mem → Prop) (a : Addr) (g : ATG) (tt : ATT) (te : ATE) (ws : AS) (its : List D) (M : Mem) (Q : List D → Mem → Prop) : Prop := ∃ I : Nat → List D → Mem → Prop, I 0 [] M ∧ (∀ i acc M, I i acc M → N M) ∧
  (∀ i d acc M, its[i]? = some d → I i acc M → g d ws M fun xs1 M1 => tt xs1 M1 fun b M2 =>
    if b = true then te xs1 M2 fun e M3 => ∃ u, At M3 a (.lst acc) u ∧ acc.length < sizeLine ∧ I (i + 1) (acc ++ [e]) (u (.lst (acc ++ [e])))
    else ∃ u, At M2 a (.lst acc) u ∧ I (i + 1) acc M2) ∧ ∀ acc M, I its.length acc M → Q acc M
variable {fin : Fin} {g : ATG} {tt : ATT} {te ta : ATE} {vs : List Nat}
@[reducible] def aLcO (fin : Fin) (ta : ATE) (g : ATG) (tt : ATT) (te : ATE) (vs : List Nat) : ATE := fun xs M Q => ta xs M fun x M1 => ∃ o its, x = .r o ∧ HasL o its M1 ∧ ∀ a, lcIsN (HasL o its) a g tt te (awipe xs vs) its ((a, .lst []) :: M1) fun acc M2 => fin a acc M2 Q
theorem lc_conO (hf : FinOk K fin) (σ : L2.St) (H : Hp) (Q : VK) (h : conE K W A (aLcO fin ta g tt te vs) σ H Q) : tLc (conIO K W A ta) (conG K W A vs g) (conT K W A tt) (conE K W A te) vs σ H Q := by
  obtain ⟨xs, M, F, B, rs, fr, lx, h, l⟩ := h
  refine ⟨xs, M, F, fun o its M1 => ∀ a, lcIsN (HasL o its) a g tt te (awipe xs vs) its ((a, .lst []) :: M1) fun acc M2 => fin a acc M2 B, rs, fr, lx, h, fun o its M1 J H1 F1 h1 s1 f1 wk => ?_⟩
  have rs1 := rs.same s1
  have lx1 := lx.mono s1
  obtain ⟨G, Y, w, hG, hY⟩ := wk.ex
  show LcIs J H1 (conG K W A vs g) (conT K W A tt) (conE K W A te) vs σ Q
  intro D0 hD
  obtain ⟨I, I0, IN, step, fins⟩ := h1 D0
  refine lc_it w (fun i H' => ∃ ds M' F', Same F1 F' ∧ Fr K M' F' H' ∧ I i ds M') ⟨[], _, F1, Same.refl F1, f1.own (o := .lst []) hD ⟨[], upd_same, .nil⟩, I0⟩ (fun i H' _ ⟨ds, M', F', s', f', q⟩ => hG M' F' H' s' (IN _ _ _ q) f') ?_ ?_
  · rintro i x H2 H3 hi ⟨ds, M', F', s2, f2, go⟩ y
    have hit : its[i]? = some its[i] := List.getElem?_eq_getElem hi
    obtain ⟨F3, s3, f3, rx⟩ := hY i H2 x H3 F' M' _ y hit s2 (IN _ _ _ go) f2
    have s13 := s2.trans s3
    refine ⟨its[i], awipe xs vs, M', F3, _, rx, (rs1.same s13).wipe vs, f3, lx1.mono s13, step i _ ds M' hit go, fun xs2 M2 σ2 H4 F4 h4 s4 rs4 f4 off => ⟨wipe_off off, ?_⟩⟩
    refine conT_step rs4 f4 (lx1.mono (s13.trans s4)) h4 fun b M5 H5 F5 h5 s5 f5 rs5 lx5 => ?_
    have s15 := (s13.trans s4).trans s5
    cases b with
    | true =>
      rw [if_pos rfl] at h5 ⊢
      refine con_step rs5 f5 lx5 h5 fun d M6 v6 H6 F6 ⟨u, ha, hz, h6⟩ s6 r6 f6 _ _ => ?_
      obtain ⟨ws, ew, rw6⟩ := f6.at_ _ ha.mem
      exact ⟨ws, ew, by rw [rw6.1]; exact hz, ds ++ [d], _, F6, s15.trans s6, f6.put (o' := .lst (ds ++ [d])) ha ⟨ws ++ [v6], upd_same, rw6.append (.cons r6 .nil)⟩, h6⟩
    | false =>
      rw [if_neg Bool.false_ne_true] at h5 ⊢
      obtain ⟨u, ha, h6⟩ := h5
      exact ⟨ds, M5, F5, s15, f5, h6⟩
  · rintro H' ⟨ds, M', F', s', f', go⟩
    obtain ⟨d, M3, F3, b, s3, r3, f3⟩ := hf _ _ _ _ _ _ (fins _ _ go) f'
    exact l _ _ _ _ _ b ((s1.trans s').trans s3) r3 f3
theorem a_lcO {e : Expr} (hf : FinOk K fin) (h : PE X e (tLc (conIO K W A ta) (conG K W A vs g) (conT K W A tt) (conE K W A te) vs)) : PE X e (conE K W A (aLcO fin ta g tt te vs)) := h.to fun σ H Q q => lc_conO hf σ H Q q
theorem as_setLcO {st : Stmt} {i : Nat} (hf : FinOk K fin) (h : PS X st (tAsg (tLc (conIO K W A ta) (conG K W A vs g) (conT K W A tt) (conE K W A te) vs) (gName i))) : PS X st (conS K W A (aAsg (aLcO fin ta g tt te vs) (agName i))) := h.to fun Q σ H ⟨xs, M, F, B, rs, fr, lx, h, l⟩ =>
  lc_conO (A := A) hf σ H _ ⟨xs, M, F, _, rs, fr, lx, h, fun d M1 v H1 F1 h1 s1 r1 f1 => l.nx _ _ _ _ _ h1 s1 ((rs.same s1).set r1) f1⟩
/-! for -/
def forIsN (K : PySem.W.Frag) (N : Mem → Prop) (g : ATG) (tb : ATS) (Q : AEnds) (its : List D) (xs : AS) (M : Mem) : Prop := ∃ I : Nat → AS → Mem → Prop, I 0 xs M ∧ (∀ i xs M, I i xs M → N M) ∧
  (∀ i d xs M, its[i]? = some d → I i xs M → g d xs M fun xs1 M1 => tb { Q with nx := Nx K (I (i + 1)), ct := Nx K (I (i + 1)), bk := Q.nx } xs1 M1) ∧ ∀ xs M, I its.length xs M → Q.nx xs M
@[reducible] def aForO (K : PySem.W.Frag) (ta : ATE) (g : ATG) (tb : ATS) : ATS := fun Q xs M => ta xs M fun x M1 => ∃ o its, x = .r o ∧ HasL o its M1 ∧ forIsN K (HasL o its) g tb Q its xs M1
theorem as_forO {st : Stmt} {t : ATS} (h : PS X st (tFor (conIO K W A ta) (conG K W A vs g) (conS K W A t))) : PS X st (conS K W A (aForO K ta g t)) := h.to fun Q σ H ⟨xs, M, F, B, rs, fr, lx, h, l⟩ => by
  refine ⟨xs, M, F, fun o its M1 => forIsN K (HasL o its) g t B its xs M1, rs, fr, lx, h, fun o its M1 J H1 F1 ⟨I, I0, IN, step, fins⟩ s1 f1 wk => ?_⟩
  obtain ⟨G, Y, w, hG, hY⟩ := wk.ex
  refine for_it w (fun i σ' H' => ∃ xs' M' F', Same F1 F' ∧ Rs K F' xs' σ' ∧ Fr K M' F' H' ∧ I i xs' M') ⟨xs, M1, F1, Same.refl F1, rs.same s1, f1, I0⟩ (fun i σ' H' _ ⟨xs', M', F', s', _, f', q⟩ => hG M' F' H' s' (IN _ _ _ q) f') ?_ ?_
  · rintro i x σ' H2 H3 hi ⟨xs', M', F', s2, rs2, f2, go⟩ y
    have hit : its[i]? = some its[i] := List.getElem?_eq_getElem hi
    obtain ⟨F3, s3, f3, rx⟩ := hY i H2 x H3 F' M' _ y hit s2 (IN _ _ _ go) f2
    have s13 := s2.trans s3
    refine ⟨its[i], xs', M', F3, _, rx, rs2.same s3, f3, lx.mono (s1.trans s13), step i _ xs' M' hit go, fun xs3 M3 σ3 H4 F4 h4 s4 rs4 f4 _ => ?_⟩
    have next : LnS K F4 (I (i + 1)) (fun σ' H' => ∃ xs' M' F', Same F1 F' ∧ Rs K F' xs' σ' ∧ Fr K M' F' H' ∧ I (i + 1) xs' M') :=
      fun xs5 M5 σ5 H5 F5 h5 s5 rs5 f5 => ⟨xs5, M5, F5, (s13.trans s4).trans s5, rs5, f5, h5⟩
    have lm := l.mono ((s1.trans s13).trans s4)
    exact ⟨xs3, M3, F4, _, rs4, f4, lx.mono ((s1.trans s13).trans s4), h4, Nx.ln next, lm.rt, lm.nx, Nx.ln next⟩
  · rintro σ' H' ⟨xs', M', F', s', rs', f', go⟩
    exact l.nx _ _ _ _ _ (fins _ _ go) (s1.trans s') rs' f'
end
section
variable {K : PySem.W.Frag} {xs : AS} {M : Mem} {Q : AQ} {B : AEnds} {tu : ATS} {te : ATE} {g : ATG} {a o : Addr} {its : List D}
theorem x_hasL {R : Addr → List D → Prop} {u : Ob → Mem} (h : At M o (.lst its) u) (k : R o its) : ∃ o' its', D.r o = .r o' ∧ HasL o' its' M ∧ R o' its' := ⟨o, its, rfl, ⟨u, h⟩, k⟩
theorem c_invO {fin : Fin} {tt : ATT} {ws : AS} (I : Nat → List D → Mem → Prop) (h0 : I 0 [] M) (hN : ∀ i acc M, I i acc M → HasL o its M)
    (hs : ∀ i d acc M, its[i]? = some d → acc.length ≤ i → I i acc M → g d ws ((a, .lst acc) :: M) fun xs1 M1 => tt xs1 M1 fun b M2 => if b = true then te xs1 M2 fun e M3 => LcN a I i acc e M3 else LcK a I i acc M2)
    (hd : ∀ acc M, acc.length ≤ its.length → I its.length acc M → fin a acc ((a, .lst acc) :: M) Q) : lcIsN (HasL o its) a g tt te ws its ((a, .lst []) :: M) fun acc M2 => fin a acc M2 Q :=
  ⟨LcW a I, ⟨M, rfl, Nat.le_refl _, h0⟩, fun i acc M ⟨M', em, _, h⟩ => by
    subst em
    obtain ⟨u, q⟩ := hN _ _ _ h
    exact ⟨_, .tl q⟩, fun i d acc M e ⟨M', em, hl, h⟩ => by subst em; exact hs i d acc M' e hl h, fun acc M ⟨M', em, hl, h⟩ => by subst em; exact hd acc M' hl h⟩
theorem f_allO (I : Nat → AS → Mem → Prop) (h0 : I 0 xs M) (hN : ∀ i xs M, I i xs M → HasL o its M)
    (hs : ∀ i d xs M, its[i]? = some d → I i xs M → g d xs M fun xs1 M1 => tu { B with nx := Nx K (I (i + 1)), ct := Nx K (I (i + 1)), bk := B.nx } xs1 M1)
    (hd : ∀ xs M, I its.length xs M → B.nx xs M) : forIsN K (HasL o its) g tu B its xs M := ⟨I, h0, hN, hs, hd⟩
end
end AV

set_option Elab.async false
set_option linter.all false
set_option maxRecDepth 100000
set_option maxHeartbeats 4000000
/-! A16: == of two lists of own instances that hold the same data (own work). -/
namespace AV
open PySem PySem.Spec PyProof.Rows L2 G TL
section
variable {X : Cx} {K : PySem.W.Frag} {W : WX} {A : AX} {F : Hp}
def RIns (K : PySem.W.Frag) (C : Addr) (p : List (Str × D) → Prop) (a b : Addr) (H : Hp) : Prop := ∃ fs, p fs ∧ Rv K H (.ref a) (.ins C fs) ∧ Rv K H (.ref b) (.ins C fs)
theorem RIns.mono {C : Addr} {p : List (Str × D) → Prop} : ∀ a b H H', Ext H H' → RIns K C p a b H → RIns K C p a b H' := fun a b H H' e ⟨fs, h, r1, r2⟩ => ⟨fs, h, r1.same e, r2.same e⟩
theorem spEq_of {asp : ASp} {C : Addr} {p : List (Str × D) → Prop} (h : ∀ fs M (Q : AQ), p fs → Q (.bl true) M → asp [.ins C fs, .ins C fs] M Q noX) : ∀ vs H Q E, spEq (RIns K C p) vs H Q E → conSp K asp vs H Q E := fun vs H Q E ⟨a, b, e, ⟨fs, hp, r1, r2⟩, q⟩ => by
  subst e
  refine ⟨[.ins C fs, .ins C fs], [], H, fun d _ => d = .bl true, noX, .cons r1 (.cons r2 .nil), ⟨Same.refl H, fun p hp => absurd hp (List.not_mem_nil), List.nodup_nil, fun p hp => absurd hp (List.not_mem_nil)⟩, h fs [] _ hp rfl, ?_, .none⟩
  intro d M' v H' F' ed s rv f
  subst ed
  cases rv
  exact q H' (s.trans f.sub)
def aEqIL (C : Addr) (p : List (Str × D) → Prop) : D → D → Mem → AQ → Prop := fun x y M Q => ∃ ds, (∀ d ∈ ds, ∃ fs, d = .ins C fs ∧ p fs) ∧ x = .lst ds ∧ y = .lst ds ∧ Q (.bl true) M
theorem o_eqIL {k : Nat} {C : Addr} {ps : List Str} {asp : ASp} {p : List (Str × D) → Prop} (c : MCal X.prog X.w X.K X.mg X.base CX0 k C "__eq__" ps (conSp K asp)) (h : ∀ fs M (Q : AQ), p fs → Q (.bl true) M → asp [.ins C fs, .ins C fs] M Q noX) (hr : Room (k + 1) X.A) (hK : X.K = K := by rfl) :
    OpR X (compareOp .Eq) (rEqG (DList (DIns C (RIns K C p)))) ∧ Op2 K (rEqG (DList (DIns C (RIns K C p)))) (aEqIL C p) := by
  subst hK
  refine ⟨?_, fun x y v w M F H B Q ⟨ds, hp, ex, ey, q⟩ r1 r2 f l => ?_⟩
  · obtain ⟨f, fd, M, hb, F⟩ := (c.imp (spEq_of h)).ex
    exact op_eqG (rcG_list (mon_ins RIns.mono) (eqG_ins (E := fun _ _ _ => False) F M.at_ M.fn hb pass0)) hr
  · subst ex ey
    obtain ⟨a, vs, rfl, e1, l1⟩ := r1.lst_inv0
    obtain ⟨b, ws, rfl, e2, l2⟩ := r2.lst_inv0
    refine ⟨⟨a, b, vs, ws, rfl, rfl, f.sub _ _ e1, f.sub _ _ e2, l1.1.trans l2.1.symm, fun i x y h1 h2 => ?_⟩, fun H' ex => l _ _ _ _ _ q (Same.refl F) (.bl true) (f.grow ex)⟩
    have hi := (List.getElem?_eq_some_iff.mp h1).1
    have hd : ds[i]? = some (ds[i]'(by rw [← l1.1]; exact hi)) := List.getElem?_eq_getElem _
    obtain ⟨fs, ed, hpf⟩ := hp _ (List.mem_of_getElem? hd)
    have ra := l1.2 i x _ h1 hd
    have rb := l2.2 i y _ h2 hd
    rw [ed] at ra rb
    have ra2 := ra
    have rb2 := rb
    obtain ⟨a', dx, vf, rfl, ea, _⟩ := ra.ins_inv
    obtain ⟨b', dy, vg, rfl, eb, _⟩ := rb.ins_inv
    exact ⟨a', b', dx, dy, vf, vg, rfl, rfl, f.sub _ _ ea, f.sub _ _ eb, fs, hpf, ra2.same f.sub, rb2.same f.sub⟩
end
end AV

set_option Elab.async false
set_option linter.all false
set_option maxRecDepth 100000
set_option maxHeartbeats 4000000
/-! A17: enumerate of a tuple (own work). -/
namespace PySem
open Sem (wp)
open AutoSeq1 (wpAny_loadPart')
theorem Draws.tuple' {prog : Program} {w : World} {A : Around} (hh : A.handled = none) (it l : Addr) (hne : l ≠ it) (items : Array Value) :
    Draws prog w A it [it, l] items.size (fun i v => items[i]? = some v) (fun i h => h.IsTupleIter it l i ∧ h.IsTuple l items) where
  live := fun _ _ st => let ⟨o, ho, _⟩ := st.1; ⟨o, ho⟩
  frame := fun _ _ _ st hk => ⟨st.1.at fun o e => hk it (by simp) o e, let ⟨o, ho, r⟩ := st.2; ⟨o, hk l (by simp) o ho, r⟩⟩
  item := fun i s Q E hi st hQ => by
    refine RZ.nextOf_tuple_item st.1 st.2 (x := items[i]) (by simp [hi]) fun h' hit' hs' => ?_
    exact hQ _ h' s.toks (by simp [hi]) ⟨hit', st.2.extBut hs'.extBut hne⟩ hs'
  done := fun s Q E st hE => RZ.nextOf_tuple_end hh st.1 st.2 (by simp) hE
set_option maxHeartbeats 1000000 in
theorem meets_enumerate_newT (l : Addr) (items : Array Value) (n : Nat) (dct : Option Addr) (sl : Array (Option Value)) :
    Meets (Builtin.«enumerate.__new__» ⟨[.type "enumerate", .ref l], []⟩) (fun _ R s => s.heap.get? l = some { cls := .type "tuple", dict := dct, data := .seq items n, slots := sl } ∧
      R (.ok (.ret (.ref (s.heap.push { cls := .type "tuple_iterator", data := .fields #[.ref l, .int 0 0] }).objs.size)))
        { s with heap := (s.heap.push { cls := .type "tuple_iterator", data := .fields #[.ref l, .int 0 0] }).push { cls := .type "enumerate", data := .fields #[.none, .bool false, .ref s.heap.objs.size, rawInt 0, .none, .none] } }) :=
  .of_wp fun prog w A R s h => by
    obtain ⟨hp, g, d, tk, os⟩ := s; obtain ⟨hl, h⟩ := h
    have hsub := sub_enumerate
    have hL : Heap.IsTuple (Shared.heap ⟨hp, g, d, tk, os⟩) l items := ⟨_, hl, rfl, n, rfl⟩
    wp_walk using wpAny_loadPart' hl
    refine wpAny_stack_any fun st => wpAny_pure ?_
    split
    · rename_i c _ _ _ _ _
      cases (c == Value.type "enumerate")
      · wp_walk using wpAny_loadPart' hl, wpAny_pyIter_tuple hL
        exact ⟨_, rfl, h⟩
      · wp_walk using wpAny_loadPart' hl, wpAny_pyIter_tuple hL
        exact ⟨_, rfl, h⟩
    · wp_walk using wpAny_loadPart' hl, wpAny_pyIter_tuple hL
      exact ⟨_, rfl, h⟩
section
variable {prog : Program} {w : World} {A : Around} {E : Value → Shared → Prop} {s : Shared}
theorem call_enumerate_tupleT {l : Addr} {items : Array Value} {Q : Value → Shared → Prop} (hL : s.heap.IsTuple l items)
    (h : ∀ h', IsEnum h' (s.heap.objs.size + 1) s.heap.objs.size 0 .none → h'.IsTupleIter s.heap.objs.size l 0 → h'.objs.size = s.heap.objs.size + 2 →
      (∀ b o, s.heap.get? b = some o → h'.get? b = some o) → Q (.ref (s.heap.objs.size + 1)) { s with heap := h' }) :
    wpAny (model prog w) A (call (.type "enumerate") [.ref l]) Q E s := by
  obtain ⟨⟨c, dct, dt, sl⟩, hl, hc, n, hd⟩ := hL
  replace hc : c = .type "tuple" := hc
  replace hd : dt = .seq items n := hd
  subst hc hd
  refine callType_new F.called_enumerate (by decide) (F.typeCall_enumerate_1 _) (F.newCall_enumerate_1 _) (fun obj => F.args_object_init_2 obj _) F.entry_enumerate_new
    (meets_enumerate_newT l items n dct sl) ⟨hl, ?_⟩
  have hz : (s.heap.push { cls := .type "tuple_iterator", data := .fields #[.ref l, .int 0 0] }).objs.size = s.heap.objs.size + 1 := Heap.size_push ..
  show _ ∧ _
  rw [hz]
  have he : IsEnum ((s.heap.push { cls := .type "tuple_iterator", data := .fields #[.ref l, .int 0 0] }).push
      { cls := .type "enumerate", data := .fields #[.none, .bool false, .ref s.heap.objs.size, rawInt 0, .none, .none] }) (s.heap.objs.size + 1) s.heap.objs.size 0 .none := by
    have := Heap.get?_push_size (s.heap.push { cls := .type "tuple_iterator", data := .fields #[.ref l, .int 0 0] })
      (o := { cls := .type "enumerate", data := .fields #[.none, .bool false, .ref s.heap.objs.size, rawInt 0, .none, .none] }) rfl
    rw [hz] at this; exact this
  refine ⟨⟨_, he, rfl⟩, h _ he ⟨_, Heap.get?_push_of_some _ (Heap.get?_push_size _ rfl), rfl, rfl⟩ (by rw [Heap.size_push, hz]) fun b o x => Heap.get?_push_of_some _ (Heap.get?_push_of_some _ x)⟩
end
end PySem
namespace L2
open PySem PySem.Spec PyProof.Rows
def IteT (K : PySem.W.Frag) (a : Addr) : It :=
  ⟨fun i H => ∃ (xs : List V) (x : V), SqT K H a xs ∧ xs[i]? = some x, fun i H v H' => ∃ T x, v = .ref T ∧ H T = none ∧ H' = upd H T (.tup [.int (i : Nat), x]) ∧ ∀ xs, SqT K H a xs → xs[i]? = some x, fun i H => ∃ xs : List V, SqT K H a xs ∧ xs.length ≤ i⟩
theorem turn_enumT {P : Program} {w : World} {K : PySem.W.Frag} {elts : List Expr} {kk : Nat} {tpos : Pos} (a e it : Addr) :
    Turn P w K (.Tuple elts kk tpos) (IteT K a) [e, it] e (fun i h => (∃ old, IsEnum h e it ((i : Nat) : Int) old) ∧ h.IsTupleIter it a i ∧ e ≠ it) where
  mem := by simp
  obj := fun i h st b hb => by
    obtain ⟨⟨old, he⟩, ⟨o, ho, hc, hd⟩, _⟩ := st
    have e' : b = e ∨ b = it := by simpa using hb
    rcases e' with z | z
    · rw [z]; exact ⟨_, he, fun v q => nomatch q⟩
    · rw [z]; exact ⟨o, ho, fun v q => by rw [hd] at q; cases q⟩
  keep := fun i h h' st k => let ⟨⟨old, he⟩, hi, hne⟩ := st; ⟨⟨old, k e (by simp) _ he⟩, hi.at fun o q => k it (by simp) o q, hne⟩
  item := by
    intro X hP hw hK hc i pins s σ H E I hf st hg
    subst hP hw hK
    obtain ⟨⟨old, he⟩, hit, hne⟩ := st
    obtain ⟨xs, x, hq, hx⟩ := hg
    obtain ⟨its, rv, p, hz⟩ := I.tuple hq
    obtain ⟨u, hu, ru⟩ := rv.get hx
    have p' : s.heap.IsTuple a its.toArray := p
    have hel : e < s.heap.objs.size := Heap.lt_size he
    have hil : it < s.heap.objs.size := by obtain ⟨_, q, _⟩ := hit; exact Heap.lt_size q
    have hea : e ≠ a := fun z => by
      obtain ⟨o, h1, h2, _⟩ := p'
      rw [← z] at h1
      have h3 := h1.symm.trans he
      cases h3
      exact absurd h2 (by simp)
    have hia : a ≠ it := fun z => by
      obtain ⟨o, h1, h2, _⟩ := p'
      obtain ⟨o', h3, h4, _⟩ := hit
      rw [z] at h1
      have h5 := h1.symm.trans h3
      cases h5
      rw [h2] at h4
      exact absurd h4 (by simp)
    have hn : i < its.toArray.size := by
      have := (List.getElem?_eq_some_iff.mp hu).1
      simpa using this
    refine wpAny_pyNext_enum_itemD (Draws.tuple' (prog := X.prog) (w := X.w) (A := X.A.in1) (show X.A.in1.handled = none from I.ok.hd hc) it a hia its.toArray) he ⟨hit, p'⟩ hn hne (by simp [hne, hea]) fun x' h' tk hx' ho hst' hT hsz hk => ?_
    obtain rfl : x' = u := by
      have : its.toArray[i]? = some u := by simpa using hu
      rw [this] at hx'
      exact (Option.some.inj hx').symm
    refine ⟨_, rfl, wpAny_letOwnedTupleGo_enum (s := { s with heap := h', toks := tk + 1 }) ho fun h'' he' sb => ?_⟩
    have hT2 : h''.get? s.heap.objs.size = some { cls := .type "tuple", data := .seq #[.int i tk, x'] } := (sb.2 _ (Nat.ne_of_gt hel)).trans hT
    have new : ObjOk X.prog X.w (upd H s.heap.objs.size (.tup [.int (i : Nat), x])) h'' s.heap.objs.size (.tup [.int (i : Nat), x]) :=
      ⟨by show 2 ≤ sizeLine; decide, [.int i tk, x'], .cons ⟨_, rfl⟩ (.cons ru .nil), ⟨_, hT2, rfl, _, rfl⟩⟩
    have I1 : Inv X pins σ (upd H s.heap.objs.size (.tup [.int (i : Nat), x])) { s with heap := h'', toks := tk + 1 } :=
      I.turnedNew (ch := [e, it]) (fun b ob hb q => (sb.2 b (fun z => hb (by simp [z]))).trans (hk b ob (fun z => hb (by simp [z])) (fun z => hb (by simp [z])) q)) hf (Nat.le_refl _) new
    refine ⟨.ref s.heap.objs.size, _, I1, rfl, ⟨_, x, rfl, I.hok.fresh (Nat.le_refl _), rfl, fun ys hy => by rw [I.tuple_inj hy hq]; exact hx⟩, ⟨⟨x', ?_⟩, hst'.1.at fun o q => (sb.2 it (Ne.symm hne)).trans q, hne⟩, fun b hb => ?_⟩
    · have e1 : ((i + 1 : Nat) : Int) = (i : Int) + 1 := by omega
      rw [e1]; exact he'
    · have hb' : b < s.heap.objs.size := by
        have e' : b = e ∨ b = it := by simpa using hb
        rcases e' with z | z
        · rw [z]; exact hel
        · rw [z]; exact hil
      rw [upd_ne (Nat.ne_of_lt hb')]
      exact (hf b hb).1
  done := by
    intro X hP hw hK hc i pins s σ H E I hf st hg
    subst hP hw hK
    obtain ⟨⟨old, he⟩, hit, hne⟩ := st
    obtain ⟨xs, hq, hx⟩ := hg
    obtain ⟨its, rv, p, hz⟩ := I.tuple hq
    have p' : s.heap.IsTuple a its.toArray := p
    obtain ⟨f0, f1, f2, f3, f4, f5⟩ := hf it (by simp)
    have hl := rv.length
    have hia : a ≠ it := fun z => by
      obtain ⟨o, h1, h2, _⟩ := p'
      obtain ⟨o', h3, h4, _⟩ := hit
      rw [z] at h1
      have h5 := h1.symm.trans h3
      cases h5
      rw [h2] at h4
      exact absurd h4 (by simp)
    refine wpAny_pyNext_enum_endD (A := X.A) (D := ⟨fun i h st => ?_, fun i h h' st hk => ?_, fun i s Q E hi st hQ => ?_, fun s Q E st hE => ?_⟩) (n := i) (fp := [it, a]) (P := fun _ _ => False) (St := fun j h => j = i ∧ h.IsTupleIter it a i ∧ h.IsTuple a its.toArray) he ⟨rfl, hit, p'⟩ fun h' eb => ⟨rfl, I.turned (t' := s.toks) (fun b o hb q => eb b o hb q) f0 f1 f3 f4 f5⟩
    · obtain ⟨_, ⟨o, ho, _⟩, _⟩ := st
      exact ⟨o, ho⟩
    · obtain ⟨e1, h1, h2⟩ := st
      exact ⟨e1, h1.at fun o e => hk it (by simp) o e, let ⟨o, ho, r⟩ := h2; ⟨o, hk a (by simp) o ho, r⟩⟩
    · obtain ⟨e1, _⟩ := st
      omega
    · obtain ⟨_, h1, h2⟩ := st
      exact RZ.nextOf_tuple_end (show X.A.in1.handled = none from I.ok.hd hc) h1 h2 (by simp; omega) hE
  self := fun A i s Q E st h => let ⟨⟨_, he⟩, _⟩ := st; wpAny_pyIter_enum he h
def iEnumT (K : PySem.W.Frag) (ta : TA) : TI := fun σ H R => ta σ H fun vs H1 => ∃ a xs, vs = [.ref a] ∧ SqT K H1 a xs ∧ R (IteT K a) H1
theorem pi_enumT {X : Cx} {e : Expr} {ta : TA} {p pos tpos : Pos} {elts : List Expr} {kk : Nat} (hg : Gl X "enumerate") (hm : X.mg "enumerate" = none) (ha : PA X [e] ta) (hs : starEach [e] X.env = [(false, eval e X.env)] := by rfl) :
    PI X (.Tuple elts kk tpos) (.Call (.Name "enumerate" p) [e] [] pos) (iEnumT X.K ta) := by
  refine ⟨fun pins s σ H R I h => ?_⟩
  refine Call_ (ld_blt I hg hm boot_enumerate (PyProof.Rows.callWith_type1 (thn (ha.run pos pins s σ H _ I h) fun us s1 ⟨vs, H1, I1, r1, q1⟩ => ?_) hs rfl))
  obtain ⟨a, xs, ex, hq, q⟩ := q1
  subst ex
  cases r1 with
  | cons r rr =>
    cases rr
    cases r
    obtain ⟨its, rv, p', hz⟩ := I1.tuple hq
    refine call_enumerate_tupleT (show s1.heap.IsTuple a its.toArray from p') fun h' he hit hsz hk => wpAny_pyIter_enum he ?_
    have I2 : Inv X pins σ H1 { s1 with heap := h' } := I1.kept (t' := s1.toks) hk
    refine ⟨s1.heap.objs.size + 1, [s1.heap.objs.size + 1, s1.heap.objs.size], _, _, H1, rfl, I2, turn_enumT a (s1.heap.objs.size + 1) s1.heap.objs.size, ⟨⟨.none, he⟩, hit, Nat.succ_ne_self _⟩, fun b hb => ?_, q⟩
    have e' : b = s1.heap.objs.size + 1 ∨ b = s1.heap.objs.size := by simpa using hb
    have hle : s1.heap.objs.size ≤ b := by
      rcases e' with z | z
      · rw [z]; exact Nat.le_add_right _ _
      · rw [z]; exact Nat.le_refl _
    exact I1.fpOk hle (I1.hok.fresh hle)
theorem walk_enumT {K : PySem.W.Frag} {a : Addr} {xs : List V} : Walk (IteT K a) xs.length (fun H => SqT K H a xs) (YPair (fun i => some (.int (i : Nat))) (fun i => xs[i]?)) := by
  refine ⟨fun i _ hi q => ⟨xs, xs[i], q, by simp [hi]⟩, fun _ q => ⟨xs, q, Nat.le_refl _⟩, fun i H v H' _ q y => ?_⟩
  obtain ⟨T, x, h1, h2, h3, h4⟩ := y
  exact ⟨T, .int (i : Nat), x, h1, h2, h3, rfl, h4 xs q⟩
end L2
namespace AV
open PySem PySem.Spec PyProof.Rows L2 G TL
section
variable {X : Cx} {K : PySem.W.Frag} {W : WX} {A : AX} {F : Hp}
@[reducible] def aiEnumT (t : ATA) : ATI := fun xs M R => t xs M fun ds M1 => ∃ its, ds = [.tup its] ∧ R (enD its) M1
theorem wk_enumT {a : Addr} {vs : List V} {its : List D} (hs : SqT K F a vs) (r : RvL K F vs its) : Wk K F (enD its) (IteT K a) :=
  ⟨fun H => SqT K H a vs, YPair (fun i => some (.int (i : Nat))) (fun i => vs[i]?), by rw [enD_len, ← r.1]; exact walk_enumT, fun M' F' H' s f => (hs.ext s).ext f.sub, fun i H1 v H2 F1 M1 d ⟨T, x, y, e1, hn, e2, ex, ey⟩ ed s f => by
    subst e1 e2
    obtain ⟨y', e3, rfl⟩ := enD_get ed
    obtain ⟨s2, f2⟩ := f.data (ho := .tup [x, y]) hn
    cases ex
    exact ⟨_, s2, f2, .of_tup (SqT.of upd_same) (.cons (.int _) (.cons ((r.2 i y y' ey e3).same (s.trans s2)) .nil))⟩⟩
theorem ai_enumT {tg e : Expr} {t : ATA} (h : PI X tg e (iEnumT X.K (conA K W A t))) (hK : X.K = K := by rfl) : PI X tg e (conI K W A (aiEnumT t)) := by
  subst hK
  exact h.to fun σ H R ⟨xs, M, F, B, rs, fr, lx, h, l⟩ => conA_step rs fr lx h fun ds M1 vs H1 F1 ⟨its, hk, h1⟩ s1 r1 f1 _ _ => by
    subst hk
    obtain ⟨v, vr, rfl, r2, r3⟩ := r1.inv
    obtain rfl := r3.inv_nil
    obtain ⟨a, us, rfl, sa, qa⟩ := r2.tup_inv
    exact ⟨a, us, rfl, sa.ext f1.sub, l _ _ _ _ _ h1 s1 f1 (wk_enumT sa qa)⟩
theorem s_ent {R : List D → Prop} {ys : List D} (h : R ys) : ∃ its, [D.tup ys] = [.tup its] ∧ R its := ⟨ys, rfl, h⟩
end
end AV

set_option Elab.async false
set_option linter.all false
set_option maxRecDepth 100000
set_option maxHeartbeats 4000000
/-! A18: keyword-only defaults, a tuple's index, max of a list (own work). -/
namespace PySem
open Sem (wp)
open AutoSeq1
set_option maxRecDepth 8000 in
theorem meets_extend_tupA (l b : Addr) (xs ys : Array Value) (n m : Nat) (dct : Option Addr) (sl : Array (Option Value)) (h0 : ¬(!xs.isEmpty && Builtin.List.listTooLong (xs.size + ys.size)) = true) (h1 : xs.size ≤ sizeLine) (h2 : xs.size + ys.size ≤ sizeLine + 1) :
    Meets (Builtin.«list.extend» ⟨[.ref l, .ref b], []⟩) (fun _ R s =>
      (s.heap.get? l = some { cls := .type "list", dict := none, data := .seq xs n, slots := #[] }) ∧
      (s.heap.get? b = some { cls := .type "tuple", dict := dct, data := .seq ys m, slots := sl }) ∧
      (R (.ok (.ret Value.none)) { s with heap := s.heap.update l (Obj.mapSeq fun x => x ++ ys), toks := s.toks })) :=
  .of_wp fun prog w A R s h => by
    obtain ⟨hp, g, d, tk, os⟩ := s
    obtain ⟨hl, hb, h⟩ := h
    have q1 := idx_int
    have q2 := sub_tuple_tuple
    have q3 := sub_list_list
    have q4 := sub_tuple_list
    have q5 := sub_list_tuple
    have hz : (xs ++ ys).size ≤ sizeLine + 1 := by
      rw [Array.size_append]
      exact h2
    wp_walk using (wpAny_updateSeq hl rfl (hz := h1) (_hz' := hz)), wpAny_loadPart' hl, wpAny_loadPart' hb
    exact ⟨_, rfl, h⟩
end PySem
namespace AV
open PySem PySem.Spec PyProof.Rows L2 G TL
/-! ### defs with keyword-only parameters -/
def FunAtD (K : PySem.W.Frag) (mg : Str → Option Value) (x qual : Str) (st : Stmt) (kws : List (Str × V)) : Prop := ∃ f fd, mg x = some (.ref f) ∧ FunD K x qual (defArgs st) (defBody st) (defScope st) [] kws f fd
theorem funD_mk {K : PySem.W.Frag} {x qual : Str} {st : Stmt} {kws : List (Str × V)} {f D : Addr} {oc doc pm cdv ct : Value} {od an : Option Addr} {osl : Array (Option Value)} (l : K.lookup f = some ⟨oc, od, .func (PySem.W.fnOf x qual (defArgs st) (defBody st) (defScope st) .none (.ref D) doc pm an cdv ct), osl⟩)
    (c : PySem.W.codeIn K cdv qual = true) (k : PySem.W.keepIn K (.ref f) = true) (h : ∀ q ∈ kws, ∃ u, PySem.W.nsIn K D q.1 = some (some u) ∧ RelV q.2 u) : FunD K x qual (defArgs st) (defBody st) (defScope st) [] kws f (PySem.W.fnOf x qual (defArgs st) (defBody st) (defScope st) .none (.ref D) doc pm an cdv ct) :=
  ⟨⟨oc, od, .none, .ref D, doc, pm, an, cdv, ct, osl, rfl, l, c, .inl ⟨rfl, rfl⟩, .inr ⟨D, rfl, h⟩⟩, k⟩
/-- n are written by their places, the rest by keywords or by their defaults -/
structure CalD (P : Program) (w : World) (K : PySem.W.Frag) (mg : Str → Option Value) (base : Heap) (CX : CXT) (k : Nat) (x : Str) (n : Nat) (ps : List Str) (kws : List (Str × V)) (sp : Sp) : Prop where
  ex : ∃ f fd, mg x = some (.ref f) ∧ PySem.W.keepIn K (.ref f) = true ∧ (∃ ds, Vals (kws.map (·.2)) ds ∧ Binds K fd ps ds) ∧ (∀ (s : Shared) (us ws : List Value), us.length = n → ws.length = kws.length → BindsTo s fd ⟨us, (kws.map (·.1)).zip ws⟩ (ps.zip (us ++ ws))) ∧ FnOk P w K mg base CX k f fd ps sp
section
variable {P : Program} {w : World} {K : PySem.W.Frag} {mg : Str → Option Value} {base : Heap} {k : Nat} {x qual : Str} {ps N : List Str} {st : Stmt} {asp asp' : ASp} {kws : List (Str × V)} {CX : CXT} {sp sp' : Sp}
theorem CalD.imp {n : Nat} (C : CalD P w K mg base CX k x n ps kws sp) (h : ∀ vs H Q E, sp' vs H Q E → sp vs H Q E) : CalD P w K mg base CX k x n ps kws sp' := by
  obtain ⟨f, fd, m, kp, a, b, F⟩ := C.ex
  exact ⟨f, fd, m, kp, a, b, F.imp h⟩
theorem def_AXD (F : FunAtD K mg x qual st kws) (S : FnScope N ps (defScope st)) (n : Nat) (hk : kws ≠ []) (hn : n + kws.length = ps.length)
    (h0 : ∀ (D : Addr) (doc pm : Value) (an : Option Addr) (cdv ct : Value) (us ks : List Value), us.length = n → ks.length = kws.length → KwChain D ((kws.map (·.1)).zip ks) (bindArgs (PySem.W.fnOf x qual (defArgs st) (defBody st) (defScope st) .none (.ref D) doc pm an cdv ct) ⟨us, []⟩) (ps.zip (us ++ ks)))
    (h1 : ∀ (kV doc pm : Value) (an : Option Addr) (cdv ct : Value) (us ws : List Value), us.length = n → ws.length = kws.length → bindArgs (PySem.W.fnOf x qual (defArgs st) (defBody st) (defScope st) .none kV doc pm an cdv ct) ⟨us, (kws.map (·.1)).zip ws⟩ = pure (ps.zip (us ++ ws)))
    (len : ∀ ds M Q E, asp ds M Q E → ds.length = ps.length)
    (body : ∀ (f : Addr) (cdv : Value) (Ar : Around) (outer : List Env) (s : Shared) (H : Hp) (E : XK) (ds : List D) (M : Mem) (Q : AQ) (EX : AXc), Room k (Ar.deeper (envOfC qual (defScope st) s.heap.objs.size f cdv)) → asp ds M Q EX →
      ∃ t, PSs (cxOf (HX P w) P w K mg base N qual (defScope st) f cdv Ar outer s H E) (defBody st) (conS K (fun cls d _ H => E cls d H) (fun C fs _ M => EX C fs M) t) ∧ t { nx := fun _ M' => Q .non M', rt := Q } (astart N ds) M) : CalD P w K mg base (HX P w) (k + 1) x n ps kws (conSp K asp) := by
  obtain ⟨f, fd, m, G⟩ := F
  refine ⟨f, fd, m, G.kp, G.binds0 n hk hn h0, ?_, G.ok S (conSp.len len) fun cdv Ar outer s H vs Q E hr ⟨ds, M, F0, B, BX, r, fr, h, l, lc⟩ => ?_⟩
  · obtain ⟨oc, od, dV, kV, doc, pm, an, cdv, ct, osl, rfl, lk, hcd, hD, hK⟩ := G.ex
    intro s us ws l1 l2
    rcases hD with ⟨_, rfl⟩ | ⟨e, _⟩
    · exact .of_eq (h1 kV doc pm an cdv ct us ws l1 l2)
    · exact absurd rfl e
  · obtain ⟨t, d, q⟩ := body f cdv Ar outer s H E ds M B BX hr h
    exact ⟨_, d, body_con (body := defBody st) (X := cxOf (HX P w) P w K mg base N qual (defScope st) f cdv Ar outer s H E) r fr (lnc_x lc) l q⟩
end
section
variable {X : Cx} {K : PySem.W.Frag} {W : WX} {A : AX} {F : Hp} {k n : Nat} {x : Str} {ps : List Str} {sp : Sp} {asp : ASp} {p pos kpos : Pos} {e d : Expr} {es : List Expr} {t tk : TA} {ta td : ATE} {ar : ATA} {kws : List (Str × V)} {nm : Str} {dv : V} {dd : D}
/-- f(..): the keyword-only ones by their defaults -/
theorem g_callD (c : CalD X.prog X.w X.K X.mg X.base (HX X.prog X.w) k x n ps kws sp) (hr : Room k X.A) (hg : Gl X x) (tk : L2N.Takes X W) (ha : PA X (e :: es) t) (hdb : (x == ("__debug__" : Str)) = false := by decide)
    (he : starEach (e :: es) X.env = (false, eval e X.env) :: starEach es X.env := by rfl) (hpl : (backTo pos (starEach es X.env)).any (·.1) = false := by rfl) : PE X (.Call (.Name x p) (e :: es) [] pos) (tCallSD sp (kws.map (·.2)) (WE W) t) := by
  obtain ⟨f, fd, m, kp, ⟨ds, hd, b⟩, _, F⟩ := c.ex
  exact pe_callSD F hr hg m kp b hd (fun σ => L2N.passAt tk σ) ha hdb he hpl
@[reducible] def aCallD (A : AX) (asp : ASp) (us : List D) (t : ATA) : ATE := fun xs M Q => t xs M fun ds M1 => asp (ds ++ us) M1 Q fun C fs M' => A C fs xs M'
theorem a_callD {us : List D} {vs : List V} (h : PE X e (tCallSD (conSp K asp) vs (WE W) (conA K W A ar))) (hv : ∀ F, RvL K F vs us) : PE X e (conE K W A (aCallD A asp us ar)) := h.to fun σ H Q ⟨xs, M, F, B, rs, fr, lx, h, l⟩ =>
  conA_step rs fr lx h fun ds M1 vs H1 F1 h1 s1 r1 f1 rs1 lx1 => ⟨ds ++ us, M1, F1, B, _, r1.append (hv F1), f1, h1, l.mono s1, fun C fs M2 H2 F2 dd a s f2 => lx1 C fs xs M2 σ H2 F2 dd a s (rs1.same s) f2⟩
theorem rvl_bl {b : Bool} (F : Hp) : RvL K F [.bl b] [.bl b] := .cons (.bl b) .nil
/-- f(.., k = v): all the keyword-only ones are written -/
theorem g_callDK {ks : List Keyword} (c : CalD X.prog X.w X.K X.mg X.base (HX X.prog X.w) k x n ps kws sp) (hr : Room k X.A) (hg : Gl X x) (tk' : L2N.Takes X W) (ha : PA X (e :: es) t) (hk : PK X ks tk) (hall : (backToKw pos (keywordEach ks X.env)).all (·.1.isSome) = true := by rfl) (hks : (backToKw pos (keywordEach ks X.env)).filterMap (·.1) = kws.map (·.1) := by rfl)
    (hdb : (x == ("__debug__" : Str)) = false := by decide) (he : starEach (e :: es) X.env = (false, eval e X.env) :: starEach es X.env := by rfl)
    (hpl : ((backTo pos (starEach (e :: es) X.env)).any (·.1) || (backToKw pos (keywordEach ks X.env)).any (·.1.isNone)) = false := by rfl) :
    PE X (.Call (.Name x p) (e :: es) ks pos) (fun σ H Q => t σ H fun vs H1 => tk σ H1 fun zs H2 => vs.length = n ∧ zs.length = kws.length ∧ sp (vs ++ zs) H2 Q (WE W σ)) := by
  obtain ⟨f, fd, m, kp, _, b, F⟩ := c.ex
  refine ⟨fun pins s σ H Q I h => ?_⟩
  refine wpAny_Call_Name_kw (ld_glob I hg m ?_ hdb)
  refine PySem.W.callWith_KW (h₀ := X.base) I.ok.mod.kin kp hall (thn (ha.run pos pins s σ H _ I h) fun us s1 ⟨vs, H1, I1, r, q⟩ => ?_) hpl he
  refine thn (hk.run pos pins s1 σ H1 _ I1 q) fun ws s2 ⟨zs, H2, I2, rz, l1, l2, q2⟩ => ⟨I2.kIn, ?_⟩
  rw [hks]
  have r2 := r.append rz
  refine wpAny_call (codeAny_mono (F.run X.A X.stack s2 H2 ⟨us, (kws.map (·.1)).zip ws⟩ (us ++ ws) (vs ++ zs) Q (WE W σ) hr I2.env0 (b s2 us ws (r.length.symm.trans l1) (rz.length.symm.trans l2)) r2 q2) fun rr s' hq => ?_)
  cases rr with
  | error e => exact (L2N.passAt tk' σ) pins H2 s2 e s' I2 hq
  | ok fl =>
    cases fl with
    | ret u => exact I2.after hq
    | next => exact False.elim hq
    | brk => exact False.elim hq
    | cont => exact False.elim hq
@[reducible] def aCallDK (A : AX) (asp : ASp) (n : Nat) (t : ATA) (td : ATE) : ATE := fun xs M Q => t xs M fun ds M1 => td xs M1 fun d M2 => ds.length = n ∧ asp (ds ++ [d]) M2 Q fun C fs M' => A C fs xs M'
theorem a_callDK {ex : Expr} {m : Nat} (h : PE X ex (fun σ H Q => conA K W A ar σ H fun vs H1 => tCons (conE K W A td) tNil σ H1 fun zs H2 => vs.length = n ∧ zs.length = m ∧ conSp K asp (vs ++ zs) H2 Q (WE W σ))) (hm : m = 1 := by rfl) : PE X ex (conE K W A (aCallDK A asp n ar td)) := h.to fun σ H Q ⟨xs, M, F, B, rs, fr, lx, h, l⟩ =>
  conA_step rs fr lx h fun ds M1 vs H1 F1 h1 s1 r1 f1 rs1 lx1 => con_step rs1 f1 lx1 h1 fun d M2 v H2 F2 ⟨hl, h2⟩ s2 r2 f2 rs2 lx2 =>
    ⟨r1.1.trans hl, hm.symm, ds ++ [d], M2, F2, B, _, (r1.same s2).append (.cons r2 .nil), f2, h2, l.mono (s1.trans s2), fun C fs M3 H3 F3 dd a s f3 => lx2 C fs xs M3 σ H3 F3 dd a s (rs2.same s) f3⟩
/-! ### a tuple's index -/
def ModTupI (K : PySem.W.Frag) (mg : Str → Option Value) (n : Str) (zs : List Str) : Prop := ∃ a o its m, mg n = some (.ref a) ∧ K.lookup a = some o ∧ o.cls = .type "tuple" ∧ o.dict = none ∧ o.data = .seq its m ∧ its.size ≤ sizeLine ∧ Vals (zs.map V.str) its.toList
@[reducible] def aTix (zs : List Str) (t : ATA) : ATE := fun xs M Q => t xs M fun ds M1 => ∃ (z : Str) (j : Nat), ds = [.str z] ∧ zs[j]? = some z ∧ (∀ m, m < j → zs[m]? ≠ some z) ∧ Q (.int (j : Nat)) M1
theorem a_tix {zs : List Str} {cpos apos npos : Pos} (hm : ModTupI X.K X.mg x zs) (hg : Gl X x)
    (h : ∀ {o : Expr} {to : TE}, PE X o to → attributeBase o "index" X.env (eval o X.env) = eval o X.env → PE X (.Call (.Attribute o "index" apos) (e :: es) [] cpos) (tBM X.K "tuple" (fun x xs H Q => ∃ p, ∃ ys : List Str, ∃ z j, x = .ref p ∧ xs = [.str z] ∧ SqT X.K H p (ys.map V.str) ∧ ys[j]? = some z ∧ (∀ m, m < j → ys[m]? ≠ some z) ∧ Q (.int (j : Nat)) H) to (conA K W A ar))) (hK : X.K = K := by rfl) (hdb : (x == ("__debug__" : Str)) = false := by decide) :
    PE X (.Call (.Attribute (.Name x npos) "index" apos) (e :: es) [] cpos) (conE K W A (aTix zs ar)) := by
  obtain ⟨a, o, its, m, hmg, lk, oc, od, ot, sz, vs⟩ := hm
  subst hK
  refine (h (pe_glob (v := .ref a) hg hmg rfl hdb) rfl).to fun σ H Q ⟨xs, M, F, B, rs, fr, lx, h, l⟩ => ?_
  refine ⟨.inr (.inl ⟨rfl, o, lk, oc, od⟩), conA_step rs fr lx h fun ds M1 us H1 F1 ⟨z, j, ed, hz, hno, q⟩ s1 r1 f1 _ _ => ?_⟩
  subst ed
  obtain ⟨v, vr, rfl, rv, rr⟩ := r1.inv
  obtain rfl := rr.inv_nil
  cases rv
  exact ⟨a, zs, z, j, rfl, rfl, .inr ⟨o, its, m, lk, oc, ot, sz, vs⟩, hz, hno, l _ _ _ _ _ q s1 (.int _) f1⟩
theorem modTupI_mk {K : PySem.W.Frag} {mg : Str → Option Value} {n : Str} {a : Addr} {its : Array Value} {m : Nat} {sl : Array (Option Value)} {zs : List Str} (h1 : mg n = some (.ref a)) (h2 : K.lookup a = some ⟨.type "tuple", none, .seq its m, sl⟩) (h5 : its.size ≤ sizeLine) (h6 : Vals (zs.map V.str) its.toList) : ModTupI K mg n zs :=
  ⟨a, _, its, m, h1, h2, rfl, rfl, rfl, h5, h6⟩
/-! ### xs.extend(t) of a tuple -/
def rExtT (K : PySem.W.Frag) : V → List V → Hp → VK → Prop := fun x vs H Q => ∃ l b xs zs, x = .ref l ∧ vs = [.ref b] ∧ H l = some (.lst xs) ∧ SqT K H b zs ∧ xs.length + zs.length ≤ sizeLine ∧ Q .non (upd H l (.lst (xs ++ zs)))
theorem mt_extT : MtM X "list.extend" (rExtT X.K) := by
  intro pins s σ H x vs v us Q I rx rv h
  obtain ⟨l, b, xs, zs, rfl, rfl, hH, hB, hz, q⟩ := h
  cases rx
  obtain ⟨u, rfl, ru⟩ := rv.one
  cases ru
  obtain ⟨z, its, n, r, hl, e⟩ := I.lstM hH
  obtain ⟨its2, r2, p2, hz2⟩ := I.tuple hB
  have hl2 := r2.length
  obtain ⟨⟨c, dct, dt, sl⟩, e2, hc, m, hd⟩ := p2
  replace hc : c = .type "tuple" := hc
  replace hd : dt = .seq its2.toArray m := hd
  subst hc hd
  have hsz : its.toArray.size + its2.toArray.size ≤ sizeLine := by rw [List.size_toArray, List.size_toArray]; omega
  have hlong : ¬ (!its.toArray.isEmpty && Builtin.List.listTooLong (its.toArray.size + its2.toArray.size)) = true := by
    rw [notLongL hsz, Bool.and_false]
    exact Bool.false_ne_true
  refine call_meets F.slot_list_extend ⟨_, e, rfl⟩ F.entry_list_extend (F.args_list_extend_2 _ _) (meets_extend_tupA l b its.toArray its2.toArray n m dct sl hlong (by rw [List.size_toArray]; omega) (by omega)) ⟨e, e2, ?_⟩
  refine ⟨.non, _, I.lset (its' := its ++ its2) hH e (by simp) (r.append r2) ?_, rfl, q⟩
  rw [List.length_append]
  omega
inductive aExtT : AM
  | mk {a : Addr} {xs ys : List D} {u : Ob → Mem} {M : Mem} {Q : AQ} : At M a (.lst xs) u → xs.length + ys.length ≤ sizeLine → Q .non (u (.lst (xs ++ ys))) → aExtT (.r a) [.tup ys] M Q
theorem o_extT : OpM K (rExtT K) aExtT := fun x xs v vs M F H B Q h r1 r f l => by
  cases h with
  | mk ha hl h =>
    cases r1
    obtain ⟨w, vr, rfl, r2, r3⟩ := r.inv
    obtain rfl := r3.inv_nil
    obtain ⟨us, e, q⟩ := f.at_ _ ha.mem
    obtain ⟨b, ws, rfl, s2, q2⟩ := r2.tup_at f
    exact ⟨_, b, us, ws, rfl, rfl, e, s2, by rw [q.1, q2.1]; exact hl, l.same h .non (f.put ha ⟨_, upd_same, q.append q2⟩)⟩
/-! ### max of a list -/
inductive aMaxL : AN
  | mk {y : D} {ns : List Int} {M : Mem} {Q : AQ} : Ls M y (ns.map D.int) → 0 < ns.length → (∀ m, m ∈ ns → (∀ y ∈ ns, y ≤ m) → Q (.int m) M) → aMaxL [y] M Q
theorem o_maxL (hc : X.calm = true) (hK : X.K = K := by rfl) : CallR X (.builtin "max") (rMax K) ∧ OpN K (rMax K) aMaxL := by
  subst hK
  refine ⟨cr_max hc, fun xs vs M F H B Q h r f l => ?_⟩
  cases h with
  | mk hs hl h =>
    obtain ⟨v, vr, rfl, r1, r2⟩ := r.inv
    obtain rfl := r2.inv_nil
    obtain ⟨a, us, rfl, s, q⟩ := hs.at_ r1 f
    rw [q.ints] at s
    exact ⟨a, _, rfl, s, hl, fun m h1 h2 => l.same (h m h1 h2) (.int _) f⟩
theorem max_default {prog : Program} {w : World} {A : Around} {E : Value → Shared → Prop} {s : Shared} {l : Addr} {its : List Value} {ns : List Int} {d : Value} {Q : Value → Shared → Prop} (hh : A.handled = none) (hl : s.heap.IsList l its.toArray) (hi : IntsAre its ns)
    (h0 : ns = [] → ∀ h' tk, (∀ b o, s.heap.get? b = some o → h'.get? b = some o) → Q d { s with heap := h', toks := tk })
    (h : ∀ h' tk M t', (∀ b o, s.heap.get? b = some o → h'.get? b = some o) → M ∈ ns → (∀ a, a ∈ ns → a ≤ M) → Q (.int M t') { s with heap := h', toks := tk }) : wpAny (model prog w) A (call (.builtin "max") [.ref l] [(Str.ofString "default", d)]) Q E s := by
  obtain ⟨xs, e⟩ := hi.allInts.items
  have hn : numsOf (intItems xs).toList = ns := by rw [← e]; exact hi.numsOf
  rw [nums_intItems] at hn
  subst hn
  rw [e] at hl
  refine call_max_walkD (PySem.W.iter_listW (A := A.in1) hh hl fun s₂ e W st hfp hw hk => ?_)
  refine ⟨_, _, _, _, _, _, _, s.heap, (fun i j => decide (numAt xs i > numAt xs j)), rfl, W, st, hfp, hw, hk, fun hz s' m => ?_, fun hp => ⟨fun i j vi vj s' Q E _ h1 h2 hq => CmpOf.ints_gt (numAt xs) (fun _ _ => intItems_at) i j vi vj s' Q E h1 h2 hq, fun v s' hP m => ?_⟩⟩
  · obtain ⟨h', tk, rfl, hk'⟩ := PySem.W.moved_old e rfl m
    refine h0 ?_ h' tk hk'
    have : xs = #[] := by simpa [intItems] using hz
    rw [this]
    rfl
  · obtain ⟨h', tk, rfl, hk'⟩ := PySem.W.moved_old e rfl m
    obtain ⟨t, rfl⟩ := intItems_at hP
    have hsz : 0 < xs.size := by simpa [intItems] using hp
    have ez : (intItems xs).size = xs.size := by simp [intItems]
    rw [ez] at hP ⊢
    obtain ⟨h1, h2⟩ := argBest_gt (numAt xs) (xs.size - 1)
    refine h h' tk _ t hk' ?_ fun a ha => ?_
    · rw [numAt_eq]; exact PySem.getD_mem (by rw [List.length_map, Array.length_toList]; omega)
    · obtain ⟨j, hj, rfl⟩ := mem_getD ha
      rw [List.length_map, Array.length_toList] at hj
      rw [← numAt_eq]; exact h2 j (by omega)
def rMaxDf (K : PySem.W.Frag) : List V → List V → Hp → VK → Prop := fun vs zs H Q => ∃ (a : Addr) (ns : List Int) (i : Int), vs = [V.ref a] ∧ zs = [.int i] ∧ SqL K H a (ns.map V.int) ∧ (ns = [] → Q (.int i) H) ∧ ∀ m, m ∈ ns → (∀ y ∈ ns, y ≤ m) → Q (.int m) H
theorem cr_maxDf (hc : X.calm = true) : CallRK X (.builtin "max") [Str.ofString "default"] (rMaxDf X.K) := by
  intro pins s σ H vs zs us ws Q I r rz h
  obtain ⟨a, ns, i, rfl, rfl, hs, h0, h1⟩ := h
  obtain ⟨its, rv, hl, _⟩ := I.list hs
  rw [Vals.ref1 r]
  obtain ⟨w1, rfl, t, rfl⟩ := vals1 rz
  exact max_default (I.ok.hd hc) hl.isList rv.ints (fun e h' tk hk => ⟨.int i, H, I.kept hk, ⟨_, rfl⟩, h0 e⟩) fun h' tk m t' hk g1 g2 => ⟨.int _, H, I.kept hk, ⟨_, rfl⟩, h1 m g1 g2⟩
@[reducible] def aMaxDf (t : ATA) (td : ATE) : ATE := fun xs M Q => t xs M fun ds M1 => td xs M1 fun d M2 => ∃ (y : D) (ns : List Int) (i : Int), ds = [y] ∧ d = .int i ∧ Ls M2 y (ns.map D.int) ∧ (ns = [] → Q (.int i) M2) ∧ ∀ m, m ∈ ns → (∀ y ∈ ns, y ≤ m) → Q (.int m) M2
theorem a_maxDf {ex : Expr} (h : PE X ex (tCKw (rMaxDf X.K) (conA K W A ar) (tCons (conE K W A td) tNil))) (hK : X.K = K := by rfl) : PE X ex (conE K W A (aMaxDf ar td)) := by
  subst hK
  exact h.to fun σ H Q ⟨xs, M, F, B, rs, fr, lx, h, l⟩ => conA_step rs fr lx h fun ds M1 vs H1 F1 h1 s1 r1 f1 rs1 lx1 => con_step rs1 f1 lx1 h1 fun d M2 v H2 F2 ⟨y, ns, i, e1, e2, hs, h0, h2⟩ s2 r2 f2 _ _ => by
    subst e1 e2
    obtain ⟨v1, vr, rfl, r3, r4⟩ := r1.inv
    obtain rfl := r4.inv_nil
    cases r2
    obtain ⟨a, us, rfl, s, q⟩ := hs.at_ (r3.same s2) f2
    rw [q.ints] at s
    exact ⟨a, ns, i, rfl, rfl, s, fun e => l _ _ _ _ _ (h0 e) (s1.trans s2) (.int _) f2, fun m g1 g2 => l _ _ _ _ _ (h2 m g1 g2) (s1.trans s2) (.int _) f2⟩
end
end AV

set_option Elab.async false
set_option linter.all false
set_option maxRecDepth 100000
set_option maxHeartbeats 4000000
/-! A19: str of a text, split into a list to be written (own work). -/
namespace AV
open PySem PySem.Spec PyProof.Rows L2 G TL
section
variable {X : Cx} {K : PySem.W.Frag}
def gStrB : List V → Hp → VK → Prop := fun xs H Q => (∃ i : Int, xs = [.int i] ∧ i.natAbs.log2 < 1920 ∧ Q (.str (toString i)) H) ∨ (∃ a, xs = [.str a] ∧ Q (.str a) H)
inductive aStrB : AN
  | int {i : Int} {M : Mem} {Q : AQ} : i.natAbs.log2 < 1920 → Q (.str (toString i)) M → aStrB [.int i] M Q
  | str {z : Str} {M : Mem} {Q : AQ} : Q (.str z) M → aStrB [.str z] M Q
theorem o_strB : CallR X (.type "str") gStrB ∧ OpN K gStrB aStrB := ⟨call_str_int.or SkE.call_str_str, fun xs vs M F H B Q h r f l => by
  cases h with
  | int hi h =>
    obtain ⟨v, vr, rfl, r1, r2⟩ := r.inv
    obtain rfl := r2.inv_nil
    cases r1
    exact .inl ⟨_, rfl, hi, l.same h (.str _) f⟩
  | str h =>
    obtain ⟨v, vr, rfl, r1, r2⟩ := r.inv
    obtain rfl := r2.inv_nil
    cases r1
    exact .inr ⟨_, rfl, l.same h (.str _) f⟩⟩
inductive aSplitO : AM
  | d {a b : Str} {M : Mem} {Q : AQ} : (b.length == 0) = false → a.length + 2 ≤ sizeLine → (∀ p, Q (.r p) ((p, .lst ((Txt.split a b).map D.str)) :: M)) → aSplitO (.str a) [.str b] M Q
theorem o_splitO : OpM K gSplit aSplitO := fun x xs v vs M F H B Q h r1 r f l => by
  cases h with
  | d hb hl h =>
    cases r1
    obtain ⟨w, vr, rfl, r2, r3⟩ := r.inv
    obtain rfl := r3.inv_nil
    cases r2
    exact ⟨_, _, rfl, rfl, hb, hl, NewL.run (.inr h) (rvl_strs _) f l⟩
end
end AV

local macro_rules | `(tactic| walk_at "kit") => `(tactic| with_reducible first | exact G.kit_N_tuple | exact G.kit_N_list | exact G.kit_N_bool | exact G.kit_N_int | exact G.kit_N_str | exact G.kit_B_tuple | exact G.kit_B_list | exact G.kit_B_bool | exact G.kit_B_int | exact G.kit_B_str | exact G.kit_I_tuple | exact G.kit_I_list | exact G.kit_I_bool | exact G.kit_I_int | exact G.kit_I_str | exact G.kit_S_tuple | exact G.kit_S_list | exact G.kit_S_bool | exact G.kit_S_int | exact G.kit_S_str | exact G.kit_L_tuple | exact G.kit_L_list | exact G.kit_L_bool | exact G.kit_L_int | exact G.kit_L_str | exact G.kit_T_tuple | exact G.kit_T_list | exact G.kit_T_bool | exact G.kit_T_int | exact G.kit_T_str)
local macro_rules | `(tactic| walk_at "at") => `(tactic| with_reducible first | exact AV.At.hd | assumption | exact AV.At.put (by assumption) | (refine' AV.At.tl ?k6; (case k6 => walk_at "at")))
local macro_rules | `(tactic| walk_at "rem") => `(tactic| with_reducible first | exact AV.Rem.hd | assumption | (refine' AV.Rem.tl ?k6; (case k6 => walk_at "rem")))
local macro_rules | `(tactic| walk_at "sq") => `(tactic| with_reducible first | exact AV.Sq.d | exact AV.Sq.t | exact AV.Sq.s | assumption | (refine' AV.Sq.o ?k7; (case k7 => walk_at "at")))
local macro_rules | `(tactic| walk_at "ls") => `(tactic| with_reducible first | exact AV.Ls.d | exact AV.Ls.s | assumption | (refine' AV.Ls.o ?k7; (case k7 => walk_at "at")))
local macro_rules | `(tactic| walk_at "ins") => `(tactic| with_reducible first | exact AV.InsAt.d | assumption | (refine' AV.InsAt.o ?k7; (case k7 => walk_at "at")))
local macro_rules | `(tactic| walk_at "lk") => `(tactic| first | with_reducible exact AV.lk_hd | with_reducible exact AV.lk_nil | ((with_reducible refine' AV.lk_tl ?k4 ?k5); (case k4 => decide); (case k5 => walk_at "lk")))
local macro_rules | `(tactic| walk_at "putr") => `(tactic| first | with_reducible exact AV.PutR.hd | with_reducible exact AV.PutR.nil | ((with_reducible refine' AV.PutR.tl ?k4 ?k5); (case k4 => decide); (case k5 => walk_at "putr")))
local macro_rules | `(tactic| walk_at "kd") => `(tactic| with_reducible first | exact AV.Kd.non | exact AV.Kd.bl | exact AV.Kd.int | exact AV.Kd.str | exact AV.Kd.tup | exact AV.Kd.lst | (refine' AV.Kd.o ?k7; (case k7 => walk_at "at")))
local macro_rules | `(tactic| walk_at "sz") => `(tactic| first | assumption | decide | omega | (simp only [G.line_val, G.slen_app, G.slen_one, List.length_cons, List.length_nil, List.length_append, List.length_map, List.length_set, List.length_reverse] <;> first | decide | omega))
local macro_rules | `(tactic| walk_at "fact") => `(tactic| first | assumption | omega | decide)
local macro_rules | `(tactic| walk_at "wh") => `(tactic| with_reducible conv => whnf)
local macro_rules | `(tactic| walk_at "st") => `(tactic| (dsimp only [AV.astart, List.set_cons_succ, List.set_cons_zero, List.map, List.replicate, List.length, Nat.reduceSub, Nat.reduceAdd, List.cons_append, List.nil_append, List.append_nil]))
local macro_rules | `(tactic| walk_at "a1") => `(tactic| first
  | ((with_reducible refine' AV.x_var ?k1 ?_); (case k1 => rfl))
  | walk_at "av"
  | ((with_reducible refine AV.Nx.of ?_); (try walk_at "st"))
  | with_reducible refine AV.NxV.of ?_
  | walk_at "i1"
  | with_reducible refine AV.s_exbl ?_
  | with_reducible refine AV.s_exint ?_
  | ((with_reducible refine' AV.s_isKL ?k1 ?_); (case k1 => walk_at "at"))
  | with_reducible refine AV.s_isKD ?_
  | with_reducible refine AV.s_isKS ?_
  | ((with_reducible refine' AV.s_size ?k1 ?_); (case k1 => walk_at "sz"))
  | ((with_reducible refine' AV.s_fldex ?k1 ?k2 ?k3 ?k4 ?_); (case k1 => walk_at "ins"); (case k2 => first | assumption | walk_at "cls"); (case k3 => first | assumption | walk_at "cls"); (case k4 => walk_at "lk"))
  | ((with_reducible refine' AV.s_fldSex ?k1 ?k2 ?k3 ?k4 ?k5 ?_); (case k1 => walk_at "at"); (case k2 => first | assumption | walk_at "cls"); (case k3 => first | assumption | walk_at "cls"); (case k4 => walk_at "sz"); (case k5 => walk_at "putr"))
  | ((with_reducible refine' AV.s_fldAex1 ?k1 ?k2 ?k3 ?k4 ?_); (case k1 => walk_at "ins"); (case k2 => first | assumption | walk_at "cls"); (case k3 => first | assumption | walk_at "cls"); (case k4 => walk_at "lk"))
  | ((with_reducible refine' AV.s_fldAex2 ?k1 ?k4 ?k5 ?_); (case k1 => walk_at "at"); (case k4 => walk_at "sz"); (case k5 => walk_at "putr"))
  | ((with_reducible refine' AV.s_insex ?k1 ?k2 ?_); (case k1 => walk_at "ins"); (case k2 => walk_at "lk"))
  | ((with_reducible refine' AV.x_aug ?k1 ?_); (case k1 => rfl))
  | with_reducible refine AV.s_tbl ?_
  | with_reducible refine AV.s_tnon ?_
  | with_reducible refine AV.s_tint ?_
  | ((with_reducible refine' AV.s_tstr ?k1 ?_); (case k1 => walk_at "sz"))
  | with_reducible refine AV.s_tlst ?_
  | with_reducible refine AV.s_ttup ?_
  | ((with_reducible refine' AV.s_to ?k1 ?_); (case k1 => walk_at "at"))
  | with_reducible refine AV.s_itl ?_
  | with_reducible refine AV.s_itt ?_
  | with_reducible refine AV.s_its ?_
  | with_reducible refine AV.s_itc ?_
  | ((with_reducible refine' AV.s_r1x ?k1 ?_); (case k1 => first | assumption | omega | (simp only [List.length_map]; omega)))
  | ((with_reducible refine' AV.s_r2x ?k1 ?_); (case k1 => first | assumption | omega | (simp only [List.length_map]; omega)))
  | with_reducible refine AV.s_zipL ?_
  | with_reducible refine AV.s_zipT ?_
  | ((with_reducible refine' AV.s_raiseX ?k1 ?_); (case k1 => first | assumption | exact G.log_ok (by omega) (by omega)))
  | with_reducible refine AV.s_jnil ?_
  | with_reducible refine AV.s_jcons ?_
  | ((with_reducible refine' AV.s_jx ?k1 ?_); (case k1 => walk_at "sz"))
  | ((with_reducible refine' AV.s_fmtI ?k1 ?_); (case k1 => first | assumption | exact G.log_ok (by omega) (by omega)))
  | ((with_reducible refine' AV.s_fmtS ?k1 ?_); (case k1 => walk_at "sz"))
  | ((with_reducible refine' AV.x_gtup ?k1 ?_); (case k1 => rfl))
  | with_reducible refine AV.x_gcons ?_
  | with_reducible refine AV.x_gnil ?_
  | ((with_reducible refine' AV.s_set ?k1 ?k2 ?_); (case k1 => walk_at "at"); (case k2 => first | rfl | assumption)))
local macro_rules | `(tactic| walk_at "a0") => `(tactic| first
  | ((with_reducible refine' AV.x_var ?k1 ?_); (case k1 => rfl))
  | walk_at "av"
  | walk_at "i1"
  | with_reducible refine AV.s_exbl ?_
  | with_reducible refine AV.s_exint ?_
  | ((with_reducible refine' AV.s_isKL ?k1 ?_); (case k1 => walk_at "at"))
  | with_reducible refine AV.s_isKD ?_
  | with_reducible refine AV.s_isKS ?_
  | ((with_reducible refine' AV.s_size ?k1 ?_); (case k1 => walk_at "sz"))
  | ((with_reducible refine' AV.s_fldex ?k1 ?k2 ?k3 ?k4 ?_); (case k1 => walk_at "ins"); (case k2 => first | assumption | walk_at "cls"); (case k3 => first | assumption | walk_at "cls"); (case k4 => walk_at "lk"))
  | ((with_reducible refine' AV.s_fldSex ?k1 ?k2 ?k3 ?k4 ?k5 ?_); (case k1 => walk_at "at"); (case k2 => first | assumption | walk_at "cls"); (case k3 => first | assumption | walk_at "cls"); (case k4 => walk_at "sz"); (case k5 => walk_at "putr"))
  | ((with_reducible refine' AV.s_fldAex1 ?k1 ?k2 ?k3 ?k4 ?_); (case k1 => walk_at "ins"); (case k2 => first | assumption | walk_at "cls"); (case k3 => first | assumption | walk_at "cls"); (case k4 => walk_at "lk"))
  | ((with_reducible refine' AV.s_fldAex2 ?k1 ?k4 ?k5 ?_); (case k1 => walk_at "at"); (case k4 => walk_at "sz"); (case k5 => walk_at "putr"))
  | ((with_reducible refine' AV.s_insex ?k1 ?k2 ?_); (case k1 => walk_at "ins"); (case k2 => walk_at "lk"))
  | ((with_reducible refine' AV.x_aug ?k1 ?_); (case k1 => rfl))
  | with_reducible refine AV.s_tbl ?_
  | with_reducible refine AV.s_tnon ?_
  | with_reducible refine AV.s_tint ?_
  | ((with_reducible refine' AV.s_tstr ?k1 ?_); (case k1 => walk_at "sz"))
  | with_reducible refine AV.s_tlst ?_
  | with_reducible refine AV.s_ttup ?_
  | ((with_reducible refine' AV.s_to ?k1 ?_); (case k1 => walk_at "at"))
  | with_reducible refine AV.s_itl ?_
  | with_reducible refine AV.s_itt ?_
  | with_reducible refine AV.s_its ?_
  | with_reducible refine AV.s_itc ?_
  | ((with_reducible refine' AV.s_r1x ?k1 ?_); (case k1 => first | assumption | omega | (simp only [List.length_map]; omega)))
  | ((with_reducible refine' AV.s_r2x ?k1 ?_); (case k1 => first | assumption | omega | (simp only [List.length_map]; omega)))
  | with_reducible refine AV.s_zipL ?_
  | with_reducible refine AV.s_zipT ?_
  | ((with_reducible refine' AV.s_raiseX ?k1 ?_); (case k1 => first | assumption | exact G.log_ok (by omega) (by omega)))
  | with_reducible refine AV.s_jnil ?_
  | with_reducible refine AV.s_jcons ?_
  | ((with_reducible refine' AV.s_jx ?k1 ?_); (case k1 => walk_at "sz"))
  | ((with_reducible refine' AV.s_fmtI ?k1 ?_); (case k1 => first | assumption | exact G.log_ok (by omega) (by omega)))
  | ((with_reducible refine' AV.s_fmtS ?k1 ?_); (case k1 => walk_at "sz"))
  | ((with_reducible refine' AV.x_gtup ?k1 ?_); (case k1 => rfl))
  | with_reducible refine AV.x_gcons ?_
  | with_reducible refine AV.x_gnil ?_
  | ((with_reducible refine' AV.s_set ?k1 ?k2 ?_); (case k1 => walk_at "at"); (case k2 => first | rfl | assumption)))
local macro_rules | `(tactic| walk_at "av") => `(tactic| first
  | ((with_reducible refine' AV.aIx.seq ?k1 ?k2 ?_); (case k1 => walk_at "sq"); (case k2 => first | rfl | assumption))
  | ((with_reducible refine' AV.v_i2 ?k1 ?_); (case k1 => first | exact trivial | decide | omega | exact Or.inr (by decide) | exact Or.inl (by decide) | exact ⟨by decide, by decide⟩ | exact ⟨by omega, by omega⟩ | exact ⟨by decide, by decide, by decide⟩ | (unfold L2.CMul; omega)))
  | with_reducible refine AV.aAdd.int ?_
  | with_reducible refine AV.aEq.int ?_
  | with_reducible refine AV.aEq.str ?_
  | with_reducible refine AV.aEq.bl ?_
  | with_reducible refine AV.aEq.nn ?_
  | with_reducible refine AV.aEq.ni ?_
  | with_reducible refine AV.aEq.in_ ?_
  | with_reducible refine AV.aEq.is_ ?_
  | with_reducible refine AV.aEq.si ?_
  | with_reducible refine AV.aNe.int ?_
  | with_reducible refine AV.aNe.str ?_
  | with_reducible refine AV.aNe.bl ?_
  | with_reducible refine AV.aNe.nn ?_
  | with_reducible refine AV.aNe.ni ?_
  | with_reducible refine AV.aNe.in_ ?_
  | with_reducible refine AV.aIs.nn ?_
  | with_reducible refine AV.aIs.int ?_
  | with_reducible refine AV.aIs.str ?_
  | with_reducible refine AV.aIs.bl ?_
  | with_reducible refine AV.aIs.r ?_
  | with_reducible refine AV.aIs.tup ?_
  | with_reducible refine AV.aIs.lst ?_
  | with_reducible refine AV.aIs.ins ?_
  | with_reducible refine AV.v_isnot ?_
  | with_reducible refine AV.v_notin ?_
  | with_reducible refine AV.v_neg ?_
  | ((with_reducible refine' AV.aLen.seq ?k1 ?_); (case k1 => walk_at "sq"))
  | ((with_reducible refine' AV.aLen.str ?k1 ?_); (case k1 => walk_at "sz"))
  | ((with_reducible refine' AV.aIsi.kd ?k1 ?k2 ?_); (case k1 => walk_at "kd"); (case k2 => walk_at "kit"))
  | ((with_reducible refine' AV.aIsi.own ?k1 ?k2 ?_); (case k1 => walk_at "ins"); (case k2 => first | assumption | walk_at "cls"))
  | with_reducible refine AV.aMin.mk ?_
  | with_reducible refine AV.aMax.mk ?_
  | with_reducible refine AV.aIntC.int ?_
  | with_reducible refine AV.aIntC.bl ?_
  | ((with_reducible refine' AV.aIntC.str ?k1 ?k2 ?_); (case k1 => assumption); (case k2 => walk_at "sz"))
  | ((with_reducible refine' AV.aStrC.int ?k1 ?_); (case k1 => first | assumption | exact G.log_ok (by omega) (by omega)))
  | ((with_reducible refine' AV.aListC.d ?k1 ?_); (case k1 => walk_at "sq"))
  | ((with_reducible refine' AV.aListO.mk ?k1 ?_); (case k1 => walk_at "sq"))
  | ((with_reducible refine' AV.aTupC.mk ?k1 ?_); (case k1 => walk_at "sq"))
  | ((with_reducible refine' AV.aApp.mk ?k1 ?k2 ?_); (case k1 => walk_at "at"); (case k2 => walk_at "sz"))
  | ((with_reducible refine' AV.aPop.mk ?k1 ?k2 ?_); (case k1 => walk_at "at"); (case k2 => first | rfl | assumption))
  | with_reducible refine AV.aStarts.mk ?_
  | ((with_reducible refine' AV.aAdd.str ?k1 ?_); (case k1 => walk_at "sz"))
  | ((with_reducible refine' AV.aAdd.lst ?k1 ?k2 ?k3 ?_); (case k1 => walk_at "ls"); (case k2 => walk_at "ls"); (case k3 => walk_at "sz"))
  | ((with_reducible refine' AV.aAddO.mk ?k1 ?k2 ?k3 ?_); (case k1 => walk_at "ls"); (case k2 => walk_at "ls"); (case k3 => walk_at "sz"))
  | ((with_reducible refine' AV.aAdd.tup ?k1 ?_); (case k1 => walk_at "sz"))
  | ((with_reducible refine' AV.aCutR.lst ?k1 ?_); (case k1 => walk_at "ls"))
  | ((with_reducible refine' AV.aCutO.mk ?k1 ?_); (case k1 => walk_at "ls"))
  | with_reducible refine AV.aCutR.tup ?_
  | ((with_reducible refine' AV.aCutR.str ?k1 ?_); (case k1 => walk_at "sz"))
  | with_reducible refine AV.aIn.sign ?_
  | ((with_reducible refine' AV.aIx.str ?k1 ?k2 ?_); (case k1 => walk_at "sz"); (case k2 => first | rfl | assumption))
  | ((with_reducible refine' AV.v_rev ?k1 ?_); (case k1 => walk_at "ls"))
  | ((with_reducible refine' AV.aSplit.d ?k1 ?k2 ?_); (case k1 => rfl); (case k2 => walk_at "sz")))
local macro_rules | `(tactic| walk_at "i1") => `(tactic| first
  | with_reducible refine G.i_t ?_
  | with_reducible refine G.i_f ?_
  | with_reducible refine G.i_nt ?_
  | with_reducible refine G.i_nf ?_
  | with_reducible refine G.i_nn ?_
  | ((with_reducible refine' G.i_dt ?k1 ?_); (case k1 => walk_at "fact"))
  | ((with_reducible refine' G.i_df ?k1 ?_); (case k1 => walk_at "fact"))
  | ((with_reducible refine' G.i_ndt ?k1 ?_); (case k1 => walk_at "fact"))
  | ((with_reducible refine' G.i_ndf ?k1 ?_); (case k1 => walk_at "fact")))
local macro_rules | `(tactic| walk_at "rd") => `(tactic| (walk_at "wh"; repeat (walk_at "a1"; walk_at "wh")))
local macro_rules | `(tactic| walk_at "fzs") => `(tactic| with_reducible first | exact AV.SbS.nil | (refine' AV.SbS.hit ?k6; (case k6 => walk_at "fzs")) | (refine' AV.SbS.same ?k6; (case k6 => walk_at "fzs")))
local macro_rules | `(tactic| walk_at "fz0") => `(tactic| (refine' AV.Nx.fz (AV.Fz.lst AV.Rem.hd ?k1 AV.SbM.rest) ?_; (case k1 => walk_at "fzs")))
local macro_rules | `(tactic| walk_at "fz1") => `(tactic| (refine' AV.Nx.fz (AV.Fz.lst (AV.Rem.tl AV.Rem.hd) ?k1 AV.SbM.rest) ?_; (case k1 => walk_at "fzs")))
local macro_rules | `(tactic| walk_at "drop0") => `(tactic| refine' AV.Nx.fz (AV.Fz.drop AV.Rem.hd) ?_)
local macro_rules | `(tactic| walk_at "drop1") => `(tactic| refine' AV.Nx.fz (AV.Fz.drop (AV.Rem.tl AV.Rem.hd)) ?_)
local macro_rules | `(tactic| walk_at "r0") => `(tactic| (walk_at "wh"; repeat (walk_at "a0"; walk_at "wh")))
local macro_rules | `(tactic| walk_at "dr") => `(tactic| (refine' ⟨_, _, _, _, rfl, ?k1, ?k2, ?_⟩; (case k1 => walk_at "at"); (case k2 => first | decide | omega)))

namespace L
open PySem L2 G TL AV

def top (i : Nat) : Stmt := PySem.Challenge.pw_blameless_k08_whole_texts_are_read_exact.main.body.getD i (.Pass ⟨0, 0, 0, 0⟩)
abbrev s_BadText_init : Stmt := inClass (top 2) 0
theorem sc_BadText_init : FnScope ["self", "at"] ["self", "at"] (defScope s_BadText_init) := ⟨rfl, rfl, rfl, by decide +kernel, rfl, by decide +kernel, by decide +kernel⟩
abbrev s_split_words : Stmt := top 8
theorem sc_split_words : FnScope ["text"] ["text"] (defScope s_split_words) := ⟨rfl, rfl, rfl, by decide +kernel, rfl, by decide +kernel, by decide +kernel⟩
abbrev s_number_of : Stmt := top 9
theorem sc_number_of : FnScope ["word", "number"] ["word"] (defScope s_number_of) := ⟨rfl, rfl, rfl, by decide +kernel, rfl, by decide +kernel, by decide +kernel⟩
abbrev s_is_digits : Stmt := top 10
theorem sc_is_digits : FnScope ["word", "letter"] ["word"] (defScope s_is_digits) := ⟨rfl, rfl, rfl, by decide +kernel, rfl, by decide +kernel, by decide +kernel⟩
abbrev s_Component_init : Stmt := inClass (top 19) 0
theorem sc_Component_init : FnScope ["self", "room", "buffers", "procedures"] ["self", "room", "buffers", "procedures"] (defScope s_Component_init) := ⟨rfl, rfl, rfl, by decide +kernel, rfl, by decide +kernel, by decide +kernel⟩
abbrev s_Component_eq : Stmt := inClass (top 19) 1
theorem sc_Component_eq : FnScope ["self", "other"] ["self", "other"] (defScope s_Component_eq) := ⟨rfl, rfl, rfl, by decide +kernel, rfl, by decide +kernel, by decide +kernel⟩
abbrev s_frozen : Stmt := top 20
theorem sc_frozen : FnScope ["part", "inner"] ["part"] (defScope s_frozen) := ⟨rfl, rfl, rfl, by decide +kernel, rfl, by decide +kernel, by decide +kernel⟩
abbrev s_read_component : Stmt := top 21
theorem sc_read_component : FnScope ["text", "imports", "reader", "component"] ["text", "imports"] (defScope s_read_component) := ⟨rfl, rfl, rfl, by decide +kernel, rfl, by decide +kernel, by decide +kernel⟩
abbrev s_Reader_init : Stmt := inClass (top 22) 0
theorem sc_Reader_init : FnScope ["self", "words", "import_count"] ["self", "words", "import_count"] (defScope s_Reader_init) := ⟨rfl, rfl, rfl, by decide +kernel, rfl, by decide +kernel, by decide +kernel⟩
abbrev s_Reader_next_word : Stmt := inClass (top 22) 1
theorem sc_Reader_next_word : FnScope ["self"] ["self"] (defScope s_Reader_next_word) := ⟨rfl, rfl, rfl, by decide +kernel, rfl, by decide +kernel, by decide +kernel⟩
abbrev s_Reader_take_exactly : Stmt := inClass (top 22) 2
theorem sc_Reader_take_exactly : FnScope ["self", "word"] ["self", "word"] (defScope s_Reader_take_exactly) := ⟨rfl, rfl, rfl, by decide +kernel, rfl, by decide +kernel, by decide +kernel⟩
abbrev s_Reader_take_number : Stmt := inClass (top 22) 3
theorem sc_Reader_take_number : FnScope ["self", "least", "most", "number"] ["self", "least", "most"] (defScope s_Reader_take_number) := ⟨rfl, rfl, rfl, by decide +kernel, rfl, by decide +kernel, by decide +kernel⟩
abbrev s_Reader_take_name : Stmt := inClass (top 22) 4
theorem sc_Reader_take_name : FnScope ["self", "letter", "many", "word", "number"] ["self", "letter", "many"] (defScope s_Reader_take_name) := ⟨rfl, rfl, rfl, by decide +kernel, rfl, by decide +kernel, by decide +kernel⟩
abbrev s_Reader_take_local : Stmt := inClass (top 22) 5
theorem sc_Reader_take_local : FnScope ["self"] ["self"] (defScope s_Reader_take_local) := ⟨rfl, rfl, rfl, by decide +kernel, rfl, by decide +kernel, by decide +kernel⟩
abbrev s_Reader_take_component : Stmt := inClass (top 22) 6
theorem sc_Reader_take_component : FnScope ["self", "room", "buffers", "procedures", "_"] ["self"] (defScope s_Reader_take_component) := ⟨rfl, rfl, rfl, by decide +kernel, rfl, by decide +kernel, by decide +kernel⟩
abbrev s_Reader_take_buffers : Stmt := inClass (top 22) 7
theorem sc_Reader_take_buffers : FnScope ["self", "buffers"] ["self"] (defScope s_Reader_take_buffers) := ⟨rfl, rfl, rfl, by decide +kernel, rfl, by decide +kernel, by decide +kernel⟩
abbrev s_Reader_take_buffer : Stmt := inClass (top 22) 8
theorem sc_Reader_take_buffer : FnScope ["self", "first_words", "_"] ["self"] (defScope s_Reader_take_buffer) := ⟨rfl, rfl, rfl, by decide +kernel, rfl, by decide +kernel, by decide +kernel⟩
abbrev s_Reader_take_procedure : Stmt := inClass (top 22) 9
theorem sc_Reader_take_procedure : FnScope ["self", "block"] ["self"] (defScope s_Reader_take_procedure) := ⟨rfl, rfl, rfl, by decide +kernel, rfl, by decide +kernel, by decide +kernel⟩
abbrev s_Reader_take_block : Stmt := inClass (top 22) 10
theorem sc_Reader_take_block : FnScope ["self", "depth", "statements"] ["self", "depth"] (defScope s_Reader_take_block) := ⟨rfl, rfl, rfl, by decide +kernel, rfl, by decide +kernel, by decide +kernel⟩
abbrev s_Reader_statement_fits : Stmt := inClass (top 22) 11
theorem sc_Reader_statement_fits : FnScope ["self", "word", "depth"] ["self", "word", "depth"] (defScope s_Reader_statement_fits) := ⟨rfl, rfl, rfl, by decide +kernel, rfl, by decide +kernel, by decide +kernel⟩
abbrev s_Reader_take_statement : Stmt := inClass (top 22) 12
theorem sc_Reader_take_statement : FnScope ["self", "depth", "word", "buffer"] ["self", "depth"] (defScope s_Reader_take_statement) := ⟨rfl, rfl, rfl, by decide +kernel, rfl, by decide +kernel, by decide +kernel⟩
abbrev s_Reader_take_call : Stmt := inClass (top 22) 13
theorem sc_Reader_take_call : FnScope ["self", "word", "letter", "many", "local", "number"] ["self", "word", "letter", "many"] (defScope s_Reader_take_call) := ⟨rfl, rfl, rfl, by decide +kernel, rfl, by decide +kernel, by decide +kernel⟩
abbrev s_Reader_take_if : Stmt := inClass (top 22) 14
theorem sc_Reader_take_if : FnScope ["self", "depth", "test", "chosen", "otherwise"] ["self", "depth"] (defScope s_Reader_take_if) := ⟨rfl, rfl, rfl, by decide +kernel, rfl, by decide +kernel, by decide +kernel⟩
abbrev s_Reader_take_while : Stmt := inClass (top 22) 15
theorem sc_Reader_take_while : FnScope ["self", "depth", "test", "repeated"] ["self", "depth"] (defScope s_Reader_take_while) := ⟨rfl, rfl, rfl, by decide +kernel, rfl, by decide +kernel, by decide +kernel⟩
abbrev s_Reader_take_expression : Stmt := inClass (top 22) 16
theorem sc_Reader_take_expression : FnScope ["self", "depth", "word"] ["self", "depth"] (defScope s_Reader_take_expression) := ⟨rfl, rfl, rfl, by decide +kernel, rfl, by decide +kernel, by decide +kernel⟩
abbrev s_component_text : Stmt := top 24
theorem sc_component_text : FnScope ["component", "words", "buffer", "word", "local_count", "block"] ["component"] (defScope s_component_text) := ⟨rfl, rfl, rfl, by decide +kernel, rfl, by decide +kernel, by decide +kernel⟩
abbrev s_block_words : Stmt := top 25
theorem sc_block_words : FnScope ["block", "words", "statement"] ["block"] (defScope s_block_words) := ⟨rfl, rfl, rfl, by decide +kernel, rfl, by decide +kernel, by decide +kernel⟩
abbrev s_statement_words : Stmt := top 26
theorem sc_statement_words : FnScope ["statement", "word"] ["statement"] (defScope s_statement_words) := ⟨rfl, rfl, rfl, by decide +kernel, rfl, by decide +kernel, by decide +kernel⟩
abbrev s_if_words : Stmt := top 27
theorem sc_if_words : FnScope ["statement", "words"] ["statement"] (defScope s_if_words) := ⟨rfl, rfl, rfl, by decide +kernel, rfl, by decide +kernel, by decide +kernel⟩
abbrev s_expression_words : Stmt := top 28
theorem sc_expression_words : FnScope ["expression", "word"] ["expression"] (defScope s_expression_words) := ⟨rfl, rfl, rfl, by decide +kernel, rfl, by decide +kernel, by decide +kernel⟩
abbrev s_l_pool : Stmt := top 30
theorem sc_l_pool : FnScope ["script", "budget"] ["script", "budget"] (defScope s_l_pool) := ⟨rfl, rfl, rfl, by decide +kernel, rfl, by decide +kernel, by decide +kernel⟩
abbrev s_l_draw : Stmt := top 31
theorem sc_l_draw : FnScope ["pool", "size", "cell", "value"] ["pool", "size"] (defScope s_l_draw) := ⟨rfl, rfl, rfl, by decide +kernel, rfl, by decide +kernel, by decide +kernel⟩
abbrev s_l_spend : Stmt := top 32
theorem sc_l_spend : FnScope ["pool"] ["pool"] (defScope s_l_spend) := ⟨rfl, rfl, rfl, by decide +kernel, rfl, by decide +kernel, by decide +kernel⟩
abbrev s_l_few : Stmt := top 33
theorem sc_l_few : FnScope ["pool", "most", "few"] ["pool", "most"] (defScope s_l_few) := ⟨rfl, rfl, rfl, by decide +kernel, rfl, by decide +kernel, by decide +kernel⟩
abbrev s_l_number : Stmt := top 34
theorem sc_l_number : FnScope ["pool"] ["pool"] (defScope s_l_number) := ⟨rfl, rfl, rfl, by decide +kernel, rfl, by decide +kernel, by decide +kernel⟩
abbrev s_l_same : Stmt := top 35
theorem sc_l_same : FnScope ["actual", "due", "k"] ["actual", "due"] (defScope s_l_same) := ⟨rfl, rfl, rfl, by decide +kernel, rfl, by decide +kernel, by decide +kernel⟩
abbrev s_l_expression : Stmt := top 36
theorem sc_l_expression : FnScope ["pool", "shape", "deep", "kind", "sign", "left", "buffer"] ["pool", "shape", "deep"] (defScope s_l_expression) := ⟨rfl, rfl, rfl, by decide +kernel, rfl, by decide +kernel, by decide +kernel⟩
abbrev s_l_index : Stmt := top 37
theorem sc_l_index : FnScope ["pool", "shape", "buffer", "deep", "kind"] ["pool", "shape", "buffer", "deep"] (defScope s_l_index) := ⟨rfl, rfl, rfl, by decide +kernel, rfl, by decide +kernel, by decide +kernel⟩
abbrev s_l_block : Stmt := top 38
theorem sc_l_block : FnScope ["pool", "shape", "deep", "most", "block", "k"] ["pool", "shape", "deep", "most"] (defScope s_l_block) := ⟨rfl, rfl, rfl, by decide +kernel, rfl, by decide +kernel, by decide +kernel⟩
abbrev s_l_statement : Stmt := top 39
theorem sc_l_statement : FnScope ["pool", "shape", "deep", "kind", "local", "test", "then", "inner", "buffer"] ["pool", "shape", "deep"] (defScope s_l_statement) := ⟨rfl, rfl, rfl, by decide +kernel, rfl, by decide +kernel, by decide +kernel⟩
abbrev s_l_expression_words : Stmt := top 40
theorem sc_l_expression_words : FnScope ["due"] ["due"] (defScope s_l_expression_words) := ⟨rfl, rfl, rfl, by decide +kernel, rfl, by decide +kernel, by decide +kernel⟩
abbrev s_l_block_words : Stmt := top 41
theorem sc_l_block_words : FnScope ["block", "words", "due"] ["block"] (defScope s_l_block_words) := ⟨rfl, rfl, rfl, by decide +kernel, rfl, by decide +kernel, by decide +kernel⟩
abbrev s_l_words : Stmt := top 42
theorem sc_l_words : FnScope ["component", "words", "buffer", "word", "cells", "block"] ["component"] (defScope s_l_words) := ⟨rfl, rfl, rfl, by decide +kernel, rfl, by decide +kernel, by decide +kernel⟩
abbrev s_l_wide : Stmt := top 43
theorem sc_l_wide : FnScope ["pool", "imports", "sizes", "k", "buffers", "size", "count", "procedures", "cells"] ["pool", "imports"] (defScope s_l_wide) := ⟨rfl, rfl, rfl, by decide +kernel, rfl, by decide +kernel, by decide +kernel⟩
abbrev s_l_read : Stmt := top 44
theorem sc_l_read : FnScope ["words", "imports", "e"] ["words", "imports"] (defScope s_l_read) := ⟨rfl, rfl, rfl, by decide +kernel, rfl, by decide +kernel, by decide +kernel⟩
abbrev s_l_is_number : Stmt := top 45
theorem sc_l_is_number : FnScope ["word", "least", "most", "char"] ["word", "least", "most"] (defScope s_l_is_number) := ⟨rfl, rfl, rfl, by decide +kernel, rfl, by decide +kernel, by decide +kernel⟩
abbrev s_l_is_place : Stmt := top 46
theorem sc_l_is_place : FnScope ["word", "letter", "count"] ["word", "letter", "count"] (defScope s_l_is_place) := ⟨rfl, rfl, rfl, by decide +kernel, rfl, by decide +kernel, by decide +kernel⟩
abbrev s_l_expects : Stmt := top 47
theorem sc_l_expects : FnScope ["stack", "scope", "word", "room"] ["stack", "scope", "word", "room"] (defScope s_l_expects) := ⟨rfl, rfl, rfl, by decide +kernel, rfl, by decide +kernel, by decide +kernel⟩
abbrev s_l_begins : Stmt := top 48
theorem sc_l_begins : FnScope ["stack", "scope", "word", "room", "value", "local"] ["stack", "scope", "word", "room"] (defScope s_l_begins) := ⟨rfl, rfl, rfl, by decide +kernel, rfl, by decide +kernel, by decide +kernel⟩
abbrev s_l_blocks : Stmt := top 49
theorem sc_l_blocks : FnScope ["stack", "scope", "word", "room", "kind"] ["stack", "scope", "word", "room", "kind"] (defScope s_l_blocks) := ⟨rfl, rfl, rfl, by decide +kernel, rfl, by decide +kernel, by decide +kernel⟩
abbrev s_l_heads : Stmt := top 50
theorem sc_l_heads : FnScope ["stack", "scope", "word"] ["stack", "scope", "word"] (defScope s_l_heads) := ⟨rfl, rfl, rfl, by decide +kernel, rfl, by decide +kernel, by decide +kernel⟩
abbrev s_l_next : Stmt := top 51
theorem sc_l_next : FnScope ["stack", "scope", "word", "top", "most"] ["stack", "scope", "word"] (defScope s_l_next) := ⟨rfl, rfl, rfl, by decide +kernel, rfl, by decide +kernel, by decide +kernel⟩
abbrev s_l_wrong : Stmt := top 52
theorem sc_l_wrong : FnScope ["words", "imports", "scope", "stack", "at"] ["words", "imports"] (defScope s_l_wrong) := ⟨rfl, rfl, rfl, by decide +kernel, rfl, by decide +kernel, by decide +kernel⟩
abbrev s_l_menu : Stmt := top 53
theorem sc_l_menu : FnScope ["pool", "words"] ["pool"] (defScope s_l_menu) := ⟨rfl, rfl, rfl, by decide +kernel, rfl, by decide +kernel, by decide +kernel⟩
abbrev s_l_changed : Stmt := top 54
theorem sc_l_changed : FnScope ["pool", "words", "k", "way", "place", "other"] ["pool", "words"] (defScope s_l_changed) := ⟨rfl, rfl, rfl, by decide +kernel, rfl, by decide +kernel, by decide +kernel⟩
abbrev s_l_walked : Stmt := top 55
theorem sc_l_walked : FnScope ["pool", "imports", "words", "k", "word", "turn"] ["pool", "imports"] (defScope s_l_walked) := ⟨rfl, rfl, rfl, by decide +kernel, rfl, by decide +kernel, by decide +kernel⟩
abbrev s_law : Stmt := top 56
theorem sc_law : FnScope ["script", "pool", "imports", "words", "due", "wrong"] ["script"] (defScope s_law) := ⟨rfl, rfl, rfl, by decide +kernel, rfl, by decide +kernel, by decide +kernel⟩
structure Top (K : PySem.W.Frag) (mg : Str → Option Value) : Prop where
  f_split_words : FunAt K mg "split_words" "split_words" s_split_words
  f_number_of : FunAt K mg "number_of" "number_of" s_number_of
  f_is_digits : FunAt K mg "is_digits" "is_digits" s_is_digits
  f_frozen : FunAt K mg "frozen" "frozen" s_frozen
  f_read_component : FunAt K mg "read_component" "read_component" s_read_component
  f_component_text : FunAt K mg "component_text" "component_text" s_component_text
  f_block_words : FunAt K mg "block_words" "block_words" s_block_words
  f_statement_words : FunAt K mg "statement_words" "statement_words" s_statement_words
  f_if_words : FunAt K mg "if_words" "if_words" s_if_words
  f_expression_words : FunAt K mg "expression_words" "expression_words" s_expression_words
  f_l_pool : FunAt K mg "_law_pool" "_law_pool" s_l_pool
  f_l_draw : FunAt K mg "_law_draw" "_law_draw" s_l_draw
  f_l_spend : FunAt K mg "_law_spend" "_law_spend" s_l_spend
  f_l_few : FunAt K mg "_law_few" "_law_few" s_l_few
  f_l_number : FunAt K mg "_law_number" "_law_number" s_l_number
  f_l_same : FunAt K mg "_law_same" "_law_same" s_l_same
  f_l_expression : FunAt K mg "_law_expression" "_law_expression" s_l_expression
  f_l_index : FunAt K mg "_law_index" "_law_index" s_l_index
  f_l_block : FunAt K mg "_law_block" "_law_block" s_l_block
  f_l_statement : FunAt K mg "_law_statement" "_law_statement" s_l_statement
  f_l_expression_words : FunAt K mg "_law_expression_words" "_law_expression_words" s_l_expression_words
  f_l_block_words : FunAt K mg "_law_block_words" "_law_block_words" s_l_block_words
  f_l_words : FunAt K mg "_law_words" "_law_words" s_l_words
  f_l_wide : FunAt K mg "_law_wide" "_law_wide" s_l_wide
  f_l_read : FunAt K mg "_law_read" "_law_read" s_l_read
  f_l_is_number : FunAt K mg "_law_is_number" "_law_is_number" s_l_is_number
  f_l_is_place : FunAt K mg "_law_is_place" "_law_is_place" s_l_is_place
  f_l_expects : FunAt K mg "_law_expects" "_law_expects" s_l_expects
  f_l_begins : FunAt K mg "_law_begins" "_law_begins" s_l_begins
  f_l_blocks : FunAt K mg "_law_blocks" "_law_blocks" s_l_blocks
  f_l_heads : FunAt K mg "_law_heads" "_law_heads" s_l_heads
  f_l_next : FunAt K mg "_law_next" "_law_next" s_l_next
  f_l_wrong : FunAt K mg "_law_wrong" "_law_wrong" s_l_wrong
  f_l_menu : FunAt K mg "_law_menu" "_law_menu" s_l_menu
  f_l_changed : FunAt K mg "_law_changed" "_law_changed" s_l_changed
  f_l_walked : FunAt K mg "_law_walked" "_law_walked" s_l_walked
  f_law : FunAt K mg "law" "law" s_law
  c_WORD_COUNT : ∃ t, mg "WORD_COUNT" = some (.int 65536 t)
  c_OPERATORS : AV.ModTup K mg "OPERATORS" ((["+", "-", "*", "/", "mod", "<", "="] : List Str).map D.str)
  c_DIGITS : ∃ t, mg "DIGITS" = some (.str "0123456789" t)
  c_MOST_DIGITS : ∃ t, mg "MOST_DIGITS" = some (.int 5 t)
  c_MOST_ROOM : ∃ t, mg "MOST_ROOM" = some (.int 20000 t)
  c_MOST_PROCEDURES : ∃ t, mg "MOST_PROCEDURES" = some (.int 8 t)
  c_MOST_BUFFERS : ∃ t, mg "MOST_BUFFERS" = some (.int 8 t)
  c_MOST_BUFFER_WORDS : ∃ t, mg "MOST_BUFFER_WORDS" = some (.int 1000 t)
  c_MOST_LOCALS : ∃ t, mg "MOST_LOCALS" = some (.int 16 t)
  c_EXPRESSION_DEPTH : ∃ t, mg "EXPRESSION_DEPTH" = some (.int 4 t)
  c_BLOCK_DEPTH : ∃ t, mg "BLOCK_DEPTH" = some (.int 6 t)
  b_all : mg "all" = none
  b_bool : mg "bool" = none
  b_int : mg "int" = none
  b_isinstance : mg "isinstance" = none
  b_len : mg "len" = none
  b_list : mg "list" = none
  b_min : mg "min" = none
  b_range : mg "range" = none
  b_str : mg "str" = none
  b_tuple : mg "tuple" = none
structure Cs where
  BlameError : Addr
  BadText : Addr
  Component : Addr
  Reader : Addr
structure Txt (K : PySem.W.Frag) (mg : Str → Option Value) (C : Cs) : Prop where
  n_BlameError : mg "BlameError" = some (.ref C.BlameError)
  b_BlameError : ExB K C.BlameError
  n_BadText : mg "BadText" = some (.ref C.BadText)
  e_BadText : ExK K C.BadText
  m_BadText_init : MetAt K C.BadText "__init__" "BadText.__init__" s_BadText_init
  a_BadText_at : PySem.W.findIn K (.ref C.BadText) "at" = some none
  n_Component : mg "Component" = some (.ref C.Component)
  k_Component : ClK K C.Component
  m_Component_init : MetAt K C.Component "__init__" "Component.__init__" s_Component_init
  m_Component_eq : MetAt K C.Component "__eq__" "Component.__eq__" s_Component_eq
  a_Component_buffers : PySem.W.findIn K (.ref C.Component) "buffers" = some none
  a_Component_procedures : PySem.W.findIn K (.ref C.Component) "procedures" = some none
  a_Component_room : PySem.W.findIn K (.ref C.Component) "room" = some none
  n_Reader : mg "Reader" = some (.ref C.Reader)
  k_Reader : ClK K C.Reader
  m_Reader_init : MetAt K C.Reader "__init__" "Reader.__init__" s_Reader_init
  m_Reader_next_word : MetAt K C.Reader "next_word" "Reader.next_word" s_Reader_next_word
  m_Reader_take_exactly : MetAt K C.Reader "take_exactly" "Reader.take_exactly" s_Reader_take_exactly
  m_Reader_take_number : MetAt K C.Reader "take_number" "Reader.take_number" s_Reader_take_number
  m_Reader_take_name : MetAt K C.Reader "take_name" "Reader.take_name" s_Reader_take_name
  m_Reader_take_local : MetAt K C.Reader "take_local" "Reader.take_local" s_Reader_take_local
  m_Reader_take_component : MetAt K C.Reader "take_component" "Reader.take_component" s_Reader_take_component
  m_Reader_take_buffers : MetAt K C.Reader "take_buffers" "Reader.take_buffers" s_Reader_take_buffers
  m_Reader_take_buffer : MetAt K C.Reader "take_buffer" "Reader.take_buffer" s_Reader_take_buffer
  m_Reader_take_procedure : MetAt K C.Reader "take_procedure" "Reader.take_procedure" s_Reader_take_procedure
  m_Reader_take_block : MetAt K C.Reader "take_block" "Reader.take_block" s_Reader_take_block
  m_Reader_statement_fits : MetAt K C.Reader "statement_fits" "Reader.statement_fits" s_Reader_statement_fits
  m_Reader_take_statement : MetAt K C.Reader "take_statement" "Reader.take_statement" s_Reader_take_statement
  m_Reader_take_call : MetAt K C.Reader "take_call" "Reader.take_call" s_Reader_take_call
  m_Reader_take_if : MetAt K C.Reader "take_if" "Reader.take_if" s_Reader_take_if
  m_Reader_take_while : MetAt K C.Reader "take_while" "Reader.take_while" s_Reader_take_while
  m_Reader_take_expression : MetAt K C.Reader "take_expression" "Reader.take_expression" s_Reader_take_expression
  a_Reader_at : PySem.W.findIn K (.ref C.Reader) "at" = some none
  a_Reader_buffer_count : PySem.W.findIn K (.ref C.Reader) "buffer_count" = some none
  a_Reader_import_count : PySem.W.findIn K (.ref C.Reader) "import_count" = some none
  a_Reader_local_count : PySem.W.findIn K (.ref C.Reader) "local_count" = some none
  a_Reader_procedure_count : PySem.W.findIn K (.ref C.Reader) "procedure_count" = some none
  a_Reader_words : PySem.W.findIn K (.ref C.Reader) "words" = some none
  x_BadText_BadText : PySem.W.exmOne K (.ref C.BadText) (.ref C.BadText) = some true
  q_BadText_BlameError : PySem.W.kitOne K (.ref C.BadText) (.ref C.BlameError) = some true
/-! ### the pool of draws -/
/-- the numbers of a pool: what is left unread is of no matter -/
structure PoolS where
  (a b c d e : Int) (ns : List Int) (h : 0 ≤ a)
def PoolS.ob (p : PoolS) : Ob := .lst [.lst (p.ns.map D.int), .int p.a, .int p.b, .int p.c, .int p.d, .int p.e]
def sp_l_pool : ASp := fun ds M Q _ => ∃ (ns : List Int) (n : Int), ds = [.scr (ns.map D.int), .int n] ∧ ∀ p s, Q (.r p) ((p, PoolS.ob s) :: M)
def sp_l_draw : ASp := fun ds M Q _ => ∃ (p : Addr) (s : PoolS) (n : Int) (u : Ob → Mem), ds = [.r p, .int n] ∧ At M p s.ob u ∧ (0 < n ∧ n < 1073741824) ∧ ∀ (r : Int) (s' : PoolS), 0 ≤ r → r < n → Q (.int r) (u s'.ob)
def sp_l_drawE : ASp := fun ds M Q _ => ∃ (p : Addr) (s : PoolS) (n : Int) (u : Ob → Mem), ds = [.r p, .int n] ∧ At M p s.ob u ∧ (0 < n ∧ n < 1073741824) ∧ ∀ (r : Int) (s' : PoolS), 0 ≤ r → r < n → s'.e = s.e → Q (.int r) (u s'.ob)
def sp_l_fewE : ASp := fun ds M Q _ => ∃ (p : Addr) (s : PoolS) (n : Int) (u : Ob → Mem), ds = [.r p, .int n] ∧ At M p s.ob u ∧ (0 ≤ n ∧ n < 1073741823) ∧ ∀ (r : Int) (s' : PoolS), 0 ≤ r → r ≤ n → s'.e = s.e → Q (.int r) (u s'.ob)
def sp_l_numberE : ASp := fun ds M Q _ => ∃ (p : Addr) (s : PoolS) (u : Ob → Mem), ds = [.r p] ∧ At M p s.ob u ∧ ∀ (r : Int) (s' : PoolS), 0 ≤ r → r < 65536 → s'.e = s.e → Q (.int r) (u s'.ob)
def sp_l_spendE : ASp := fun ds M Q _ => ∃ (p : Addr) (s : PoolS) (u : Ob → Mem), ds = [.r p] ∧ At M p s.ob u ∧ ∀ (s' : PoolS), s'.e = s.e - 1 → Q (.bl (decide (0 ≤ s.e - 1))) (u s'.ob)
def sp_l_few : ASp := fun ds M Q _ => ∃ (p : Addr) (s : PoolS) (n : Int) (u : Ob → Mem), ds = [.r p, .int n] ∧ At M p s.ob u ∧ (0 ≤ n ∧ n < 1073741823) ∧ ∀ (r : Int) (s' : PoolS), 0 ≤ r → r ≤ n → Q (.int r) (u s'.ob)
def sp_l_number : ASp := fun ds M Q _ => ∃ (p : Addr) (s : PoolS) (u : Ob → Mem), ds = [.r p] ∧ At M p s.ob u ∧ ∀ (r : Int) (s' : PoolS), 0 ≤ r → r < 65536 → Q (.int r) (u s'.ob)
def sp_l_spend : ASp := fun ds M Q _ => ∃ (p : Addr) (s : PoolS) (u : Ob → Mem), ds = [.r p] ∧ At M p s.ob u ∧ ∀ (b : Bool) (s' : PoolS), Q (.bl b) (u s'.ob)
/-- data that _law_same tells as the same: n deep -/
inductive Sd : Nat → D → Prop
  | non {n : Nat} : Sd (n + 1) .non
  | bl {n : Nat} (b : Bool) : Sd (n + 1) (.bl b)
  | int {n : Nat} (i : Int) : Sd (n + 1) (.int i)
  | str {n : Nat} (z : Str) : Sd (n + 1) (.str z)
  | lst {n : Nat} {ds : List D} : ds.length ≤ 1000000 → (∀ d ∈ ds, Sd n d) → Sd (n + 1) (.lst ds)
  | tup {n : Nat} {ds : List D} : ds.length ≤ 1000000 → (∀ d ∈ ds, Sd n d) → Sd (n + 1) (.tup ds)
/-- a value beside data that it is, or a list that is still written and holds it -/
inductive SameV (M : Mem) : D → D → Prop
  | rfl {x : D} : SameV M x x
  | o {a : Addr} {ds : List D} {u : Ob → Mem} : At M a (.lst ds) u → SameV M (.r a) (.lst ds)
def sp_l_sameG (n : Nat) : ASp := fun ds M Q _ => ∃ y x, ds = [y, x] ∧ SameV M y x ∧ Sd n x ∧ Q (.bl true) M
def sp_l_same (n : Nat) : ASp := fun ds M Q _ => ∃ x, ds = [x, x] ∧ Sd n x ∧ Q (.bl true) M
section
variable {P : Program} {w : World} {K : PySem.W.Frag} {mg : Str → Option Value} {base : Heap}
theorem ok_l_pool (T : Top K mg) : Cal P w K mg base CX0 1 "_law_pool" ["script", "budget"] (conSp K sp_l_pool) := by
  refine def_A T.f_l_pool sc_l_pool (fun _ _ _ _ _ _ us hl => match us, hl with | [_, _], _ => rfl) (fun ds M Q E h => ?_) (fun f cdv Ar outer s H E ds M Q EX hr h => ?_)
  · obtain ⟨ns, n, rfl, _⟩ := h
    rfl
  · obtain ⟨ns, n, rfl, k⟩ := h
    refine ⟨_, (as_one (as_ret (ps_ret (a_lstO (aa_cons (a_callTy (o_list (K := K)) (by rfl) T.b_list (by decide +kernel) (aa_cons (a_var (pv 0)) aa_nil)) (aa_cons a_int (aa_cons a_int (aa_cons a_int (aa_cons a_int (aa_cons (a_var (pv 1)) aa_nil)))))))))), ?_⟩
    walk_at "rd"
    exact fun p => .of (k p ⟨0, 0, 1, 0, n, ns, by decide⟩)
theorem atI_int {ns : List Int} {i : Int} (h0 : 0 ≤ i) (h : i < ((ns.map D.int).length : Int)) : ∃ z, atI (ns.map D.int) i = some (.int z) := by
  have hl : i.toNat < ns.length := by rw [List.length_map] at h; omega
  refine ⟨ns[i.toNat], ?_⟩
  have q : atI (ns.map D.int) ((i.toNat : Nat) : Int) = some (.int ns[i.toNat]) := atI_nat (by rw [List.getElem?_map, List.getElem?_eq_getElem hl]; rfl)
  rwa [Int.toNat_of_nonneg h0] at q
theorem ok_l_drawE (T : Top K mg) : Cal P w K mg base CX0 1 "_law_draw" ["pool", "size"] (conSp K sp_l_drawE) := by
  refine def_A T.f_l_draw sc_l_draw (fun _ _ _ _ _ _ us hl => match us, hl with | [_, _], _ => rfl) (fun ds M Q E h => ?_) (fun f cdv Ar outer s H E ds M Q EX hr h => ?_)
  · obtain ⟨p, s, n, u, rfl, _⟩ := h
    rfl
  · obtain ⟨p, ⟨a, b, c, d, e, ns, ha⟩, n, u, rfl, hp, ⟨hn, hn2⟩, k⟩ := h
    unfold PoolS.ob at hp
    dsimp only at hp
    refine ⟨_, (as_cut (as_if (PW.pt (a_and (a_tcmp o_le (a_ix (o_ix (K := K)) (a_var (pv 0)) a_int (fun _ _ => rfl)) a_int (nomark _)) (a_and (a_tcmp o_le (a_ix (o_ix (K := K)) (a_var (pv 0)) a_int (fun _ _ => rfl)) a_int (nomark _)) (pw_and1 (a_tcmp o_lt (a_ix (o_ix (K := K)) (a_var (pv 0)) a_int (fun _ _ => rfl)) (a_callB (o_len (K := K)) (by rfl) T.b_len PySem.boot_len (aa_cons (a_ix (o_ix (K := K)) (a_var (pv 0)) a_int (fun _ _ => rfl)) aa_nil)) (nomark _))))))
  (as_cons (as_set (ps_set (i := 2) sc_l_draw.nd rfl (by first | exact Or.inl rfl | exact Or.inr rfl) (a_ix (o_ix (K := K)) (a_ix (o_ix (K := K)) (a_var (pv 0)) a_int (fun _ _ => rfl)) (a_ix (o_ix (K := K)) (a_var (pv 0)) a_int (fun _ _ => rfl)) (fun _ _ => rfl))))
    (as_cons (as_asg (ps_asg (a_op (o_add (K := K)) (a_ix (o_ix (K := K)) (a_var (pv 0)) a_int (fun _ _ => rfl)) a_int) (ag_sub (pg_sub (a_var (pv 0)) a_int set_list))))
    (as_cons (as_asg (ps_asg (a_op o_mod (a_callTy o_int (by rfl) T.b_int (by decide +kernel) (aa_cons (a_op (o_add (K := K)) (a_op o_mul (a_ix (o_ix (K := K)) (a_var (pv 0)) a_int (fun _ _ => rfl)) a_int) (a_var (pv 2))) aa_nil)) a_int) (ag_sub (pg_sub (a_var (pv 0)) a_int set_list))))
    (as_cons (as_asg (ps_asg a_int (ag_sub (pg_sub (a_var (pv 0)) a_int set_list))))
    (as_one (as_if (a_tcmp o_ge (a_var (pv 2)) (a_op o_pow a_int a_int) (nomark _))
    (as_one (as_asg (ps_asg (a_var (pv 2)) (ag_sub (pg_sub (a_var (pv 0)) a_int set_list)))))
    as_nil))))))
  as_nil)
  (as_cons (as_if (a_tcmp o_gt (a_ix (o_ix (K := K)) (a_var (pv 0)) a_int (fun _ _ => rfl)) a_int (nomark _))
  (as_cons (as_set (ps_set (i := 3) sc_l_draw.nd rfl (by first | exact Or.inl rfl | exact Or.inr rfl) (a_op o_mod (a_callTy o_int (by rfl) T.b_int (by decide +kernel) (aa_cons (a_ix (o_ix (K := K)) (a_var (pv 0)) a_int (fun _ _ => rfl)) aa_nil)) (a_var (pv 1)))))
    (as_cons (as_asg (ps_asg (a_op o_div (a_ix (o_ix (K := K)) (a_var (pv 0)) a_int (fun _ _ => rfl)) (a_var (pv 1))) (ag_sub (pg_sub (a_var (pv 0)) a_int set_list))))
    (as_cons (as_asg (ps_asg a_int (ag_sub (pg_sub (a_var (pv 0)) a_int set_list))))
    (as_one (as_ret (ps_ret (a_var (pv 3))))))))
  as_nil)
  (as_cons (as_asg (ps_asg (a_op o_sub (a_ix (o_ix (K := K)) (a_var (pv 0)) a_int (fun _ _ => rfl)) a_int) (ag_sub (pg_sub (a_var (pv 0)) a_int set_list))))
  (as_cons (as_asg (ps_asg (a_op o_mod (a_callTy o_int (by rfl) T.b_int (by decide +kernel) (aa_cons (a_op (o_add (K := K)) (a_op o_mul (a_ix (o_ix (K := K)) (a_var (pv 0)) a_int (fun _ _ => rfl)) a_int) a_int) aa_nil)) a_int) (ag_sub (pg_sub (a_var (pv 0)) a_int set_list))))
  (as_one (as_ret (ps_ret (a_op o_mod (a_op o_mod (a_callTy o_int (by rfl) T.b_int (by decide +kernel) (aa_cons (a_op (o_add (K := K)) (a_op o_mul (a_ix (o_ix (K := K)) (a_var (pv 0)) a_int (fun _ _ => rfl)) a_int) a_int) aa_nil)) a_int) (a_var (pv 1)))))))))), ?_⟩
    refine s_cut (fun xs M2 => ∃ v2 s2, xs = [some (.r p), some (.int n), v2, none] ∧ M2 = u (PoolS.ob s2) ∧ s2.e = e) ?_ ?_
    · have skip : ∃ v2 s2, ([some (.r p), some (.int n), none, none] : AS) = [some (.r p), some (.int n), v2, none] ∧ M = u (PoolS.ob s2) ∧ s2.e = e := ⟨none, ⟨a, b, c, d, e, ns, ha⟩, rfl, hp.self.symm, rfl⟩
      walk_at "rd"
      refine G.i_d (fun h1 => ?_) (fun h1 => ?_)
      · walk_at "rd"
        refine G.i_d (fun h2 => ?_) (fun h2 => ?_)
        · walk_at "rd"
          refine G.i_d (fun h3 => ?_) (fun h3 => ?_)
          · obtain ⟨z, hz⟩ := atI_int ha h3
            walk_at "rd"
            refine G.i_d (fun h4 => ?_) (fun h4 => ?_)
            · walk_at "rd"
              exact ⟨_, ⟨_, _, _, _, _, ns, by omega⟩, rfl, rfl, rfl⟩
            · walk_at "rd"
              exact ⟨_, ⟨_, _, _, _, _, ns, by omega⟩, rfl, rfl, rfl⟩
          · walk_at "rd"; exact skip
        · walk_at "rd"; exact skip
      · walk_at "rd"; exact skip
    · rintro _ _ ⟨v2, ⟨a, b, c, d, e2, ns, ha⟩, rfl, rfl, he⟩
      unfold PoolS.ob
      dsimp only
      walk_at "rd"
      refine G.i_d (fun h1 => ?_) (fun h1 => ?_)
      · walk_at "rd"
        exact k _ ⟨_, _, _, _, _, ns, ha⟩ (Int.emod_nonneg _ (by omega)) (Int.emod_lt_of_pos _ hn) he
      · walk_at "rd"
        exact k _ ⟨_, _, _, _, _, ns, ha⟩ (Int.emod_nonneg _ (by omega)) (Int.emod_lt_of_pos _ hn) he
theorem ok_l_draw (T : Top K mg) : Cal P w K mg base CX0 1 "_law_draw" ["pool", "size"] (conSp K sp_l_draw) := (ok_l_drawE T).imp (conSp.imp fun ds M Q E ⟨p, s, n, u, e, hp, hn, k⟩ => ⟨p, s, n, u, e, hp, hn, fun r s' r0 r1 _ => k r s' r0 r1⟩)
theorem ok_l_fewE (T : Top K mg) : Cal P w K mg base CX0 2 "_law_few" ["pool", "most"] (conSp K sp_l_fewE) := by
  refine def_A T.f_l_few sc_l_few (fun _ _ _ _ _ _ us hl => match us, hl with | [_, _], _ => rfl) (fun ds M Q E h => ?_) (fun f cdv Ar outer s H E ds M Q EX hr h => ?_)
  · obtain ⟨p, s, n, u, rfl, _⟩ := h
    rfl
  · obtain ⟨p, s, n, u, rfl, hp, ⟨hn, hn2⟩, k⟩ := h
    refine ⟨_, (as_cons (as_set (ps_set (i := 2) sc_l_few.nd rfl (by first | exact Or.inl rfl | exact Or.inr rfl) (a_call (g_call (ok_l_drawE T) (hr.mono (by decide)) (by rfl) pass0 (aa_cons (a_var (pv 0)) (aa_cons a_int aa_nil))))))
  (as_cons (as_if (a_tcmp (o_eq (K := K) (un64 hr)) (a_var (pv 2)) a_int (nomark _))
  (as_one (as_ret (ps_ret (a_call (g_call (ok_l_drawE T) (hr.mono (by decide)) (by rfl) pass0 (aa_cons (a_var (pv 0)) (aa_cons (a_op (o_add (K := K)) (a_var (pv 1)) a_int) aa_nil)))))))
  as_nil)
  (as_one (as_ret (ps_ret (a_callB (o_min rfl) (by rfl) T.b_min (by decide +kernel) (aa_cons (a_var (pv 2)) (aa_cons (a_var (pv 1)) aa_nil)))))))), ?_⟩
    walk_at "rd"
    refine ⟨p, s, 4, u, rfl, hp, by decide, fun r s1 r0 r1 e1 => ?_⟩
    walk_at "rd"
    refine G.i_d (fun h1 => ?_) (fun h1 => ?_)
    · walk_at "rd"
      exact ⟨p, s1, _, u, rfl, hp.put, by omega, fun r' s2 r0' r1' e2 => .of (k _ _ r0' (by omega) (e2.trans e1))⟩
    · walk_at "rd"
      refine k _ s1 ?_ ?_ e1 <;> split <;> omega
theorem ok_l_few (T : Top K mg) : Cal P w K mg base CX0 2 "_law_few" ["pool", "most"] (conSp K sp_l_few) := (ok_l_fewE T).imp (conSp.imp fun ds M Q E ⟨p, s, n, u, e, hp, hn, k⟩ => ⟨p, s, n, u, e, hp, hn, fun r s' r0 r1 _ => k r s' r0 r1⟩)
theorem ok_l_numberE (T : Top K mg) : Cal P w K mg base CX0 2 "_law_number" ["pool"] (conSp K sp_l_numberE) := by
  refine def_A T.f_l_number sc_l_number (fun _ _ _ _ _ _ us hl => match us, hl with | [_], _ => rfl) (fun ds M Q E h => ?_) (fun f cdv Ar outer s H E ds M Q EX hr h => ?_)
  · obtain ⟨p, s, u, rfl, _⟩ := h
    rfl
  · obtain ⟨p, s, u, rfl, hp, k⟩ := h
    refine ⟨_, (as_cons (as_if (a_tcmp (o_eq (K := K) (un64 hr)) (a_call (g_call (ok_l_drawE T) (hr.mono (by decide)) (by rfl) pass0 (aa_cons (a_var (pv 0)) (aa_cons a_int aa_nil)))) a_int (nomark _))
  (as_one (as_ret (ps_ret (a_call (g_call (ok_l_drawE T) (hr.mono (by decide)) (by rfl) pass0 (aa_cons (a_var (pv 0)) (aa_cons a_int aa_nil)))))))
  as_nil)
  (as_one (as_ret (ps_ret (a_call (g_call (ok_l_drawE T) (hr.mono (by decide)) (by rfl) pass0 (aa_cons (a_var (pv 0)) (aa_cons a_int aa_nil)))))))), ?_⟩
    walk_at "rd"
    refine ⟨p, s, 3, u, rfl, hp, by decide, fun r s1 r0 r1 e1 => ?_⟩
    walk_at "rd"
    refine G.i_d (fun h1 => ?_) (fun h1 => ?_)
    · walk_at "rd"
      exact ⟨p, s1, _, u, rfl, hp.put, by decide, fun r' s2 r0' r1' e2 => .of (k _ _ r0' (by omega) (e2.trans e1))⟩
    · walk_at "rd"
      exact ⟨p, s1, _, u, rfl, hp.put, by decide, fun r' s2 r0' r1' e2 => .of (k _ _ r0' (by omega) (e2.trans e1))⟩
theorem ok_l_number (T : Top K mg) : Cal P w K mg base CX0 2 "_law_number" ["pool"] (conSp K sp_l_number) := (ok_l_numberE T).imp (conSp.imp fun ds M Q E ⟨p, s, u, e, hp, k⟩ => ⟨p, s, u, e, hp, fun r s' r0 r1 _ => k r s' r0 r1⟩)
theorem ok_l_spendE (T : Top K mg) : Cal P w K mg base CX0 1 "_law_spend" ["pool"] (conSp K sp_l_spendE) := by
  refine def_A T.f_l_spend sc_l_spend (fun _ _ _ _ _ _ us hl => match us, hl with | [_], _ => rfl) (fun ds M Q E h => ?_) (fun f cdv Ar outer s H E ds M Q EX hr h => ?_)
  · obtain ⟨p, s, u, rfl, _⟩ := h
    rfl
  · obtain ⟨p, ⟨a, b, c, d, e, ns, ha⟩, u, rfl, hp, k⟩ := h
    unfold PoolS.ob at hp
    dsimp only at hp
    refine ⟨_, (as_cons (as_asg (ps_asg (a_op o_sub (a_ix (o_ix (K := K)) (a_var (pv 0)) a_int (fun _ _ => rfl)) a_int) (ag_sub (pg_sub (a_var (pv 0)) a_int set_list))))
  (as_one (as_ret (ps_ret (a_cmp o_ge (a_ix (o_ix (K := K)) (a_var (pv 0)) a_int (fun _ _ => rfl)) a_int (nomark _)))))), ?_⟩
    walk_at "rd"
    exact k ⟨_, _, _, _, e - 1, ns, ha⟩ rfl
theorem ok_l_spend (T : Top K mg) : Cal P w K mg base CX0 1 "_law_spend" ["pool"] (conSp K sp_l_spend) := (ok_l_spendE T).imp (conSp.imp fun ds M Q E ⟨p, s, u, e, hp, k⟩ => ⟨p, s, u, e, hp, fun s' _ => k _ s'⟩)
/-! ### data that is the same -/
theorem ok_l_sameG (T : Top K mg) : ∀ n, Cal P w K mg base CX0 n "_law_same" ["actual", "due"] (conSp K (sp_l_sameG n))
  | 0 => def_none T.f_l_same (fun _ _ _ _ _ _ us hl => match us, hl with | [_, _], _ => rfl) fun vs H Q E ⟨ds, M, F, B, BX, _, _, ⟨y, x, _, _, h, _⟩, _⟩ => by cases h
  | n + 1 => by
    have IH := ok_l_sameG T n
    refine def_A T.f_l_same sc_l_same (fun _ _ _ _ _ _ us hl => match us, hl with | [_, _], _ => rfl) (fun ds M Q E h => ?_) (fun f cdv Ar outer s H E ds M Q EX hr h => ?_)
    · obtain ⟨y, x, rfl, _⟩ := h
      rfl
    · obtain ⟨y, x, rfl, hv, h, k⟩ := h
      refine ⟨_, (as_cons (as_if (PW.pt (a_or (a_truth (K := K) (a_callB (o_isi (K := K)) (by rfl) T.b_isinstance (by decide +kernel) (aa_cons (a_var (pv 1)) (aa_cons (a_c (pe_bltn (v := .ty "tuple") (by rfl) T.b_tuple (by decide +kernel) rfl) (fun _ => .ty _)) aa_nil))) (by intro _; rfl)) (pw_or1 (a_truth (K := K) (a_callB (o_isi (K := K)) (by rfl) T.b_isinstance (by decide +kernel) (aa_cons (a_var (pv 1)) (aa_cons (a_c (pe_bltn (v := .ty "list") (by rfl) T.b_list (by decide +kernel) rfl) (fun _ => .ty _)) aa_nil))) (by intro _; rfl)))))
  (as_cons (as_if (PW.pt (a_or (a_tcmp (o_ne (K := K) (un64 hr)) (a_callB (o_isi (K := K)) (by rfl) T.b_isinstance (by decide +kernel) (aa_cons (a_var (pv 1)) (aa_cons (a_c (pe_bltn (v := .ty "tuple") (by rfl) T.b_tuple (by decide +kernel) rfl) (fun _ => .ty _)) aa_nil))) (a_callB (o_isi (K := K)) (by rfl) T.b_isinstance (by decide +kernel) (aa_cons (a_var (pv 0)) (aa_cons (a_c (pe_bltn (v := .ty "tuple") (by rfl) T.b_tuple (by decide +kernel) rfl) (fun _ => .ty _)) aa_nil))) (nomark _)) (pw_or1 (a_tcmp (o_ne (K := K) (un64 hr)) (a_callB (o_isi (K := K)) (by rfl) T.b_isinstance (by decide +kernel) (aa_cons (a_var (pv 1)) (aa_cons (a_c (pe_bltn (v := .ty "list") (by rfl) T.b_list (by decide +kernel) rfl) (fun _ => .ty _)) aa_nil))) (a_callB (o_isi (K := K)) (by rfl) T.b_isinstance (by decide +kernel) (aa_cons (a_var (pv 0)) (aa_cons (a_c (pe_bltn (v := .ty "list") (by rfl) T.b_list (by decide +kernel) rfl) (fun _ => .ty _)) aa_nil))) (nomark _)))))
    (as_one (as_ret (ps_ret a_bl)))
    as_nil)
    (as_cons (as_if (a_tcmp (o_ne (K := K) (un64 hr)) (a_callB (o_len (K := K)) (by rfl) T.b_len PySem.boot_len (aa_cons (a_var (pv 0)) aa_nil)) (a_callB (o_len (K := K)) (by rfl) T.b_len PySem.boot_len (aa_cons (a_var (pv 1)) aa_nil)) (nomark _))
    (as_one (as_ret (ps_ret a_bl)))
    as_nil)
    (as_cons (as_for (ps_for PassesOwn.never rfl (ai_r1 (pi_range1 rfl T.b_range (aa_cons (a_callB (o_len (K := K)) (by rfl) T.b_len PySem.boot_len (aa_cons (a_var (pv 1)) aa_nil)) aa_nil))) (ag_name (pg_name (i := 2) sc_l_same.nd rfl (by first | exact Or.inl rfl | exact Or.inr rfl)))
    (as_one (as_if (a_not (a_truth (K := K) (a_call (g_call IH hr (by rfl) pass0 (aa_cons (a_ix (o_ix (K := K)) (a_var (pv 0)) (a_var (pv 2)) (fun _ _ => rfl)) (aa_cons (a_ix (o_ix (K := K)) (a_var (pv 1)) (a_var (pv 2)) (fun _ _ => rfl)) aa_nil)))) (by intro _; rfl)))
      (as_one (as_ret (ps_ret a_bl)))
      as_nil))))
    (as_one (as_ret (ps_ret a_bl))))))
  as_nil)
  (as_cons (as_if (PW.pt (a_or (a_tcmp o_is (a_var (pv 1)) a_non (nomark _)) (pw_or1 (a_truth (K := K) (a_callB (o_isi (K := K)) (by rfl) T.b_isinstance (by decide +kernel) (aa_cons (a_var (pv 1)) (aa_cons (a_c (pe_bltn (v := .ty "bool") (by rfl) T.b_bool (by decide +kernel) rfl) (fun _ => .ty _)) aa_nil))) (by intro _; rfl)))))
  (as_one (as_ret (ps_ret (a_andT (K := K) (a_cmp (o_eq (K := K) (un64 hr)) (a_cmp o_is (a_var (pv 0)) a_non (nomark _)) (a_cmp o_is (a_var (pv 1)) a_non (nomark _)) (nomark _)) (a_andT (K := K) (a_orT (K := K) (a_cmp o_is (a_var (pv 1)) a_non (nomark _)) (pe_one (a_callB (o_isi (K := K)) (by rfl) T.b_isinstance (by decide +kernel) (aa_cons (a_var (pv 0)) (aa_cons (a_c (pe_bltn (v := .ty "bool") (by rfl) T.b_bool (by decide +kernel) rfl) (fun _ => .ty _)) aa_nil))))) (pe_one (a_cmp (o_eq (K := K) (un64 hr)) (a_var (pv 0)) (a_var (pv 1)) (nomark _))))))))
  as_nil)
  (as_cons (as_if (a_truth (K := K) (a_callB (o_isi (K := K)) (by rfl) T.b_isinstance (by decide +kernel) (aa_cons (a_var (pv 1)) (aa_cons (a_c (pe_bltn (v := .ty "int") (by rfl) T.b_int (by decide +kernel) rfl) (fun _ => .ty _)) aa_nil))) (by intro _; rfl))
  (as_one (as_ret (ps_ret (a_andT (K := K) (a_callB (o_isi (K := K)) (by rfl) T.b_isinstance (by decide +kernel) (aa_cons (a_var (pv 0)) (aa_cons (a_c (pe_bltn (v := .ty "int") (by rfl) T.b_int (by decide +kernel) rfl) (fun _ => .ty _)) aa_nil))) (a_andT (K := K) (a_notT (K := K) (a_callB (o_isi (K := K)) (by rfl) T.b_isinstance (by decide +kernel) (aa_cons (a_var (pv 0)) (aa_cons (a_c (pe_bltn (v := .ty "bool") (by rfl) T.b_bool (by decide +kernel) rfl) (fun _ => .ty _)) aa_nil)))) (pe_one (a_cmp (o_eq (K := K) (un64 hr)) (a_var (pv 0)) (a_var (pv 1)) (nomark _))))))))
  as_nil)
  (as_one (as_ret (ps_ret (a_andT (K := K) (a_callB (o_isi (K := K)) (by rfl) T.b_isinstance (by decide +kernel) (aa_cons (a_var (pv 0)) (aa_cons (a_c (pe_bltn (v := .ty "str") (by rfl) T.b_str (by decide +kernel) rfl) (fun _ => .ty _)) aa_nil))) (pe_one (a_cmp (o_eq (K := K) (un64 hr)) (a_var (pv 0)) (a_var (pv 1)) (nomark _)))))))))), ?_⟩
      cases h with
      | non => cases hv; walk_at "rd"; exact k
      | bl b => cases hv; walk_at "rd"; simpa using k
      | int i => cases hv; walk_at "rd"; simpa using k
      | str z => cases hv; walk_at "rd"; simpa using k
      | @lst _ ds hn hi =>
        cases hv with
        | rfl =>
          walk_at "rd"
          refine f_rng (fun i xs M' => ∃ v, xs = [some (.lst ds), some (.lst ds), v] ∧ M' = M) ⟨none, rfl, rfl⟩ ?_ ?_
          · rintro i _ _ hlt ⟨v, rfl, rfl⟩
            have hx : i < ds.length := by simpa using hlt
            have ax : atI ds (i : Int) = some ds[i] := atI_nat (List.getElem?_eq_getElem hx)
            walk_at "rd"
            refine ⟨_, _, rfl, .rfl, hi _ (List.getElem_mem hx), ?_⟩
            walk_at "rd"
            exact ⟨_, rfl, rfl⟩
          · rintro _ _ ⟨v, rfl, rfl⟩
            walk_at "rd"
            exact k
        | @o a _ u ha =>
          walk_at "rd"
          refine f_rng (fun i xs M' => ∃ v, xs = [some (.r a), some (.lst ds), v] ∧ M' = M) ⟨none, rfl, rfl⟩ ?_ ?_
          · rintro i _ _ hlt ⟨v, rfl, rfl⟩
            have hx : i < ds.length := by simpa using hlt
            have ax : atI ds (i : Int) = some ds[i] := atI_nat (List.getElem?_eq_getElem hx)
            walk_at "rd"
            refine ⟨_, _, rfl, .rfl, hi _ (List.getElem_mem hx), ?_⟩
            walk_at "rd"
            exact ⟨_, rfl, rfl⟩
          · rintro _ _ ⟨v, rfl, rfl⟩
            walk_at "rd"
            exact k
      | @tup _ ds hn hi =>
        cases hv
        walk_at "rd"
        refine f_rng (fun i xs M' => ∃ v, xs = [some (.tup ds), some (.tup ds), v] ∧ M' = M) ⟨none, rfl, rfl⟩ ?_ ?_
        · rintro i _ _ hlt ⟨v, rfl, rfl⟩
          have hx : i < ds.length := by simpa using hlt
          have ax : atI ds (i : Int) = some ds[i] := atI_nat (List.getElem?_eq_getElem hx)
          walk_at "rd"
          refine ⟨_, _, rfl, .rfl, hi _ (List.getElem_mem hx), ?_⟩
          walk_at "rd"
          exact ⟨_, rfl, rfl⟩
        · rintro _ _ ⟨v, rfl, rfl⟩
          walk_at "rd"
          exact k
theorem ok_l_same (T : Top K mg) (n : Nat) : Cal P w K mg base CX0 n "_law_same" ["actual", "due"] (conSp K (sp_l_same n)) :=
  (ok_l_sameG T n).imp (conSp.imp fun ds M Q E ⟨x, e, h, k⟩ => ⟨x, x, e, .rfl, h, k⟩)
end


/-! ### numbers and words, over lists of signs -/
open NumText in
/-- the value of digits with one more -/
theorem val_snoc (l : List Nat) (c : Nat) : digitsVal (l ++ [c]) = digitsVal l * 10 + (c - 48) := by
  unfold digitsVal
  rw [List.foldl_append]
  rfl
open NumText in
theorem num_back : ∀ (n : Nat) (l : List Nat), l.length = n → AllDigits l → l ≠ [] → (l = [48] ∨ l.head? ≠ some 48) → numL (digitsVal l) = l := by
  intro n
  induction n with
  | zero => intro l hl _ hne _; exact absurd (List.length_eq_zero_iff.mp hl) hne
  | succ n ih =>
    intro l hl hd hne hz
    obtain ⟨r, c, rfl⟩ : ∃ r c, l = r ++ [c] := ⟨l.dropLast, l.getLast hne, (List.dropLast_concat_getLast hne).symm⟩
    have hc := hd c (by simp)
    have hr : AllDigits r := fun d h => hd d (by simp [h])
    rw [List.length_append, List.length_singleton] at hl
    rw [val_snoc]
    by_cases e : r = []
    · subst e
      have e0 : digitsVal [] = 0 := rfl
      rw [e0, numL_lt (by omega)]
      show [48 + (0 * 10 + (c - 48))] = [c]
      congr 1
      omega
    · have h1 : r.head? ≠ some 48 := by
        rcases hz with h | h
        · exfalso
          have := congrArg List.length h
          rw [List.length_append] at this
          cases r with
          | nil => exact e rfl
          | cons _ _ => simp at this
        · cases r with
          | nil => exact absurd rfl e
          | cons x xs => simpa using h
      have q := ih r (by omega) hr e (.inr h1)
      have nz : digitsVal r ≠ 0 := fun z => by
        rw [z, numL_lt (by decide)] at q
        rw [← q] at h1
        exact h1 rfl
      rw [numL_step (by omega)]
      have a : (digitsVal r * 10 + (c - 48)) / 10 = digitsVal r := by omega
      have b : 48 + (digitsVal r * 10 + (c - 48)) % 10 = c := by omega
      rw [a, b, q]
theorem num_head : ∀ (n : Nat), (numL n).head? = some 48 → n = 0 := by
  intro n
  induction n using Nat.strongRecOn with
  | _ n ih =>
    intro h
    by_cases hn : n < 10
    · rw [numL_lt hn] at h
      simp at h
      exact h
    · rw [numL_step (by omega)] at h
      have e : (numL (n / 10)).head? = some 48 := by
        cases q : numL (n / 10) with
        | nil => exact absurd q (numL_ne _)
        | cons x xs => rw [q] at h; simpa using h
      have := ih (n / 10) (by omega) e
      omega
theorem one_eq (c : Nat) : (⟨#[c]⟩ : Str) = "0" ↔ c = 48 := by
  constructor
  · intro h
    have e := congrArg tl h
    have e2 : tl ("0" : Str) = [48] := by decide +kernel
    rw [e2] at e
    have e3 : [c] = [48] := e
    injection e3
  · rintro rfl
    exact ext_tl (by decide +kernel)
theorem eq_zero (z : Str) : z = "0" ↔ tl z = [48] := by
  have e2 : tl ("0" : Str) = [48] := by decide +kernel
  constructor
  · rintro rfl
    exact e2
  · intro h
    exact ext_tl (by rw [h, e2])
theorem atS {z : Str} {i : Int} (h0 : 0 ≤ i) (h : i < (z.length : Int)) : ∃ c, atI z.cps.toList i = some c := by
  have hl : i.toNat < (tl z).length := by rw [← len_tl]; omega
  have q : atI (tl z) ((i.toNat : Nat) : Int) = some (tl z)[i.toNat] := atI_nat (List.getElem?_eq_getElem hl)
  rw [Int.toNat_of_nonneg h0] at q
  exact ⟨_, q⟩
theorem ixN_lt {n j : Nat} (hj : j < n) : ixN n (j : Int) = some j := by
  unfold ixN
  rw [if_pos (Int.natCast_nonneg j), if_pos (by omega), Int.toNat_natCast]
theorem lt_one (c : Nat) (z : Str) (n : Nat) (h : tl z = [n]) : (⟨#[c]⟩ : Str).cps.toList < z.cps.toList ↔ c < n := by
  have e : z.cps.toList = [n] := h
  rw [e]
  show [c] < [n] ↔ _
  rw [List.cons_lt_cons_iff]
  simp
theorem one_lt (c : Nat) (z : Str) (n : Nat) (h : tl z = [n]) : z.cps.toList < (⟨#[c]⟩ : Str).cps.toList ↔ n < c := by
  have e : z.cps.toList = [n] := h
  rw [e]
  show [n] < [c] ↔ _
  rw [List.cons_lt_cons_iff]
  simp
theorem val_lt : ∀ (n : Nat) (l : List Nat), l.length = n → NumText.AllDigits l → NumText.digitsVal l < 10 ^ n := by
  intro n
  induction n with
  | zero => intro l hl _; rw [List.length_eq_zero_iff.mp hl]; decide
  | succ n ih =>
    intro l hl hd
    have hne : l ≠ [] := fun e => by rw [e] at hl; cases hl
    obtain ⟨r, c, rfl⟩ : ∃ r c, l = r ++ [c] := ⟨l.dropLast, l.getLast hne, (List.dropLast_concat_getLast hne).symm⟩
    have hc := hd c (by simp)
    have hr : NumText.AllDigits r := fun d h => hd d (by simp [h])
    rw [List.length_append, List.length_singleton] at hl
    have q := ih r (by omega) hr
    rw [val_snoc, Nat.pow_succ]
    omega
theorem sum_ones : ∀ ys : List Str, (∀ y ∈ ys, y.length = 1) → (ys.map (·.length)).sum = ys.length
  | [], _ => rfl
  | y :: ys, h => by
    rw [List.map_cons, List.sum_cons, sum_ones ys (fun z hz => h z (by simp [hz])), h y (by simp), List.length_cons]
    omega
theorem len_join (ys : List Str) : (Txt.join "" ys).length = (ys.map (·.length)).sum := by
  rw [join_eq, len_tl, tl_join]
  have e : tl ("" : Str) = [] := rfl
  rw [e]
  induction ys with
  | nil => rfl
  | cons y ys ih =>
    cases ys with
    | nil => simp [joinL, len_tl]
    | cons z zs =>
      rw [List.map_cons, List.map_cons, joinL, List.length_append, List.nil_append]
      rw [List.map_cons] at ih
      have e2 : ((y :: z :: zs).map (·.length)).sum = y.length + ((z :: zs).map (·.length)).sum := List.sum_cons
      rw [ih, e2, len_tl y]

def digs (l : List Nat) : Bool := l.all fun c => decide (48 ≤ c) && decide (c ≤ 57)
theorem digs_iff (l : List Nat) : digs l = true ↔ NumText.AllDigits l := by
  unfold digs NumText.AllDigits
  simp
def numD : Option Nat → D
  | none => .non
  | some n => .int (n : Nat)
/-- the number that a word writes -/
def nof (z : Str) : Option Nat := if digs (tl z) = true ∧ numL (NumText.digitsVal (tl z)) = tl z ∧ NumText.digitsVal (tl z) ≤ 65535 then some (NumText.digitsVal (tl z)) else none
/-- the parts between single spaces -/
def parts (z : Str) : List Str := if z = "" then [] else Txt.split z " "
def sp_isdig : ASp := fun ds M Q _ => ∃ z : Str, ds = [.str z] ∧ z.length ≤ 10000000 ∧ Q (.bl (decide (1 ≤ z.length ∧ z.length ≤ 5 ∧ digs (tl z) = true))) M
def sp_nof : ASp := fun ds M Q _ => ∃ z : Str, ds = [.str z] ∧ z.length ≤ 10000000 ∧ Q (numD (nof z)) M
def sp_parts : ASp := fun ds M Q _ => ∃ z : Str, ds = [.str z] ∧ z.length ≤ 10000000 ∧ Q (.lst ((parts z).map D.str)) M
theorem mem_digs (c : Nat) : c ∈ ("0123456789" : Str).cps.toList ↔ 48 ≤ c ∧ c ≤ 57 := by
  have e3 : ("0123456789" : Str).cps.toList = [48, 49, 50, 51, 52, 53, 54, 55, 56, 57] := by decide +kernel
  rw [e3]
  simp only [List.mem_cons, List.not_mem_nil, or_false]
  omega
theorem nof_short {z : Str} (h : ¬ (1 ≤ z.length ∧ z.length ≤ 5)) : nof z = none := by
  unfold nof
  rw [if_neg]
  rintro ⟨h2, h3, h4⟩
  refine h ⟨?_, ?_⟩
  · rw [len_tl, ← h3]
    cases e : numL (NumText.digitsVal (tl z)) with
    | nil => exact absurd e (numL_ne _)
    | cons _ _ => simp
  · rw [len_tl, ← h3]
    exact numL_len (by decide) (by omega)
theorem nof_le {z : Str} {n : Nat} (h : nof z = some n) : n ≤ 65535 := by
  unfold nof at h
  split at h
  · rename_i q
    cases h
    exact q.2.2
  · cases h
section
variable {P : Program} {w : World} {K : PySem.W.Frag} {mg : Str → Option Value} {base : Heap}
theorem ok_is_digits (T : Top K mg) : Cal P w K mg base CX0 1 "is_digits" ["word"] (conSp K sp_isdig) := by
  refine def_A T.f_is_digits sc_is_digits (fun _ _ _ _ _ _ us hl => match us, hl with | [_], _ => rfl) (fun ds M Q E h => ?_) (fun f cdv Ar outer s H E ds M Q EX hr h => ?_)
  · obtain ⟨z, rfl, _⟩ := h
    rfl
  · obtain ⟨z, rfl, hl, k⟩ := h
    refine ⟨_, (as_cons (as_if (a_not (a_tchain o_le o_le a_int (a_callB (o_len (K := K)) (by rfl) T.b_len PySem.boot_len (aa_cons (a_var (pv 0)) aa_nil)) (a_c (g_cint T.c_MOST_DIGITS rfl) (fun _ => .int _))))
  (as_one (as_ret (ps_ret a_bl)))
  as_nil)
  (as_one (as_ret (ps_ret (a_callB (o_all rfl (K := K)) (by rfl) T.b_all (by decide +kernel) (aa_cons (a_lc finD_ok (pe_lc (own := [("letter", 1)]) rfl sc_is_digits.nd (ai_of (g_it (K := K) (a_var (pv 0)))) (blkOk_by (own := [("letter", 1)]) (N := ["word", "letter"]) (sc := defScope s_is_digits) (by decide +kernel)) (fun _ _ _ _ _ => (ag_name (pg_name (i := 1) sc_is_digits.nd rfl (Or.inl rfl)))) (fun _ _ _ _ _ => ats_nil) (fun _ _ _ _ _ => (a_cmp (o_in (K := K) (un65 hr)) (a_var (pv 1)) (a_c (g_cstr T.c_DIGITS rfl) (fun _ => .str _)) rfl)))) aa_nil)))))), ?_⟩
    have fin : ∀ {x y : Bool}, x = y → Q (D.bl x) M → Q (D.bl y) M := fun e q => e ▸ q
    walk_at "rd"
    refine G.i_d (fun h1 => ?_) (fun h1 => ?_)
    · walk_at "rd"
      refine G.i_nd (fun h2 => ?_) (fun h2 => ?_)
      · walk_at "rd"
        exact fin (decide_eq_false (by omega)) k
      · walk_at "rd"
        intro a
        have hz : (tl z).length < sizeLine := by rw [← len_tl, line_val]; omega
        refine c_map (tl z) (fun c => .bl (decide (c ∈ ("0123456789" : Str).cps.toList))) hz ?_ (fin_d ?_)
        · intro i c acc hc ha
          walk_at "rd"
          exact .put hz ha hc rfl
        · walk_at "rd"
          refine aAll.mk (bs := (tl z).map fun c => decide (c ∈ ("0123456789" : Str).cps.toList)) (by rw [List.map_map]; exact .d) ?_
          walk_at "rd"
          refine fin ?_ k
          have e2 : ((tl z).map fun c => decide (c ∈ ("0123456789" : Str).cps.toList)).all id = digs (tl z) := by
            unfold digs
            rw [List.all_map]
            congr 1
            funext c
            simp only [Function.comp, id, mem_digs]
            rw [Bool.eq_iff_iff]
            simp
          rw [e2]
          have h1' : 1 ≤ z.length := by omega
          have h2' : z.length ≤ 5 := by omega
          simp [h1', h2']
    · walk_at "rd"
      exact fin (decide_eq_false (by omega)) k
theorem ok_number_of (T : Top K mg) : Cal P w K mg base CX0 2 "number_of" ["word"] (conSp K sp_nof) := by
  refine def_A T.f_number_of sc_number_of (fun _ _ _ _ _ _ us hl => match us, hl with | [_], _ => rfl) (fun ds M Q E h => ?_) (fun f cdv Ar outer s H E ds M Q EX hr h => ?_)
  · obtain ⟨z, rfl, _⟩ := h
    rfl
  · obtain ⟨z, rfl, hl, k⟩ := h
    refine ⟨_, (as_cons (as_if (a_not (a_truth (K := K) (a_call (g_call (ok_is_digits T) (hr.mono (by decide)) (by rfl) pass0 (aa_cons (a_var (pv 0)) aa_nil))) (by intro _; rfl)))
  (as_one (as_ret (ps_ret a_non)))
  as_nil)
  (as_cut (as_if (PW.pt (a_and (a_tcmp (o_eq (K := K) (un64 hr)) (a_ix (o_ix (K := K)) (a_var (pv 0)) a_int (fun _ _ => rfl)) a_str (nomark _)) (pw_and1 (a_tcmp (o_ne (K := K) (un64 hr)) (a_var (pv 0)) a_str (nomark _)))))
  (as_one (as_ret (ps_ret a_non)))
  as_nil)
  (as_cons (as_set (ps_set (i := 1) sc_number_of.nd rfl (by first | exact Or.inl rfl | exact Or.inr rfl) (a_callTy o_int (by rfl) T.b_int (by decide +kernel) (aa_cons (a_var (pv 0)) aa_nil))))
  (as_one (as_ret (ps_ret (a_ifExp (a_tcmp o_lt (a_var (pv 1)) (a_c (g_cint T.c_WORD_COUNT rfl) (fun _ => .int _)) (nomark _)) (a_var (pv 1)) a_non))))))), ?_⟩
    walk_at "rd"
    refine ⟨z, rfl, hl, ?_⟩
    have fin : ∀ {x : Option Nat}, x = nof z → Q (numD x) M := fun e => e ▸ k
    walk_at "rd"
    refine G.i_nd (fun h1 => ?_) (fun h1 => ?_)
    · walk_at "rd"
      refine fin (x := none) ?_
      unfold nof
      rw [if_neg]
      rintro ⟨h2, h3, h4⟩
      refine h1 ⟨?_, ?_, h2⟩
      · rw [len_tl, ← h3]
        cases e : numL (NumText.digitsVal (tl z)) with
        | nil => exact absurd e (numL_ne _)
        | cons _ _ => simp
      · rw [len_tl, ← h3]
        exact numL_len (by decide) (by omega)
    · obtain ⟨l1, l5, hd⟩ := h1
      have hd' := (digs_iff _).mp hd
      obtain ⟨c, r, ez⟩ : ∃ c r, tl z = c :: r := by
        cases e : tl z with
        | nil => rw [len_tl, e] at l1; simp at l1
        | cons c r => exact ⟨c, r, rfl⟩
      have ix : atI z.cps.toList 0 = some c := by
        show atI (tl z) 0 = some c
        rw [ez]; exact atI_nat (j := 0) rfl
      have hv : PySem.intText? z = some ((NumText.digitsVal (tl z) : Nat) : Int) := intText_digits hd' (by show tl z ≠ []; rw [ez]; simp) (by omega)
      have c0 : (⟨#[c]⟩ : Str) = "0" ↔ c = 48 := one_eq c
      have z0 : z = "0" ↔ tl z = [48] := eq_zero z
      have hsz : z.length ≤ sizeLine := by rw [line_val]; omega
      walk_at "rd"
      refine s_cut (fun xs M2 => xs = [some (.str z), none] ∧ M2 = M ∧ (tl z = [48] ∨ (tl z).head? ≠ some 48)) ?_ ?_
      · walk_at "rd"
        refine G.i_d (fun h2 => ?_) (fun h2 => ?_)
        · walk_at "rd"
          refine G.i_nd (fun h3 => ?_) (fun h3 => ?_)
          · walk_at "rd"
            refine fin (x := none) ?_
            unfold nof
            rw [if_neg]
            rintro ⟨_, h4, _⟩
            have e48 := c0.mp h2
            have hh := num_head (NumText.digitsVal (tl z)) (by rw [h4, ez, e48]; rfl)
            rw [hh, numL_lt (by decide)] at h4
            exact h3 (z0.mpr h4.symm)
          · walk_at "rd"
            exact ⟨rfl, rfl, .inl (z0.mp h3)⟩
        · walk_at "rd"
          refine ⟨rfl, rfl, .inr ?_⟩
          rw [ez]
          simp only [List.head?_cons, ne_eq, Option.some.injEq]
          exact fun h => h2 (c0.mpr h)
      · rintro _ _ ⟨rfl, rfl, hz⟩
        have hb := num_back _ (tl z) rfl hd' (by rw [ez]; simp) hz
        walk_at "rd"
        with_reducible refine G.i_d (fun h4 => ?_) (fun h4 => ?_)
        · walk_at "rd"
          refine fin (x := some (NumText.digitsVal (tl z))) ?_
          unfold nof
          rw [if_pos ⟨hd, hb, by omega⟩]
        · walk_at "rd"
          refine fin (x := none) ?_
          unfold nof
          rw [if_neg (fun q => by omega)]
theorem ok_split_words (T : Top K mg) : Cal P w K mg base CX0 1 "split_words" ["text"] (conSp K sp_parts) := by
  refine def_A T.f_split_words sc_split_words (fun _ _ _ _ _ _ us hl => match us, hl with | [_], _ => rfl) (fun ds M Q E h => ?_) (fun f cdv Ar outer s H E ds M Q EX hr h => ?_)
  · obtain ⟨z, rfl, _⟩ := h
    rfl
  · obtain ⟨z, rfl, hl, k⟩ := h
    refine ⟨_, (as_cons (as_if (a_tcmp (o_eq (K := K) (un64 hr)) (a_var (pv 0)) a_str (nomark _))
  (as_one (as_ret (ps_ret (a_lstO aa_nil))))
  as_nil)
  (as_one (as_ret (ps_ret (a_bm o_split (pe_bm PySem.F.plainAttrs_str PySem.F.slot_str_split PySem.F.type_str_split g_split (a_var (pv 0)) (aa_cons a_str aa_nil))))))), ?_⟩
    unfold parts at k
    walk_at "rd"
    refine G.i_d (fun h1 => ?_) (fun h1 => ?_)
    · rw [if_pos h1] at k
      walk_at "rd"
      intro a
      exact .fz (.lst .hd) k
    · rw [if_neg h1] at k
      walk_at "rd"
      exact k
end


local macro_rules | `(tactic| walk_at "re") => `(tactic| (walk_at "wh"; repeat ((first | walk_at "a0" | ((with_reducible refine AV.Nx.of ?_); (try walk_at "st"))); walk_at "wh")))

/-! ### the errors' __init__, words among the words -/
def WsOk (ws : List Str) : Prop := ws.length ≤ 1000000 ∧ ∀ z ∈ ws, z.length ≤ 10000000
theorem at_mapS {α : Type} {l : List α} {fn : α → D} {i : Nat} {x : α} (h : l[i]? = some x) : atI (l.map fn) (i : Int) = some (fn x) := atI_nat (by rw [List.getElem?_map, h]; rfl)
section
variable {P : Program} {w : World} {K : PySem.W.Frag} {mg : Str → Option Value} {base : Heap} {C : Cs}
theorem ok_BadText_init (T : Top K mg) (Z : Txt K mg C) : MCal P w K mg base CX0 1 C.BadText "__init__" ["self", "at"] (spExI C.BadText "at") := by
  refine met_ok Z.m_BadText_init sc_BadText_init (fun _ _ _ _ _ _ us hl => match us, hl with | [_, _], _ => rfl) (fun vs H Q E h => ?_) (fun f cdv A outer s H vs Q E hr h => ?_)
  · obtain ⟨a, v, rfl, _⟩ := h
    rfl
  · refine ⟨_, (pss_cons (ps_expr (pe_binit (K := K) rfl Z.b_BlameError Z.n_BlameError (by rfl) (pa_cons (pv 0) (pa_cons (pe_joined (PJ.cons pe_str (PJ.cons (pe_fmt (pv 1)) PJ.nil))) pa_nil))))
  (pss_one (ost_K (ps_ost (pv 0) (pv 1))))), ?_⟩
    exact exinit_reads Z.e_BadText Z.a_BadText_at h fun a v H R hv k => fmt2 (by decide) hv k
end

/-! ### expressions, statements, components as data -/
abbrev natD (n : Nat) : D := .int (n : Nat)
inductive Ex where
  | num (n : Nat)
  | loc (n : Nat)
  | get (b : Nat) (e : Ex)
  | op (z : Str) (a b : Ex)
deriving DecidableEq
def Ex.d : Ex → D
  | .num n => .tup [.str "number", natD n]
  | .loc n => .tup [.str "local", natD n]
  | .get b e => .tup [.str "get", natD b, e.d]
  | .op z a b => .tup [.str z, a.d, b.d]
abbrev opsL : List Str := ["+", "-", "*", "/", "mod", "<", "="]
inductive St where
  | set (l : Nat) (e : Ex)
  | put (b : Nat) (i e : Ex)
  | call (l p : Nat) (e : Ex)
  | use (l i : Nat) (e : Ex)
  | ifs (t : Ex) (a b : List St)
  | wh (t : Ex) (a : List St)
  | ret (e : Ex)
mutual
def St.d : St → D
  | .set l e => .tup [.str "set", natD l, e.d]
  | .put b i e => .tup [.str "put", natD b, i.d, e.d]
  | .call l p e => .tup [.str "call", natD l, natD p, e.d]
  | .use l i e => .tup [.str "use", natD l, natD i, e.d]
  | .ifs t a b => .tup [.str "if", t.d, .tup (stsD a), .tup (stsD b)]
  | .wh t a => .tup [.str "while", t.d, .tup (stsD a)]
  | .ret e => .tup [.str "return", e.d]
def stsD : List St → List D
  | [] => []
  | x :: xs => x.d :: stsD xs
end
theorem stsD_map (xs : List St) : stsD xs = xs.map St.d := by
  induction xs with
  | nil => simp [stsD]
  | cons x xs ih => simp [stsD, ih]
/-- how deep an expression is -/
def Ex.dep : Ex → Nat
  | .num _ => 1
  | .loc _ => 1
  | .get _ e => e.dep + 1
  | .op _ a b => max a.dep b.dep + 1
theorem Ex.dep_pos (e : Ex) : 1 ≤ e.dep := by cases e <;> simp [Ex.dep]
/-- the numbers of locals, buffers, procedures, imports -/
structure Sh where
  (nl nb np ni : Nat)
def Ex.ok (h : Sh) : Ex → Prop
  | .num n => n < 65536
  | .loc n => n < h.nl
  | .get b e => b < h.nb ∧ e.ok h
  | .op z a b => z ∈ opsL ∧ a.ok h ∧ b.ok h
abbrev Ex.okd (h : Sh) (d : Nat) (e : Ex) : Prop := e.ok h ∧ e.dep ≤ d
mutual
def St.ok (h : Sh) : St → Nat → Prop
  | .set l e, _ => l < h.nl ∧ e.okd h 4
  | .put b i e, _ => b < h.nb ∧ i.okd h 4 ∧ e.okd h 4
  | .call l p e, _ => l < h.nl ∧ p < h.np ∧ e.okd h 4
  | .use l i e, _ => l < h.nl ∧ i < h.ni ∧ e.okd h 4
  | .ifs t a b, n => 0 < n ∧ t.okd h 4 ∧ (a.length ≤ 2000 ∧ stsOk h a (n - 1)) ∧ (b.length ≤ 2000 ∧ stsOk h b (n - 1))
  | .wh t a, n => 0 < n ∧ t.okd h 4 ∧ (a.length ≤ 2000 ∧ stsOk h a (n - 1))
  | .ret e, _ => e.okd h 4
def stsOk (h : Sh) : List St → Nat → Prop
  | [], _ => True
  | x :: xs, n => x.ok h n ∧ stsOk h xs n
end
theorem stsOk_iff {h : Sh} {n : Nat} {xs : List St} : stsOk h xs n ↔ ∀ x ∈ xs, x.ok h n := by
  induction xs with
  | nil => simp [stsOk]
  | cons x xs ih => simp [stsOk, ih]
/-- a block -/
abbrev BkOk (h : Sh) (n : Nat) (xs : List St) : Prop := xs.length ≤ 2000 ∧ stsOk h xs n
structure Cm where
  room : Nat
  bufs : List (List Nat)
  procs : List (Nat × List St)
abbrev bufD (b : List Nat) : D := .tup (b.map natD)
abbrev bufsD (bs : List (List Nat)) : D := .tup (bs.map bufD)
abbrev procD (p : Nat × List St) : D := .tup [natD p.1, .tup (p.2.map St.d)]
abbrev procsD (ps : List (Nat × List St)) : D := .tup (ps.map procD)
def Cm.row (c : Cm) : D := .tup [natD c.room, bufsD c.bufs, procsD c.procs]
/-- exports, imports of a component; blocks at most n deep -/
structure Cm.ok (c : Cm) (n ex ni : Nat) : Prop where
  room : c.room ≤ 20000
  nb : c.bufs.length ≤ 8
  buf : ∀ b ∈ c.bufs, (1 ≤ b.length ∧ b.length ≤ 1000) ∧ ∀ x ∈ b, x < 65536
  np : 1 ≤ c.procs.length ∧ ex ≤ c.procs.length ∧ c.procs.length ≤ 9
  proc : ∀ p ∈ c.procs, (1 ≤ p.1 ∧ p.1 ≤ 16) ∧ BkOk ⟨p.1, c.bufs.length, c.procs.length, ni⟩ n p.2

/-! ### the reader of a component's words -/
/-- where the reader stands, and the counts it knows -/
structure Rst where
  at_ : Nat
  ic : Nat
  bc : Nat
  pc : Nat
  lc : Nat
abbrev rdF (ws : List Str) (s : Rst) : List (Str × D) := [("words", .lst (ws.map D.str)), ("at", .int (s.at_ : Nat)), ("import_count", .int (s.ic : Nat)), ("buffer_count", .int (s.bc : Nat)), ("procedure_count", .int (s.pc : Nat)), ("local_count", .int (s.lc : Nat))]
abbrev rdO (C : Cs) (ws : List Str) (s : Rst) : Ob := .ins C.Reader (rdF ws s)
/-- a method of the reader: T the objects made since, M0 those before it -/
def RdC (K : PySem.W.Frag) (C : Cs) (r : Addr) (ws : List Str) (s : Rst) (T M0 M : Mem) (E : AXc) {α : Type} (dv : α → D) (res : Nat ⊕ (α × Rst)) (Q : AQ) : Prop :=
  M = T ++ (r, rdO C ws s) :: M0 ∧ s.at_ ≤ ws.length ∧ WsOk ws ∧ (∀ i, res = .inl i → ∀ M', Gone K M' M0 → E C.BadText [("at", .int (i : Nat))] M') ∧ ∀ v s', res = .inr (v, s') → Q (dv v) (T ++ (r, rdO C ws s') :: M0)
def nextW (ws : List Str) (s : Rst) : Nat ⊕ (Str × Rst) := match ws[s.at_]? with
  | none => .inl s.at_
  | some z => .inr (z, s)
def exactW (ws : List Str) (z : Str) (s : Rst) : Nat ⊕ (Unit × Rst) := if ws[s.at_]? = some z then .inr ((), { s with at_ := s.at_ + 1 }) else .inl s.at_
def numW (ws : List Str) (lo hi : Nat) (s : Rst) : Nat ⊕ (Nat × Rst) := match numAt' ws s.at_ with
  | none => .inl s.at_
  | some n => if lo ≤ n ∧ n ≤ hi then .inr (n, { s with at_ := s.at_ + 1 }) else .inl s.at_
where numAt' (ws : List Str) (i : Nat) : Option Nat := match ws[i]? with
  | none => none
  | some z => nof z
def sp_next (K : PySem.W.Frag) (C : Cs) : ASp := fun ds M Q E => ∃ r ws s T M0, ds = [.r r] ∧ RdC K C r ws s T M0 M E D.str (nextW ws s) Q
def sp_exactly (K : PySem.W.Frag) (C : Cs) : ASp := fun ds M Q E => ∃ r ws s T M0, ∃ z : Str, ds = [.r r, .str z] ∧ RdC K C r ws s T M0 M E (fun _ => .non) (exactW ws z s) Q
def sp_takenum (K : PySem.W.Frag) (C : Cs) : ASp := fun ds M Q E => ∃ r ws s T M0, ∃ lo hi : Nat, ds = [.r r, .int (lo : Nat), .int (hi : Nat)] ∧ RdC K C r ws s T M0 M E natD (numW ws lo hi s) Q
/-- the number behind the letter c -/
def nameOf (c z : Str) : Option Nat := if Txt.startswith z c = true then nof (cutS z (some 1) none) else none
def nameW (ws : List Str) (c : Str) (many : Nat) (s : Rst) : Nat ⊕ (Nat × Rst) := match ws[s.at_]? with
  | none => .inl s.at_
  | some z => match nameOf c z with
    | none => .inl s.at_
    | some n => if n < many then .inr (n, { s with at_ := s.at_ + 1 }) else .inl s.at_
def sp_name (K : PySem.W.Frag) (C : Cs) : ASp := fun ds M Q E => ∃ r ws s T M0, ∃ (c : Str) (many : Nat), ds = [.r r, .str c, .int (many : Nat)] ∧ RdC K C r ws s T M0 M E natD (nameW ws c many s) Q
def sp_local (K : PySem.W.Frag) (C : Cs) : ASp := fun ds M Q E => ∃ r ws s T M0, ds = [.r r] ∧ RdC K C r ws s T M0 M E natD (nameW ws "l" s.lc s) Q
local macro_rules | `(tactic| walk_at "at") => `(tactic| with_reducible first | exact AV.At.hd | assumption | exact AV.At.put (by assumption) | exact AV.At.app | (refine' AV.At.tl ?k6; (case k6 => walk_at "at")))
section
variable {P : Program} {w : World} {K : PySem.W.Frag} {mg : Str → Option Value} {base : Heap} {C : Cs}
theorem ok_Reader_next_word (T : Top K mg) (Z : Txt K mg C) : MCal P w K mg base (HX P w) 3 C.Reader "next_word" ["self"] (conSp K (sp_next K C)) := by
  refine met_AX Z.m_Reader_next_word sc_Reader_next_word (fun _ _ _ _ _ _ us hl => match us, hl with | [_], _ => rfl) (fun ds M Q E h => ?_) (fun f cdv Ar outer s0 H E ds M Q EX hr h => ?_)
  · obtain ⟨r, ws, s, T, M0, rfl, _⟩ := h
    rfl
  · obtain ⟨r, ws, s, U, M0, rfl, rfl, hat, ⟨hl, hw⟩, k1, k2⟩ := h
    refine ⟨_, (as_cons (as_if (a_tcmp (o_eq (K := K) (un64 hr)) (a_fld (K := K) (a_var (pv 0))) (a_callB (o_len (K := K)) (by rfl) T.b_len PySem.boot_len (aa_cons (a_fld (K := K) (a_var (pv 0))) aa_nil)) (nomark _))
  (as_one (as_raise (g_raiseN rfl (takesE rfl rfl rfl rfl) (g_mkexN Z.n_BadText Z.e_BadText (ok_BadText_init T Z) (hr.mono (by decide)) (by rfl) (aa_cons (a_fld (K := K) (a_var (pv 0))) aa_nil)))))
  as_nil)
  (as_one (as_ret (ps_ret (a_ix (o_ix (K := K)) (a_fld (K := K) (a_var (pv 0))) (a_fld (K := K) (a_var (pv 0))) (fun _ _ => rfl)))))), ?_⟩
    have hc := Z.k_Reader.cl
    have n1 := Z.a_Reader_at
    have n2 := Z.a_Reader_words
    walk_at "rd"
    rw [List.length_map]
    refine G.i_d (fun h1 => ?_) (fun h1 => ?_)
    · walk_at "rd"
      have e : ws[s.at_]? = none := List.getElem?_eq_none (by omega)
      exact k1 _ (by unfold nextW; rw [e]) _ (Gone.app Gone.refl.hd)
    · have hlt : s.at_ < ws.length := by omega
      have yw : ws[s.at_]? = some ws[s.at_] := List.getElem?_eq_getElem hlt
      have aw : atI (ws.map D.str) (s.at_ : Int) = some (.str ws[s.at_]) := at_mapS yw
      walk_at "rd"
      exact k2 _ _ (by unfold nextW; rw [yw])
theorem next_use {r : Addr} {ws : List Str} {s : Rst} {T M0 : Mem} {E : AXc} {Q : AQ} (hat : s.at_ ≤ ws.length) (hw : WsOk ws) (k1 : ws[s.at_]? = none → ∀ M', Gone K M' M0 → E C.BadText [("at", .int (s.at_ : Nat))] M')
    (k2 : ∀ z, ws[s.at_]? = some z → Q (.str z) (T ++ (r, rdO C ws s) :: M0)) : sp_next K C [.r r] (T ++ (r, rdO C ws s) :: M0) Q E := by
  refine ⟨r, ws, s, T, M0, rfl, rfl, hat, hw, fun i h => ?_, fun v s' h => ?_⟩
  · cases e : ws[s.at_]? with
    | none => rw [nextW, e] at h; cases h; exact k1 e
    | some z => rw [nextW, e] at h; cases h
  · cases e : ws[s.at_]? with
    | none => rw [nextW, e] at h; cases h
    | some z => rw [nextW, e] at h; cases h; exact k2 _ e
theorem ok_Reader_take_exactly (T : Top K mg) (Z : Txt K mg C) : MCal P w K mg base (HX P w) 4 C.Reader "take_exactly" ["self", "word"] (conSp K (sp_exactly K C)) := by
  refine met_AX Z.m_Reader_take_exactly sc_Reader_take_exactly (fun _ _ _ _ _ _ us hl => match us, hl with | [_, _], _ => rfl) (fun ds M Q E h => ?_) (fun f cdv Ar outer s0 H E ds M Q EX hr h => ?_)
  · obtain ⟨r, ws, s, T, M0, z, rfl, _⟩ := h
    rfl
  · obtain ⟨r, ws, s, U, M0, z, rfl, rfl, hat, hw, k1, k2⟩ := h
    refine ⟨_, (as_cons (as_if (a_tcmp (o_ne (K := K) (un64 hr)) (a_methX0 (g_methX0 (ok_Reader_next_word T Z) Z.k_Reader.cl (hr.mono (by decide)) (takesE rfl rfl rfl rfl) (a_var (pv 0)))) (a_var (pv 1)) (nomark _))
  (as_one (as_raise (g_raiseN rfl (takesE rfl rfl rfl rfl) (g_mkexN Z.n_BadText Z.e_BadText (ok_BadText_init T Z) (hr.mono (by decide)) (by rfl) (aa_cons (a_fld (K := K) (a_var (pv 0))) aa_nil)))))
  as_nil)
  (as_one (as_fldA (K := K) (k := fun i j => i + j) (fun _ _ _ _ h => h) (ps_fldaug (a_var (pv 0)) a_int in_add)))), ?_⟩
    have hc := Z.k_Reader.cl
    have n1 := Z.a_Reader_at
    have hb : s.at_ ≤ 1000000 := Nat.le_trans hat hw.1
    walk_at "rd"
    refine next_use hat hw (fun e => k1 _ (by unfold exactW; rw [e, if_neg nofun])) fun y e => ?_
    walk_at "rd"
    refine G.i_nd (fun h1 => ?_) (fun h1 => ?_)
    · walk_at "rd"
      exact k1 _ (by unfold exactW; rw [e, if_neg fun q => h1 (Option.some.inj q)]) _ (Gone.app Gone.refl.hd)
    · walk_at "rd"
      exact k2 _ _ (by unfold exactW; rw [e, if_pos (by rw [h1])])
theorem ok_Reader_take_number (T : Top K mg) (Z : Txt K mg C) : MCal P w K mg base (HX P w) 4 C.Reader "take_number" ["self", "least", "most"] (conSp K (sp_takenum K C)) := by
  refine met_AX Z.m_Reader_take_number sc_Reader_take_number (fun _ _ _ _ _ _ us hl => match us, hl with | [_, _, _], _ => rfl) (fun ds M Q E h => ?_) (fun f cdv Ar outer s0 H E ds M Q EX hr h => ?_)
  · obtain ⟨r, ws, s, T, M0, lo, hi, rfl, _⟩ := h
    rfl
  · obtain ⟨r, ws, s, U, M0, lo, hi, rfl, rfl, hat, hw, k1, k2⟩ := h
    refine ⟨_, (as_cons (as_set (ps_set (i := 3) sc_Reader_take_number.nd rfl (by first | exact Or.inl rfl | exact Or.inr rfl) (a_call (g_call (ok_number_of T) (hr.mono (by decide)) (by rfl) pass0 (aa_cons (a_methX0 (g_methX0 (ok_Reader_next_word T Z) Z.k_Reader.cl (hr.mono (by decide)) (takesE rfl rfl rfl rfl) (a_var (pv 0)))) aa_nil)))))
  (as_cons (as_if (PW.pt (a_or (a_tcmp o_is (a_var (pv 3)) a_non (nomark _)) (pw_or1 (a_not (a_tchain o_le o_le (a_var (pv 1)) (a_var (pv 3)) (a_var (pv 2)))))))
  (as_one (as_raise (g_raiseN rfl (takesE rfl rfl rfl rfl) (g_mkexN Z.n_BadText Z.e_BadText (ok_BadText_init T Z) (hr.mono (by decide)) (by rfl) (aa_cons (a_fld (K := K) (a_var (pv 0))) aa_nil)))))
  as_nil)
  (as_cons (as_fldA (K := K) (k := fun i j => i + j) (fun _ _ _ _ h => h) (ps_fldaug (a_var (pv 0)) a_int in_add))
  (as_one (as_ret (ps_ret (a_var (pv 3)))))))), ?_⟩
    have hc := Z.k_Reader.cl
    have n1 := Z.a_Reader_at
    have hb : s.at_ ≤ 1000000 := Nat.le_trans hat hw.1
    walk_at "rd"
    refine next_use hat hw (fun e => k1 _ (by unfold numW numW.numAt'; rw [e])) fun y e => ?_
    walk_at "rd"
    refine ⟨y, rfl, hw.2 y (List.mem_of_getElem? e), ?_⟩
    cases en : nof y with
    | none =>
      dsimp only [numD]
      walk_at "rd"
      exact k1 _ (by unfold numW numW.numAt'; rw [e]; dsimp only; rw [en]) _ (Gone.app Gone.refl.hd)
    | some n =>
      dsimp only [numD]
      walk_at "rd"
      have bad : ¬ (lo ≤ n ∧ n ≤ hi) → numW ws lo hi s = .inl s.at_ := fun q => by unfold numW numW.numAt'; rw [e]; dsimp only; rw [en]; dsimp only; rw [if_neg q]
      by_cases h1 : (lo : Int) ≤ (n : Int)
      · rw [decide_eq_true h1, if_pos rfl]
        walk_at "rd"
        refine G.i_nd (fun h2 => ?_) (fun h2 => ?_)
        · walk_at "rd"
          exact k1 _ (bad (by omega)) _ (Gone.app Gone.refl.hd)
        · walk_at "rd"
          exact k2 _ _ (by unfold numW numW.numAt'; rw [e]; dsimp only; rw [en]; dsimp only; rw [if_pos ⟨by omega, by omega⟩])
      · rw [decide_eq_false h1, if_neg Bool.false_ne_true]
        walk_at "rd"
        exact k1 _ (bad (by omega)) _ (Gone.app Gone.refl.hd)
theorem ok_Reader_take_name (T : Top K mg) (Z : Txt K mg C) : MCal P w K mg base (HX P w) 4 C.Reader "take_name" ["self", "letter", "many"] (conSp K (sp_name K C)) := by
  refine met_AX Z.m_Reader_take_name sc_Reader_take_name (fun _ _ _ _ _ _ us hl => match us, hl with | [_, _, _], _ => rfl) (fun ds M Q E h => ?_) (fun f cdv Ar outer s0 H E ds M Q EX hr h => ?_)
  · obtain ⟨r, ws, s, T, M0, c, many, rfl, _⟩ := h
    rfl
  · obtain ⟨r, ws, s, U, M0, c, many, rfl, rfl, hat, hw, k1, k2⟩ := h
    refine ⟨_, (as_cons (as_set (ps_set (i := 3) sc_Reader_take_name.nd rfl (by first | exact Or.inl rfl | exact Or.inr rfl) (a_methX0 (g_methX0 (ok_Reader_next_word T Z) Z.k_Reader.cl (hr.mono (by decide)) (takesE rfl rfl rfl rfl) (a_var (pv 0))))))
  (as_cons (as_set (ps_set (i := 4) sc_Reader_take_name.nd rfl (by first | exact Or.inl rfl | exact Or.inr rfl) (a_ifExp (a_truth (K := K) (a_bm o_starts (pe_bm PySem.F.plainAttrs_str PySem.F.slot_str_startswith PySem.F.type_str_startswith g_starts (a_var (pv 3)) (aa_cons (a_var (pv 1)) aa_nil))) (by intro _; rfl)) (a_call (g_call (ok_number_of T) (hr.mono (by decide)) (by rfl) pass0 (aa_cons (a_slice (o_sl (K := K)) (a_var (pv 3)) (ao_some a_int) ao_none) aa_nil))) a_non)))
  (as_cons (as_if (PW.pt (a_or (a_tcmp o_is (a_var (pv 4)) a_non (nomark _)) (pw_or1 (a_tcmp o_ge (a_var (pv 4)) (a_var (pv 2)) (nomark _)))))
  (as_one (as_raise (g_raiseN rfl (takesE rfl rfl rfl rfl) (g_mkexN Z.n_BadText Z.e_BadText (ok_BadText_init T Z) (hr.mono (by decide)) (by rfl) (aa_cons (a_fld (K := K) (a_var (pv 0))) aa_nil)))))
  as_nil)
  (as_cons (as_fldA (K := K) (k := fun i j => i + j) (fun _ _ _ _ h => h) (ps_fldaug (a_var (pv 0)) a_int in_add))
  (as_one (as_ret (ps_ret (a_var (pv 4))))))))), ?_⟩
    have hc := Z.k_Reader.cl
    have n1 := Z.a_Reader_at
    have hb : s.at_ ≤ 1000000 := Nat.le_trans hat hw.1
    walk_at "rd"
    refine next_use hat hw (fun e => k1 _ (by unfold nameW; rw [e])) fun y e => ?_
    have hy := hw.2 y (List.mem_of_getElem? e)
    have bad : (∀ n, nameOf c y = some n → ¬ n < many) → nameW ws c many s = .inl s.at_ := fun q => by
      unfold nameW
      rw [e]
      dsimp only
      cases en : nameOf c y with
      | none => rfl
      | some n => dsimp only; rw [if_neg (q n en)]
    walk_at "rd"
    cases hs : Txt.startswith y c with
    | false =>
      walk_at "rd"
      exact k1 _ (bad fun n en => by unfold nameOf at en; rw [hs, if_neg Bool.false_ne_true] at en; cases en) _ (Gone.app Gone.refl.hd)
    | true =>
      have hn : nameOf c y = nof (cutS y (some 1) none) := by unfold nameOf; rw [hs, if_pos rfl]
      have hcl : (cutS y (some 1) none).length ≤ 10000000 := Nat.le_trans (cutS_length y _ _) hy
      walk_at "rd"
      refine ⟨_, rfl, hcl, ?_⟩
      rw [← hn]
      cases en : nameOf c y with
      | none =>
        dsimp only [numD]
        walk_at "rd"
        exact k1 _ (bad fun n e2 => by rw [en] at e2; cases e2) _ (Gone.app Gone.refl.hd)
      | some n =>
        dsimp only [numD]
        walk_at "rd"
        refine G.i_d (fun h1 => ?_) (fun h1 => ?_)
        · walk_at "rd"
          exact k1 _ (bad fun m e2 => by rw [en] at e2; cases e2; omega) _ (Gone.app Gone.refl.hd)
        · walk_at "rd"
          exact k2 _ _ (by unfold nameW; rw [e]; dsimp only; rw [en]; dsimp only; rw [if_pos (by omega)])
theorem ok_Reader_take_local (T : Top K mg) (Z : Txt K mg C) : MCal P w K mg base (HX P w) 5 C.Reader "take_local" ["self"] (conSp K (sp_local K C)) := by
  refine met_AX Z.m_Reader_take_local sc_Reader_take_local (fun _ _ _ _ _ _ us hl => match us, hl with | [_], _ => rfl) (fun ds M Q E h => ?_) (fun f cdv Ar outer s0 H E ds M Q EX hr h => ?_)
  · obtain ⟨r, ws, s, T, M0, rfl, _⟩ := h
    rfl
  · obtain ⟨r, ws, s, U, M0, rfl, rfl, hat, hw, k1, k2⟩ := h
    refine ⟨_, (as_one (as_ret (ps_ret (a_methX (g_methX (ok_Reader_take_name T Z) Z.k_Reader.cl (hr.mono (by decide)) (takesE rfl rfl rfl rfl) (a_var (pv 0)) (aa_cons a_str (aa_cons (a_fld (K := K) (a_var (pv 0))) aa_nil))))))), ?_⟩
    have hc := Z.k_Reader.cl
    have n1 := Z.a_Reader_local_count
    walk_at "rd"
    exact ⟨r, ws, s, U, M0, "l", s.lc, rfl, rfl, hat, hw, k1, fun v s1 h => .of (k2 v s1 h)⟩
end



/-! ### expressions -/
def mapR {α β : Type} (f : α → β) : Nat ⊕ (α × Rst) → Nat ⊕ (β × Rst)
  | .inl i => .inl i
  | .inr (a, s) => .inr (f a, s)
def bindR {α β : Type} (x : Nat ⊕ (α × Rst)) (f : α → Rst → Nat ⊕ (β × Rst)) : Nat ⊕ (β × Rst) := match x with
  | .inl i => .inl i
  | .inr (a, s) => f a s
theorem bindR_go {α β : Type} {a : α} {s : Rst} {f : α → Rst → Nat ⊕ (β × Rst)} : bindR (.inr (a, s)) f = f a s := rfl
def Rst.step (s : Rst) : Rst := { s with at_ := s.at_ + 1 }
def expW (ws : List Str) : Nat → Rst → Nat ⊕ (Ex × Rst)
  | 0, s => .inl s.at_
  | d + 1, s => match ws[s.at_]? with
    | none => .inl s.at_
    | some z =>
      if 0 < d ∧ z ∈ opsL then bindR (expW ws d s.step) fun a s1 => bindR (expW ws d s1) fun b s2 => .inr (.op z a b, s2)
      else if 0 < d ∧ z = "get" ∧ 0 < s.bc then bindR (nameW ws "b" s.bc s.step) fun b s1 => bindR (expW ws d s1) fun e s2 => .inr (.get b e, s2)
      else if Txt.startswith z "l" = true then bindR (nameW ws "l" s.lc s) fun n s1 => .inr (.loc n, s1)
      else bindR (numW ws 0 65535 s) fun n s1 => .inr (.num n, s1)
/-- what a step keeps -/
def Rst.goes (ws : List Str) (s s' : Rst) : Prop := s' = { s with at_ := s'.at_ } ∧ s.at_ < s'.at_ ∧ s'.at_ ≤ ws.length
theorem Rst.goes.trans {ws : List Str} {s1 s2 s3 : Rst} (a : Rst.goes ws s1 s2) (b : Rst.goes ws s2 s3) : Rst.goes ws s1 s3 := by
  obtain ⟨a1, a2, a3⟩ := a
  obtain ⟨b1, b2, b3⟩ := b
  refine ⟨?_, by omega, b3⟩
  rw [b1, a1]
theorem Rst.goes.step {ws : List Str} {s s' : Rst} (a : Rst.goes ws s.step s') : Rst.goes ws s s' := by
  obtain ⟨a1, a2, a3⟩ := a
  exact ⟨a1, Nat.lt_of_succ_lt a2, a3⟩
theorem get_lt {ws : List Str} {i : Nat} {z : Str} (h : ws[i]? = some z) : i < ws.length := (List.getElem?_eq_some_iff.mp h).1
theorem nameW_goes {ws : List Str} {c : Str} {m n : Nat} {s s' : Rst} (h : nameW ws c m s = .inr (n, s')) : Rst.goes ws s s' := by
  unfold nameW at h
  cases e : ws[s.at_]? with
  | none => rw [e] at h; cases h
  | some z =>
    rw [e] at h
    dsimp only at h
    cases en : nameOf c z with
    | none => rw [en] at h; cases h
    | some k =>
      rw [en] at h
      dsimp only at h
      split at h
      · cases h
        exact ⟨rfl, Nat.lt_succ_self _, get_lt e⟩
      · cases h
theorem numW_goes {ws : List Str} {lo hi n : Nat} {s s' : Rst} (h : numW ws lo hi s = .inr (n, s')) : Rst.goes ws s s' := by
  unfold numW numW.numAt' at h
  cases e : ws[s.at_]? with
  | none => rw [e] at h; cases h
  | some z =>
    rw [e] at h
    dsimp only at h
    cases en : nof z with
    | none => rw [en] at h; cases h
    | some k =>
      rw [en] at h
      dsimp only at h
      split at h
      · cases h
        exact ⟨rfl, Nat.lt_succ_self _, get_lt e⟩
      · cases h
theorem exactW_goes {ws : List Str} {z : Str} {u : Unit} {s s' : Rst} (h : exactW ws z s = .inr (u, s')) : Rst.goes ws s s' := by
  unfold exactW at h
  split at h
  · rename_i e
    cases h
    exact ⟨rfl, Nat.lt_succ_self _, get_lt e⟩
  · cases h
theorem bindR_inr {α β : Type} {x : Nat ⊕ (α × Rst)} {f : α → Rst → Nat ⊕ (β × Rst)} {y : β} {s' : Rst} (h : bindR x f = .inr (y, s')) : ∃ a s1, x = .inr (a, s1) ∧ f a s1 = .inr (y, s') := by
  cases x with
  | inl i => cases h
  | inr p => exact ⟨p.1, p.2, rfl, h⟩
theorem expW_goes {ws : List Str} : ∀ (d : Nat) {e : Ex} {s s' : Rst}, expW ws d s = .inr (e, s') → Rst.goes ws s s'
  | 0, e, s, s', h => by cases h
  | d + 1, e, s, s', h => by
    rw [expW] at h
    cases ez : ws[s.at_]? with
    | none => rw [ez] at h; cases h
    | some z =>
      rw [ez] at h
      dsimp only at h
      split at h
      · obtain ⟨a, s1, h1, h2⟩ := bindR_inr h
        obtain ⟨b, s2, h3, h4⟩ := bindR_inr h2
        cases h4
        exact ((expW_goes d h1).step).trans (expW_goes d h3)
      · split at h
        · obtain ⟨a, s1, h1, h2⟩ := bindR_inr h
          obtain ⟨b, s2, h3, h4⟩ := bindR_inr h2
          cases h4
          exact ((nameW_goes h1).step).trans (expW_goes d h3)
        · split at h
          · obtain ⟨a, s1, h1, h2⟩ := bindR_inr h
            cases h2
            exact nameW_goes h1
          · obtain ⟨a, s1, h1, h2⟩ := bindR_inr h
            cases h2
            exact numW_goes h1
def sp_exp (K : PySem.W.Frag) (C : Cs) (d : Nat) : ASp := fun ds M Q E => ∃ r ws s T M0, ds = [.r r, natD d] ∧ 0 < d ∧ d ≤ 100 ∧ RdC K C r ws s T M0 M E Ex.d (expW ws d s) Q
section
variable {P : Program} {w : World} {K : PySem.W.Frag} {mg : Str → Option Value} {base : Heap} {C : Cs}
theorem ok_Reader_take_expression (T : Top K mg) (Z : Txt K mg C) : ∀ d, MCal P w K mg base (HX P w) (6 + d) C.Reader "take_expression" ["self", "depth"] (conSp K (sp_exp K C d))
  | 0 => met_AX Z.m_Reader_take_expression sc_Reader_take_expression (fun _ _ _ _ _ _ us hl => match us, hl with | [_, _], _ => rfl) (fun ds M Q E h => by obtain ⟨_, _, _, _, _, _, h, _⟩ := h; exact absurd h (Nat.lt_irrefl 0)) (fun f cdv Ar outer s0 H E ds M Q EX hr h => by obtain ⟨_, _, _, _, _, _, h, _⟩ := h; exact absurd h (Nat.lt_irrefl 0))
  | d + 1 => by
    have IH := ok_Reader_take_expression T Z d
    refine met_AX (k := 6 + d) Z.m_Reader_take_expression sc_Reader_take_expression (fun _ _ _ _ _ _ us hl => match us, hl with | [_, _], _ => rfl) (fun ds M Q E h => ?_) (fun f cdv Ar outer s0 H E ds M Q EX hr h => ?_)
    · obtain ⟨r, ws, s, T, M0, rfl, _⟩ := h
      rfl
    · obtain ⟨r, ws, s, U, M0, rfl, _, hd, rfl, hat, hw, k1, k2⟩ := h
      refine ⟨_, (as_cons (as_set (ps_set (i := 2) sc_Reader_take_expression.nd rfl (by first | exact Or.inl rfl | exact Or.inr rfl) (a_methX0 (g_methX0 (ok_Reader_next_word T Z) Z.k_Reader.cl (hr.mono (by omega)) (takesE rfl rfl rfl rfl) (a_var (pv 0))))))
  (as_cut (as_if (PW.pt (a_and (a_tcmp o_gt (a_var (pv 1)) a_int (nomark _)) (pw_and1 (a_tcmp (o_in (K := K) (un65 hr)) (a_var (pv 2)) (a_ctup T.c_OPERATORS rfl) rfl))))
  (as_cons (as_fldA (K := K) (k := fun i j => i + j) (fun _ _ _ _ h => h) (ps_fldaug (a_var (pv 0)) a_int in_add))
    (as_one (as_ret (ps_ret (a_tup (aa_cons (a_var (pv 2)) (aa_cons (a_methX (g_methX IH Z.k_Reader.cl (hr.mono (by omega)) (takesE rfl rfl rfl rfl) (a_var (pv 0)) (aa_cons (a_op o_sub (a_var (pv 1)) a_int) aa_nil))) (aa_cons (a_methX (g_methX IH Z.k_Reader.cl (hr.mono (by omega)) (takesE rfl rfl rfl rfl) (a_var (pv 0)) (aa_cons (a_op o_sub (a_var (pv 1)) a_int) aa_nil))) aa_nil))))))))
  as_nil)
  (as_cut (as_if (PW.pt (a_and (a_tcmp o_gt (a_var (pv 1)) a_int (nomark _)) (a_and (a_tcmp (o_eq (K := K) (un64 hr)) (a_var (pv 2)) a_str (nomark _)) (pw_and1 (a_tcmp o_gt (a_fld (K := K) (a_var (pv 0))) a_int (nomark _))))))
  (as_cons (as_fldA (K := K) (k := fun i j => i + j) (fun _ _ _ _ h => h) (ps_fldaug (a_var (pv 0)) a_int in_add))
    (as_one (as_ret (ps_ret (a_tup (aa_cons (a_var (pv 2)) (aa_cons (a_methX (g_methX (ok_Reader_take_name T Z) Z.k_Reader.cl (hr.mono (by omega)) (takesE rfl rfl rfl rfl) (a_var (pv 0)) (aa_cons a_str (aa_cons (a_fld (K := K) (a_var (pv 0))) aa_nil)))) (aa_cons (a_methX (g_methX IH Z.k_Reader.cl (hr.mono (by omega)) (takesE rfl rfl rfl rfl) (a_var (pv 0)) (aa_cons (a_op o_sub (a_var (pv 1)) a_int) aa_nil))) aa_nil))))))))
  as_nil)
  (as_cons (as_if (a_truth (K := K) (a_bm o_starts (pe_bm PySem.F.plainAttrs_str PySem.F.slot_str_startswith PySem.F.type_str_startswith g_starts (a_var (pv 2)) (aa_cons a_str aa_nil))) (by intro _; rfl))
  (as_one (as_ret (ps_ret (a_tup (aa_cons a_str (aa_cons (a_methX0 (g_methX0 (ok_Reader_take_local T Z) Z.k_Reader.cl (hr.mono (by omega)) (takesE rfl rfl rfl rfl) (a_var (pv 0)))) aa_nil))))))
  as_nil)
  (as_one (as_ret (ps_ret (a_tup (aa_cons a_str (aa_cons (a_methX (g_methX (ok_Reader_take_number T Z) Z.k_Reader.cl (hr.mono (by omega)) (takesE rfl rfl rfl rfl) (a_var (pv 0)) (aa_cons a_int (aa_cons (a_op o_sub (a_c (g_cint T.c_WORD_COUNT rfl) (fun _ => .int _)) a_int) aa_nil)))) aa_nil)))))))))), ?_⟩
      have hc := Z.k_Reader.cl
      have n1 := Z.a_Reader_at
      have n2 := Z.a_Reader_buffer_count
      have hb : s.at_ ≤ 1000000 := Nat.le_trans hat hw.1
      walk_at "rd"
      refine next_use hat hw (fun e => k1 _ (by rw [expW, e])) fun z e => ?_
      have hlt := get_lt e
      rw [expW, e] at k1 k2
      dsimp only at k1 k2
      have hx : (((d + 1 : Nat) : Int) - 1) = ((d : Nat) : Int) := by omega
      walk_at "rd"
      refine s_cut (fun xs M' => ¬ (0 < d ∧ z ∈ opsL) ∧ xs = [some (.r r), some (natD (d + 1)), some (.str z)] ∧ M' = U ++ (r, rdO C ws s) :: M0) ?_ ?_
      · walk_at "rd"
        refine G.i_d (fun h1 => ?_) (fun h1 => ?_)
        · walk_at "rd"
          refine aIn.txts (zs := opsL) .t ?_
          walk_at "rd"
          refine G.i_d (fun h2 => ?_) (fun h2 => ?_)
          · rw [if_pos ⟨by omega, h2⟩] at k1 k2
            walk_at "rd"
            rw [hx]
            refine ⟨r, ws, s.step, U, M0, rfl, by omega, by omega, rfl, hlt, hw, fun i hi => k1 i (by rw [hi]; rfl), fun a s1 ha => ?_⟩
            have g1 := expW_goes _ ha
            rw [ha, bindR_go] at k1 k2
            walk_at "rd"
            rw [hx]
            refine ⟨r, ws, s1, U, M0, rfl, by omega, by omega, rfl, g1.2.2, hw, fun i hi => k1 i (by rw [hi]; rfl), fun b s2 hb2 => ?_⟩
            walk_at "re"
            exact .of (k2 (.op z a b) s2 (by rw [hb2]; rfl))
          · walk_at "rd"
            exact ⟨fun q => h2 q.2, rfl, rfl⟩
        · walk_at "rd"
          exact ⟨fun q => h1 (by omega), rfl, rfl⟩
      rintro xs M' ⟨q1, rfl, rfl⟩
      rw [if_neg q1] at k1 k2
      refine s_cut (fun xs M' => ¬ (0 < d ∧ z = "get" ∧ 0 < s.bc) ∧ xs = [some (.r r), some (natD (d + 1)), some (.str z)] ∧ M' = U ++ (r, rdO C ws s) :: M0) ?_ ?_
      · walk_at "rd"
        refine G.i_d (fun h1 => ?_) (fun h1 => ?_)
        · walk_at "rd"
          refine G.i_d (fun h2 => ?_) (fun h2 => ?_)
          · walk_at "rd"
            refine G.i_d (fun h3 => ?_) (fun h3 => ?_)
            · rw [if_pos ⟨by omega, h2, by omega⟩] at k1 k2
              walk_at "rd"
              refine ⟨r, ws, s.step, U, M0, "b", s.bc, rfl, rfl, hlt, hw, fun i hi => k1 i (by rw [hi]; rfl), fun a s1 ha => ?_⟩
              have g1 := nameW_goes ha
              rw [ha, bindR_go] at k1 k2
              walk_at "rd"
              rw [hx]
              refine ⟨r, ws, s1, U, M0, rfl, by omega, by omega, rfl, g1.2.2, hw, fun i hi => k1 i (by rw [hi]; rfl), fun b s2 hb2 => ?_⟩
              walk_at "re"
              rw [h2]
              exact .of (k2 (.get a b) s2 (by rw [hb2]; rfl))
            · walk_at "rd"
              exact ⟨fun q => h3 (by omega), rfl, rfl⟩
          · walk_at "rd"
            exact ⟨fun q => h2 q.2.1, rfl, rfl⟩
        · walk_at "rd"
          exact ⟨fun q => h1 (by omega), rfl, rfl⟩
      rintro xs M' ⟨q2, rfl, rfl⟩
      rw [if_neg q2] at k1 k2
      walk_at "rd"
      cases hs : Txt.startswith z "l" with
      | true =>
        rw [hs, if_pos rfl] at k1 k2
        walk_at "rd"
        refine ⟨r, ws, s, U, M0, rfl, rfl, hat, hw, fun i hi => k1 i (by rw [hi]; rfl), fun a s1 ha => ?_⟩
        rw [ha, bindR_go] at k1 k2
        walk_at "re"
        exact .of (k2 (.loc a) s1 rfl)
      | false =>
        rw [hs, if_neg Bool.false_ne_true] at k1 k2
        walk_at "rd"
        refine ⟨r, ws, s, U, M0, 0, 65535, rfl, rfl, hat, hw, fun i hi => k1 i (by rw [hi]; rfl), fun a s1 ha => ?_⟩
        rw [ha, bindR_go] at k1 k2
        walk_at "re"
        exact .of (k2 (.num a) s1 rfl)
end



/-! ### statements -/
/-- a call's parts: the local, the number behind c, the expression -/
def callW (ws : List Str) (c : Str) (many : Nat) (s : Rst) : Nat ⊕ ((Nat × Nat × Ex) × Rst) :=
  bindR (nameW ws "l" s.lc s) fun l s1 => bindR (nameW ws c many s1) fun n s2 => bindR (expW ws 4 s2) fun e s3 => .inr ((l, n, e), s3)
def fitsW (n : Nat) (s : Rst) (z : Str) : Bool :=
  if z = "put" then decide (0 < s.bc) else if z = "use" then decide (0 < s.ic) else if z ∈ (["if", "while"] : List Str) then decide (0 < n) else decide (z ∈ (["set", "call", "return"] : List Str))
def sp_call (K : PySem.W.Frag) (C : Cs) : ASp := fun ds M Q E => ∃ r ws s T M0, ∃ (z c : Str) (many : Nat), ds = [.r r, .str z, .str c, natD many] ∧ RdC K C r ws s T M0 M E (fun (p : Nat × Nat × Ex) => .tup [.str z, natD p.1, natD p.2.1, p.2.2.d]) (callW ws c many s) Q
def sp_fits (C : Cs) : ASp := fun ds M Q E => ∃ (r : Addr) (ws : List Str) (s : Rst) (u : Ob → Mem) (z : Str) (dep n : Nat), ds = [.r r, .str z, natD dep] ∧ At M r (rdO C ws s) u ∧ dep + n = 6 ∧ Q (.bl (fitsW n s z)) M
section
variable {P : Program} {w : World} {K : PySem.W.Frag} {mg : Str → Option Value} {base : Heap} {C : Cs}
theorem ok_Reader_take_call (T : Top K mg) (Z : Txt K mg C) : MCal P w K mg base (HX P w) 11 C.Reader "take_call" ["self", "word", "letter", "many"] (conSp K (sp_call K C)) := by
  refine met_AX Z.m_Reader_take_call sc_Reader_take_call (fun _ _ _ _ _ _ us hl => match us, hl with | [_, _, _, _], _ => rfl) (fun ds M Q E h => ?_) (fun f cdv Ar outer s0 H E ds M Q EX hr h => ?_)
  · obtain ⟨r, ws, s, T, M0, z, c, many, rfl, _⟩ := h
    rfl
  · obtain ⟨r, ws, s, U, M0, z, c, many, rfl, rfl, hat, hw, k1, k2⟩ := h
    refine ⟨_, (as_cons (as_set (ps_set (i := 4) sc_Reader_take_call.nd rfl (by first | exact Or.inl rfl | exact Or.inr rfl) (a_methX0 (g_methX0 (ok_Reader_take_local T Z) Z.k_Reader.cl (hr.mono (by decide)) (takesE rfl rfl rfl rfl) (a_var (pv 0))))))
  (as_cons (as_set (ps_set (i := 5) sc_Reader_take_call.nd rfl (by first | exact Or.inl rfl | exact Or.inr rfl) (a_methX (g_methX (ok_Reader_take_name T Z) Z.k_Reader.cl (hr.mono (by decide)) (takesE rfl rfl rfl rfl) (a_var (pv 0)) (aa_cons (a_var (pv 2)) (aa_cons (a_var (pv 3)) aa_nil))))))
  (as_one (as_ret (ps_ret (a_tup (aa_cons (a_var (pv 1)) (aa_cons (a_var (pv 4)) (aa_cons (a_var (pv 5)) (aa_cons (a_methX (g_methX (ok_Reader_take_expression T Z 4) Z.k_Reader.cl (hr.mono (by decide)) (takesE rfl rfl rfl rfl) (a_var (pv 0)) (aa_cons (a_c (g_cint T.c_EXPRESSION_DEPTH rfl) (fun _ => .int _)) aa_nil))) aa_nil)))))))))), ?_⟩
    have hc := Z.k_Reader.cl
    unfold callW at k1 k2
    walk_at "rd"
    refine ⟨r, ws, s, U, M0, rfl, rfl, hat, hw, fun i hi => k1 i (by rw [hi]; rfl), fun l s1 h1 => ?_⟩
    have g1 := nameW_goes h1
    rw [h1, bindR_go] at k1 k2
    walk_at "rd"
    refine ⟨r, ws, s1, U, M0, c, many, rfl, rfl, g1.2.2, hw, fun i hi => k1 i (by rw [hi]; rfl), fun n s2 h2 => ?_⟩
    have g2 := nameW_goes h2
    rw [h2, bindR_go] at k1 k2
    walk_at "rd"
    refine ⟨r, ws, s2, U, M0, rfl, by decide, by decide, rfl, g2.2.2, hw, fun i hi => k1 i (by rw [hi]; rfl), fun e s3 h3 => ?_⟩
    rw [h3, bindR_go] at k1 k2
    walk_at "re"
    exact .of (k2 (l, n, e) s3 rfl)
theorem ok_Reader_statement_fits (T : Top K mg) (Z : Txt K mg C) : MCal P w K mg base CX0 1 C.Reader "statement_fits" ["self", "word", "depth"] (conSp K (sp_fits C)) := by
  refine met_A Z.m_Reader_statement_fits sc_Reader_statement_fits (fun _ _ _ _ _ _ us hl => match us, hl with | [_, _, _], _ => rfl) (fun ds M Q E h => ?_) (fun f cdv Ar outer s0 H E ds M Q EX hr h => ?_)
  · obtain ⟨r, ws, s, u, z, dep, n, rfl, _⟩ := h
    rfl
  · obtain ⟨r, ws, s, u, z, dep, n, rfl, hat, hdn, k⟩ := h
    refine ⟨_, (as_cons (as_if (a_tcmp (o_eq (K := K) (un64 hr)) (a_var (pv 1)) a_str (nomark _))
  (as_one (as_ret (ps_ret (a_cmp o_gt (a_fld (K := K) (a_var (pv 0))) a_int (nomark _)))))
  as_nil)
  (as_cons (as_if (a_tcmp (o_eq (K := K) (un64 hr)) (a_var (pv 1)) a_str (nomark _))
  (as_one (as_ret (ps_ret (a_cmp o_gt (a_fld (K := K) (a_var (pv 0))) a_int (nomark _)))))
  as_nil)
  (as_cons (as_if (a_tcmp (o_in (K := K) (un65 hr)) (a_var (pv 1)) (a_tup (aa_cons a_str (aa_cons a_str aa_nil))) rfl)
  (as_one (as_ret (ps_ret (a_cmp o_lt (a_var (pv 2)) (a_c (g_cint T.c_BLOCK_DEPTH rfl) (fun _ => .int _)) (nomark _)))))
  as_nil)
  (as_one (as_ret (ps_ret (a_cmp (o_in (K := K) (un65 hr)) (a_var (pv 1)) (a_tup (aa_cons a_str (aa_cons a_str (aa_cons a_str aa_nil)))) rfl))))))), ?_⟩
    have hc := Z.k_Reader.cl
    have n1 := Z.a_Reader_buffer_count
    have n2 := Z.a_Reader_import_count
    unfold fitsW at k
    walk_at "rd"
    refine G.i_d (fun h1 => ?_) (fun h1 => ?_)
    · rw [if_pos h1] at k
      walk_at "rd"
      rw [show decide ((0 : Int) < (s.bc : Int)) = decide (0 < s.bc) by congr 1; exact propext ⟨fun h => by omega, fun h => by omega⟩]
      exact k
    · rw [if_neg h1] at k
      walk_at "rd"
      refine G.i_d (fun h2 => ?_) (fun h2 => ?_)
      · rw [if_pos h2] at k
        walk_at "rd"
        rw [show decide ((0 : Int) < (s.ic : Int)) = decide (0 < s.ic) by congr 1; exact propext ⟨fun h => by omega, fun h => by omega⟩]
        exact k
      · rw [if_neg h2] at k
        walk_at "rd"
        refine aIn.txts (zs := (["if", "while"] : List Str)) .t ?_
        walk_at "rd"
        refine G.i_d (fun h3 => ?_) (fun h3 => ?_)
        · rw [if_pos h3] at k
          walk_at "rd"
          rw [show decide ((dep : Int) < 6) = decide (0 < n) by congr 1; exact propext ⟨fun h => by omega, fun h => by omega⟩]
          exact k
        · rw [if_neg h3] at k
          walk_at "rd"
          refine aIn.txts (zs := (["set", "call", "return"] : List Str)) .t ?_
          exact .of k
end



/-! ### blocks -/
def whW (ws : List Str) (blk : Rst → Nat ⊕ (List St × Rst)) (s : Rst) : Nat ⊕ (St × Rst) :=
  bindR (expW ws 4 s) fun t s1 => bindR (blk s1) fun a s2 => bindR (exactW ws "end" s2) fun _ s3 => .inr (.wh t a, s3)
def elseW (ws : List Str) (blk : Rst → Nat ⊕ (List St × Rst)) (t : Ex) (a : List St) (s : Rst) : Nat ⊕ (St × Rst) := match ws[s.at_]? with
  | none => .inl s.at_
  | some z => if z = "else" then bindR (blk s.step) fun b s3 => if b = [] then .inl s3.at_ else bindR (exactW ws "end" s3) fun _ s4 => .inr (.ifs t a b, s4)
    else bindR (exactW ws "end" s) fun _ s4 => .inr (.ifs t a [], s4)
def ifW (ws : List Str) (blk : Rst → Nat ⊕ (List St × Rst)) (s : Rst) : Nat ⊕ (St × Rst) :=
  bindR (expW ws 4 s) fun t s1 => bindR (blk s1) fun a s2 => elseW ws blk t a s2
def stmtW (ws : List Str) (blk : Rst → Nat ⊕ (List St × Rst)) (z : Str) (s : Rst) : Nat ⊕ (St × Rst) :=
  if z = "set" then bindR (nameW ws "l" s.lc s) fun l s1 => bindR (expW ws 4 s1) fun e s2 => .inr (.set l e, s2)
  else if z = "put" then bindR (nameW ws "b" s.bc s) fun b s1 => bindR (expW ws 4 s1) fun i s2 => bindR (expW ws 4 s2) fun e s3 => .inr (.put b i e, s3)
  else if z = "call" then bindR (callW ws "p" s.pc s) fun p s1 => .inr (.call p.1 p.2.1 p.2.2, s1)
  else if z = "use" then bindR (callW ws "i" s.ic s) fun p s1 => .inr (.use p.1 p.2.1 p.2.2, s1)
  else if z = "if" then ifW ws blk s
  else if z = "while" then whW ws blk s
  else bindR (expW ws 4 s) fun e s1 => .inr (.ret e, s1)
def loopW (ws : List Str) (n : Nat) (blk : Rst → Nat ⊕ (List St × Rst)) : Nat → List St → Rst → Nat ⊕ (List St × Rst)
  | 0, _, s => .inl s.at_
  | f + 1, acc, s => match ws[s.at_]? with
    | none => .inl s.at_
    | some z => if fitsW n s z = true then bindR (stmtW ws blk z s.step) fun x s1 => loopW ws n blk f (acc ++ [x]) s1 else .inr (acc, s)
/-- a block with n depths left; the fuel is the number of the words, and one more -/
def blockW (ws : List Str) : Nat → Rst → Nat ⊕ (List St × Rst)
  | 0 => loopW ws 0 (fun s => .inl s.at_) (ws.length + 1) []
  | n + 1 => loopW ws (n + 1) (blockW ws n) (ws.length + 1) []
abbrev blkD (a : List St) : D := .tup (stsD a)
def sp_block (K : PySem.W.Frag) (C : Cs) (n : Nat) : ASp := fun ds M Q E => ∃ r ws s T M0, ∃ dep : Nat, ds = [.r r, natD dep] ∧ dep + n = 6 ∧ RdC K C r ws s T M0 M E blkD (blockW ws n s) Q
def sp_while (K : PySem.W.Frag) (C : Cs) (n : Nat) : ASp := fun ds M Q E => ∃ r ws s T M0, ∃ dep : Nat, ds = [.r r, natD dep] ∧ dep + n = 6 ∧ RdC K C r ws s T M0 M E St.d (whW ws (blockW ws n) s) Q
def sp_if (K : PySem.W.Frag) (C : Cs) (n : Nat) : ASp := fun ds M Q E => ∃ r ws s T M0, ∃ dep : Nat, ds = [.r r, natD dep] ∧ dep + n = 6 ∧ RdC K C r ws s T M0 M E St.d (ifW ws (blockW ws n) s) Q
theorem callW_goes {ws : List Str} {c : Str} {m : Nat} {p : Nat × Nat × Ex} {s s' : Rst} (h : callW ws c m s = .inr (p, s')) : Rst.goes ws s s' := by
  obtain ⟨l, s1, h1, h2⟩ := bindR_inr h
  obtain ⟨n, s2, h3, h4⟩ := bindR_inr h2
  obtain ⟨e, s3, h5, h6⟩ := bindR_inr h4
  cases h6
  exact ((nameW_goes h1).trans (nameW_goes h3)).trans (expW_goes _ h5)
/-- a block may be empty: the place stays, or goes -/
def Rst.keeps (ws : List Str) (s s' : Rst) : Prop := s' = { s with at_ := s'.at_ } ∧ s.at_ ≤ s'.at_ ∧ s'.at_ < ws.length
theorem Rst.keeps.trans {ws : List Str} {s1 s2 s3 : Rst} (a : Rst.goes ws s1 s2) (b : Rst.keeps ws s2 s3) : Rst.keeps ws s1 s3 := by
  obtain ⟨a1, a2, a3⟩ := a
  obtain ⟨b1, b2, b3⟩ := b
  refine ⟨?_, by omega, b3⟩
  rw [b1, a1]
theorem Rst.goes.after {ws : List Str} {s1 s2 s3 : Rst} (a : Rst.keeps ws s1 s2) (b : Rst.goes ws s2 s3) : Rst.goes ws s1 s3 := by
  obtain ⟨a1, a2, a3⟩ := a
  obtain ⟨b1, b2, b3⟩ := b
  refine ⟨?_, by omega, b3⟩
  rw [b1, a1]
abbrev Keeps (ws : List Str) (blk : Rst → Nat ⊕ (List St × Rst)) : Prop := ∀ s a s', blk s = .inr (a, s') → Rst.keeps ws s s'
theorem whW_goes {ws : List Str} {blk : Rst → Nat ⊕ (List St × Rst)} (hk : Keeps ws blk) {x : St} {s s' : Rst} (h : whW ws blk s = .inr (x, s')) : Rst.goes ws s s' := by
  obtain ⟨t, s1, h1, h2⟩ := bindR_inr h
  obtain ⟨a, s2, h3, h4⟩ := bindR_inr h2
  obtain ⟨u, s3, h5, h6⟩ := bindR_inr h4
  cases h6
  exact ((expW_goes _ h1).trans (Rst.goes.after (hk _ _ _ h3) (exactW_goes h5)))
theorem ifW_goes {ws : List Str} {blk : Rst → Nat ⊕ (List St × Rst)} (hk : Keeps ws blk) {x : St} {s s' : Rst} (h : ifW ws blk s = .inr (x, s')) : Rst.goes ws s s' := by
  obtain ⟨t, s1, h1, h2⟩ := bindR_inr h
  obtain ⟨a, s2, h3, h4⟩ := bindR_inr h2
  refine (expW_goes _ h1).trans (Rst.goes.after (hk _ _ _ h3) ?_)
  unfold elseW at h4
  cases e : ws[s2.at_]? with
  | none => rw [e] at h4; cases h4
  | some z =>
    rw [e] at h4
    dsimp only at h4
    split at h4
    · obtain ⟨b, s3, h5, h6⟩ := bindR_inr h4
      split at h6
      · cases h6
      · obtain ⟨u, s4, h7, h8⟩ := bindR_inr h6
        cases h8
        exact (Rst.goes.after (hk _ _ _ h5) (exactW_goes h7)).step
    · obtain ⟨u, s4, h7, h8⟩ := bindR_inr h4
      cases h8
      exact exactW_goes h7
theorem stmtW_goes {ws : List Str} {blk : Rst → Nat ⊕ (List St × Rst)} (hk : Keeps ws blk) {z : Str} {x : St} {s s' : Rst} (h : stmtW ws blk z s = .inr (x, s')) : Rst.goes ws s s' := by
  unfold stmtW at h
  split at h
  · obtain ⟨l, s1, h1, h2⟩ := bindR_inr h
    obtain ⟨e, s2, h3, h4⟩ := bindR_inr h2
    cases h4
    exact (nameW_goes h1).trans (expW_goes _ h3)
  · split at h
    · obtain ⟨l, s1, h1, h2⟩ := bindR_inr h
      obtain ⟨e, s2, h3, h4⟩ := bindR_inr h2
      obtain ⟨e2, s3, h5, h6⟩ := bindR_inr h4
      cases h6
      exact ((nameW_goes h1).trans (expW_goes _ h3)).trans (expW_goes _ h5)
    · split at h
      · obtain ⟨p, s1, h1, h2⟩ := bindR_inr h
        cases h2
        exact callW_goes h1
      · split at h
        · obtain ⟨p, s1, h1, h2⟩ := bindR_inr h
          cases h2
          exact callW_goes h1
        · split at h
          · exact ifW_goes hk h
          · split at h
            · exact whW_goes hk h
            · obtain ⟨e, s1, h1, h2⟩ := bindR_inr h
              cases h2
              exact expW_goes _ h1
theorem loopW_keeps {ws : List Str} {n : Nat} {blk : Rst → Nat ⊕ (List St × Rst)} (hk : Keeps ws blk) : ∀ (f : Nat) (acc : List St) (s : Rst) (a : List St) (s' : Rst), loopW ws n blk f acc s = .inr (a, s') → Rst.keeps ws s s'
  | 0, acc, s, a, s', h => by cases h
  | f + 1, acc, s, a, s', h => by
    rw [loopW] at h
    cases e : ws[s.at_]? with
    | none => rw [e] at h; cases h
    | some z =>
      rw [e] at h
      dsimp only at h
      split at h
      · obtain ⟨x, s1, h1, h2⟩ := bindR_inr h
        exact Rst.keeps.trans (stmtW_goes hk h1).step (loopW_keeps hk f _ _ _ _ h2)
      · cases h
        exact ⟨rfl, Nat.le_refl _, get_lt e⟩
theorem blockW_keeps {ws : List Str} : ∀ n, Keeps ws (blockW ws n)
  | 0 => fun s a s' h => loopW_keeps (fun _ _ _ h => by cases h) _ _ _ _ _ h
  | n + 1 => fun s a s' h => loopW_keeps (blockW_keeps n) _ _ _ _ _ h



def nestW (ws : List Str) : Nat → Rst → Nat ⊕ (List St × Rst)
  | 0 => fun s => .inl s.at_
  | n + 1 => blockW ws n
theorem nestW_keeps {ws : List Str} : ∀ n, Keeps ws (nestW ws n)
  | 0 => fun _ _ _ h => by cases h
  | n + 1 => blockW_keeps n
theorem blockW_nest {ws : List Str} {n : Nat} {s : Rst} : blockW ws n s = loopW ws n (nestW ws n) (ws.length + 1) [] s := by cases n <;> rfl
def sp_ifP (K : PySem.W.Frag) (C : Cs) : Nat → ASp
  | 0 => fun _ _ _ _ => False
  | n + 1 => sp_if K C n
def sp_whP (K : PySem.W.Frag) (C : Cs) : Nat → ASp
  | 0 => fun _ _ _ _ => False
  | n + 1 => sp_while K C n
def sp_stmt (K : PySem.W.Frag) (C : Cs) (n : Nat) : ASp := fun ds M Q E => ∃ r ws s T M0, ∃ (dep : Nat) (z : Str), ds = [.r r, natD dep] ∧ dep + n = 6 ∧ ws[s.at_]? = some z ∧ fitsW n s z = true ∧ RdC K C r ws s T M0 M E St.d (stmtW ws (nestW ws n) z s.step) Q
section
variable {P : Program} {w : World} {K : PySem.W.Frag} {mg : Str → Option Value} {base : Heap} {C : Cs}
theorem wh_ok (T : Top K mg) (Z : Txt K mg C) (n : Nat) (IB : MCal P w K mg base (HX P w) (13 + 3 * n) C.Reader "take_block" ["self", "depth"] (conSp K (sp_block K C n))) :
    MCal P w K mg base (HX P w) (14 + 3 * n) C.Reader "take_while" ["self", "depth"] (conSp K (sp_while K C n)) := by
  rw [show 14 + 3 * n = (13 + 3 * n) + 1 by omega]
  refine met_AX Z.m_Reader_take_while sc_Reader_take_while (fun _ _ _ _ _ _ us hl => match us, hl with | [_, _], _ => rfl) (fun ds M Q E h => ?_) (fun f cdv Ar outer s0 H E ds M Q EX hr h => ?_)
  · obtain ⟨r, ws, s, T, M0, dep, rfl, _⟩ := h
    rfl
  · obtain ⟨r, ws, s, U, M0, dep, rfl, hdn, rfl, hat, hw, k1, k2⟩ := h
    refine ⟨_, (as_cons (as_set (ps_set (i := 2) sc_Reader_take_while.nd rfl (by first | exact Or.inl rfl | exact Or.inr rfl) (a_methX (g_methX (ok_Reader_take_expression T Z 4) Z.k_Reader.cl (hr.mono (by omega)) (takesE rfl rfl rfl rfl) (a_var (pv 0)) (aa_cons (a_c (g_cint T.c_EXPRESSION_DEPTH rfl) (fun _ => .int _)) aa_nil)))))
  (as_cons (as_set (ps_set (i := 3) sc_Reader_take_while.nd rfl (by first | exact Or.inl rfl | exact Or.inr rfl) (a_methX (g_methX IB Z.k_Reader.cl (hr.mono (by omega)) (takesE rfl rfl rfl rfl) (a_var (pv 0)) (aa_cons (a_var (pv 1)) aa_nil)))))
  (as_cons (as_drop (ps_expr (a_methX (g_methX (ok_Reader_take_exactly T Z) Z.k_Reader.cl (hr.mono (by omega)) (takesE rfl rfl rfl rfl) (a_var (pv 0)) (aa_cons a_str aa_nil)))))
  (as_one (as_ret (ps_ret (a_tup (aa_cons a_str (aa_cons (a_var (pv 2)) (aa_cons (a_var (pv 3)) aa_nil)))))))))), ?_⟩
    have hc := Z.k_Reader.cl
    unfold whW at k1 k2
    walk_at "rd"
    refine ⟨r, ws, s, U, M0, rfl, by decide, by decide, rfl, hat, hw, fun i hi => k1 i (by rw [hi]; rfl), fun t s1 h1 => ?_⟩
    have g1 := expW_goes _ h1
    rw [h1, bindR_go] at k1 k2
    walk_at "rd"
    refine ⟨r, ws, s1, U, M0, dep, rfl, hdn, rfl, g1.2.2, hw, fun i hi => k1 i (by rw [hi]; rfl), fun a s2 h2 => ?_⟩
    have g2 := blockW_keeps _ _ _ _ h2
    rw [h2, bindR_go] at k1 k2
    walk_at "rd"
    refine ⟨r, ws, s2, U, M0, "end", rfl, rfl, Nat.le_of_lt g2.2.2, hw, fun i hi => k1 i (by rw [hi]; rfl), fun u s3 h3 => ?_⟩
    rw [h3, bindR_go] at k1 k2
    walk_at "re"
    refine .of ?_
    have := k2 (.wh t a) s3 rfl
    rw [St.d] at this
    exact this
theorem if_ok (T : Top K mg) (Z : Txt K mg C) (n : Nat) (IB : MCal P w K mg base (HX P w) (13 + 3 * n) C.Reader "take_block" ["self", "depth"] (conSp K (sp_block K C n))) :
    MCal P w K mg base (HX P w) (14 + 3 * n) C.Reader "take_if" ["self", "depth"] (conSp K (sp_if K C n)) := by
  rw [show 14 + 3 * n = (13 + 3 * n) + 1 by omega]
  refine met_AX Z.m_Reader_take_if sc_Reader_take_if (fun _ _ _ _ _ _ us hl => match us, hl with | [_, _], _ => rfl) (fun ds M Q E h => ?_) (fun f cdv Ar outer s0 H E ds M Q EX hr h => ?_)
  · obtain ⟨r, ws, s, T, M0, dep, rfl, _⟩ := h
    rfl
  · obtain ⟨r, ws, s, U, M0, dep, rfl, hdn, rfl, hat, hw, k1, k2⟩ := h
    refine ⟨_, (as_cons (as_set (ps_set (i := 2) sc_Reader_take_if.nd rfl (by first | exact Or.inl rfl | exact Or.inr rfl) (a_methX (g_methX (ok_Reader_take_expression T Z 4) Z.k_Reader.cl (hr.mono (by omega)) (takesE rfl rfl rfl rfl) (a_var (pv 0)) (aa_cons (a_c (g_cint T.c_EXPRESSION_DEPTH rfl) (fun _ => .int _)) aa_nil)))))
  (as_cons (as_set (ps_set (i := 3) sc_Reader_take_if.nd rfl (by first | exact Or.inl rfl | exact Or.inr rfl) (a_methX (g_methX IB Z.k_Reader.cl (hr.mono (by omega)) (takesE rfl rfl rfl rfl) (a_var (pv 0)) (aa_cons (a_var (pv 1)) aa_nil)))))
  (as_cons (as_set (ps_set (i := 4) sc_Reader_take_if.nd rfl (by first | exact Or.inl rfl | exact Or.inr rfl) (a_tup aa_nil)))
  (as_cut (as_if (a_tcmp (o_eq (K := K) (un64 hr)) (a_methX0 (g_methX0 (ok_Reader_next_word T Z) Z.k_Reader.cl (hr.mono (by omega)) (takesE rfl rfl rfl rfl) (a_var (pv 0)))) a_str (nomark _))
  (as_cons (as_fldA (K := K) (k := fun i j => i + j) (fun _ _ _ _ h => h) (ps_fldaug (a_var (pv 0)) a_int in_add))
    (as_cons (as_set (ps_set (i := 4) sc_Reader_take_if.nd rfl (by first | exact Or.inl rfl | exact Or.inr rfl) (a_methX (g_methX IB Z.k_Reader.cl (hr.mono (by omega)) (takesE rfl rfl rfl rfl) (a_var (pv 0)) (aa_cons (a_var (pv 1)) aa_nil)))))
    (as_one (as_if (a_not (a_truth (K := K) (a_var (pv 4)) (by intro _; rfl)))
    (as_one (as_raise (g_raiseN rfl (takesE rfl rfl rfl rfl) (g_mkexN Z.n_BadText Z.e_BadText (ok_BadText_init T Z) (hr.mono (by omega)) (by rfl) (aa_cons (a_fld (K := K) (a_var (pv 0))) aa_nil)))))
    as_nil))))
  as_nil)
  (as_cons (as_drop (ps_expr (a_methX (g_methX (ok_Reader_take_exactly T Z) Z.k_Reader.cl (hr.mono (by omega)) (takesE rfl rfl rfl rfl) (a_var (pv 0)) (aa_cons a_str aa_nil)))))
  (as_one (as_ret (ps_ret (a_tup (aa_cons a_str (aa_cons (a_var (pv 2)) (aa_cons (a_var (pv 3)) (aa_cons (a_var (pv 4)) aa_nil))))))))))))), ?_⟩
    have hc := Z.k_Reader.cl
    have n1 := Z.a_Reader_at
    unfold ifW at k1 k2
    walk_at "rd"
    refine ⟨r, ws, s, U, M0, rfl, by decide, by decide, rfl, hat, hw, fun i hi => k1 i (by rw [hi]; rfl), fun t s1 h1 => ?_⟩
    have g1 := expW_goes _ h1
    rw [h1, bindR_go] at k1 k2
    walk_at "rd"
    refine ⟨r, ws, s1, U, M0, dep, rfl, hdn, rfl, g1.2.2, hw, fun i hi => k1 i (by rw [hi]; rfl), fun a s2 h2 => ?_⟩
    have g2 := blockW_keeps _ _ _ _ h2
    have hlt := g2.2.2
    rw [h2, bindR_go] at k1 k2
    have yz : ws[s2.at_]? = some ws[s2.at_] := List.getElem?_eq_getElem hlt
    have hb : s2.at_ ≤ 1000000 := by have := hw.1; omega
    walk_at "rd"
    refine s_cut (fun xs M' => ∃ (b : List St) (s3 : Rst), xs = [some (.r r), some (natD dep), some t.d, some (blkD a), some (blkD b)] ∧ M' = U ++ (r, rdO C ws s3) :: M0 ∧ s3.at_ ≤ ws.length ∧
      elseW ws (blockW ws n) t a s2 = bindR (exactW ws "end" s3) fun _ s4 => .inr (.ifs t a b, s4)) ?_ ?_
    · walk_at "rd"
      refine next_use (Nat.le_of_lt hlt) hw (fun e => by rw [yz] at e; cases e) fun z e => ?_
      have ew := e
      unfold elseW at k1 k2 ⊢
      rw [e] at k1 k2 ⊢
      dsimp only at k1 k2 ⊢
      walk_at "rd"
      refine G.i_d (fun h3 => ?_) (fun h3 => ?_)
      · rw [if_pos h3] at k1 k2
        walk_at "rd"
        refine ⟨r, ws, s2.step, U, M0, dep, rfl, hdn, rfl, hlt, hw, fun i hi => k1 i (by rw [hi]; rfl), fun b s3 h4 => ?_⟩
        have g3 := blockW_keeps _ _ _ _ h4
        have hb3 : s3.at_ ≤ 1000000 := by have := hw.1; have := g3.2.2; omega
        rw [h4, bindR_go] at k1 k2
        walk_at "rd"
        cases b with
        | nil =>
          rw [if_pos rfl] at k1
          rw [show (stsD []).isEmpty = true by simp [stsD]]
          walk_at "rd"
          exact k1 _ rfl _ (Gone.app Gone.refl.hd)
        | cons x b =>
          rw [show (stsD (x :: b)).isEmpty = false by simp [stsD]]
          walk_at "rd"
          exact ⟨x :: b, s3, rfl, rfl, Nat.le_of_lt g3.2.2, by rw [if_pos h3, h4, bindR_go, if_neg (by simp)]⟩
      · walk_at "rd"
        exact ⟨[], s2, rfl, rfl, Nat.le_of_lt hlt, by rw [if_neg h3]⟩
    · rintro xs M' ⟨b, s3, rfl, rfl, h3, he⟩
      rw [he] at k1 k2
      walk_at "rd"
      refine ⟨r, ws, s3, U, M0, "end", rfl, rfl, h3, hw, fun i hi => k1 i (by rw [hi]; rfl), fun u s4 h5 => ?_⟩
      rw [h5, bindR_go] at k1 k2
      walk_at "re"
      refine .of ?_
      have := k2 (.ifs t a b) s4 rfl
      rw [St.d] at this
      exact this
end



section
variable {P : Program} {w : World} {K : PySem.W.Frag} {mg : Str → Option Value} {base : Heap} {C : Cs}
theorem stmt_ok (T : Top K mg) (Z : Txt K mg C) (n : Nat) (IF : MCal P w K mg base (HX P w) (11 + 3 * n) C.Reader "take_if" ["self", "depth"] (conSp K (sp_ifP K C n)))
    (IW : MCal P w K mg base (HX P w) (11 + 3 * n) C.Reader "take_while" ["self", "depth"] (conSp K (sp_whP K C n))) :
    MCal P w K mg base (HX P w) (12 + 3 * n) C.Reader "take_statement" ["self", "depth"] (conSp K (sp_stmt K C n)) := by
  rw [show 12 + 3 * n = (11 + 3 * n) + 1 by omega]
  refine met_AX Z.m_Reader_take_statement sc_Reader_take_statement (fun _ _ _ _ _ _ us hl => match us, hl with | [_, _], _ => rfl) (fun ds M Q E h => ?_) (fun f cdv Ar outer s0 H E ds M Q EX hr h => ?_)
  · obtain ⟨r, ws, s, T, M0, dep, z, rfl, _⟩ := h
    rfl
  · obtain ⟨r, ws, s, U, M0, dep, z, rfl, hdn, e, hf, rfl, hat, hw, k1, k2⟩ := h
    refine ⟨_, (as_cons (as_set (ps_set (i := 2) sc_Reader_take_statement.nd rfl (by first | exact Or.inl rfl | exact Or.inr rfl) (a_methX0 (g_methX0 (ok_Reader_next_word T Z) Z.k_Reader.cl (hr.mono (by omega)) (takesE rfl rfl rfl rfl) (a_var (pv 0))))))
  (as_cons (as_fldA (K := K) (k := fun i j => i + j) (fun _ _ _ _ h => h) (ps_fldaug (a_var (pv 0)) a_int in_add))
  (as_cons (as_if (a_tcmp (o_eq (K := K) (un64 hr)) (a_var (pv 2)) a_str (nomark _))
  (as_one (as_ret (ps_ret (a_tup (aa_cons (a_var (pv 2)) (aa_cons (a_methX0 (g_methX0 (ok_Reader_take_local T Z) Z.k_Reader.cl (hr.mono (by omega)) (takesE rfl rfl rfl rfl) (a_var (pv 0)))) (aa_cons (a_methX (g_methX (ok_Reader_take_expression T Z 4) Z.k_Reader.cl (hr.mono (by omega)) (takesE rfl rfl rfl rfl) (a_var (pv 0)) (aa_cons (a_c (g_cint T.c_EXPRESSION_DEPTH rfl) (fun _ => .int _)) aa_nil))) aa_nil)))))))
  as_nil)
  (as_cons (as_if (a_tcmp (o_eq (K := K) (un64 hr)) (a_var (pv 2)) a_str (nomark _))
  (as_cons (as_set (ps_set (i := 3) sc_Reader_take_statement.nd rfl (by first | exact Or.inl rfl | exact Or.inr rfl) (a_methX (g_methX (ok_Reader_take_name T Z) Z.k_Reader.cl (hr.mono (by omega)) (takesE rfl rfl rfl rfl) (a_var (pv 0)) (aa_cons a_str (aa_cons (a_fld (K := K) (a_var (pv 0))) aa_nil))))))
    (as_one (as_ret (ps_ret (a_tup (aa_cons (a_var (pv 2)) (aa_cons (a_var (pv 3)) (aa_cons (a_methX (g_methX (ok_Reader_take_expression T Z 4) Z.k_Reader.cl (hr.mono (by omega)) (takesE rfl rfl rfl rfl) (a_var (pv 0)) (aa_cons (a_c (g_cint T.c_EXPRESSION_DEPTH rfl) (fun _ => .int _)) aa_nil))) (aa_cons (a_methX (g_methX (ok_Reader_take_expression T Z 4) Z.k_Reader.cl (hr.mono (by omega)) (takesE rfl rfl rfl rfl) (a_var (pv 0)) (aa_cons (a_c (g_cint T.c_EXPRESSION_DEPTH rfl) (fun _ => .int _)) aa_nil))) aa_nil)))))))))
  as_nil)
  (as_cons (as_if (a_tcmp (o_eq (K := K) (un64 hr)) (a_var (pv 2)) a_str (nomark _))
  (as_one (as_ret (ps_ret (a_methX (g_methX (ok_Reader_take_call T Z) Z.k_Reader.cl (hr.mono (by omega)) (takesE rfl rfl rfl rfl) (a_var (pv 0)) (aa_cons (a_var (pv 2)) (aa_cons a_str (aa_cons (a_fld (K := K) (a_var (pv 0))) aa_nil))))))))
  as_nil)
  (as_cons (as_if (a_tcmp (o_eq (K := K) (un64 hr)) (a_var (pv 2)) a_str (nomark _))
  (as_one (as_ret (ps_ret (a_methX (g_methX (ok_Reader_take_call T Z) Z.k_Reader.cl (hr.mono (by omega)) (takesE rfl rfl rfl rfl) (a_var (pv 0)) (aa_cons (a_var (pv 2)) (aa_cons a_str (aa_cons (a_fld (K := K) (a_var (pv 0))) aa_nil))))))))
  as_nil)
  (as_cons (as_if (a_tcmp (o_eq (K := K) (un64 hr)) (a_var (pv 2)) a_str (nomark _))
  (as_one (as_ret (ps_ret (a_methX (g_methX IF Z.k_Reader.cl (hr.mono (by omega)) (takesE rfl rfl rfl rfl) (a_var (pv 0)) (aa_cons (a_op (o_add (K := K)) (a_var (pv 1)) a_int) aa_nil))))))
  as_nil)
  (as_cons (as_if (a_tcmp (o_eq (K := K) (un64 hr)) (a_var (pv 2)) a_str (nomark _))
  (as_one (as_ret (ps_ret (a_methX (g_methX IW Z.k_Reader.cl (hr.mono (by omega)) (takesE rfl rfl rfl rfl) (a_var (pv 0)) (aa_cons (a_op (o_add (K := K)) (a_var (pv 1)) a_int) aa_nil))))))
  as_nil)
  (as_one (as_ret (ps_ret (a_tup (aa_cons (a_var (pv 2)) (aa_cons (a_methX (g_methX (ok_Reader_take_expression T Z 4) Z.k_Reader.cl (hr.mono (by omega)) (takesE rfl rfl rfl rfl) (a_var (pv 0)) (aa_cons (a_c (g_cint T.c_EXPRESSION_DEPTH rfl) (fun _ => .int _)) aa_nil))) aa_nil)))))))))))))), ?_⟩
    have hc := Z.k_Reader.cl
    have n1 := Z.a_Reader_at
    have n2 := Z.a_Reader_buffer_count
    have n3 := Z.a_Reader_import_count
    have n4 := Z.a_Reader_procedure_count
    have hlt := get_lt e
    have hb : s.at_ ≤ 1000000 := by have := hw.1; omega
    have hd1 : ((dep : Nat) : Int) + 1 = ((dep + 1 : Nat) : Int) := by omega
    walk_at "rd"
    refine next_use (Nat.le_of_lt hlt) hw (fun q => by rw [e] at q; cases q) fun z2 e2 => ?_
    rw [e] at e2
    cases e2
    unfold stmtW at k1 k2
    walk_at "rd"
    refine G.i_d (fun h1 => ?_) (fun h1 => ?_)
    · rw [if_pos h1] at k1 k2
      walk_at "rd"
      refine ⟨r, ws, s.step, U, M0, rfl, rfl, hlt, hw, fun i hi => k1 i (by rw [hi]; rfl), fun l s1 h2 => ?_⟩
      have g1 := nameW_goes h2
      rw [h2, bindR_go] at k1 k2
      walk_at "rd"
      refine ⟨r, ws, s1, U, M0, rfl, by decide, by decide, rfl, g1.2.2, hw, fun i hi => k1 i (by rw [hi]; rfl), fun x s2 h3 => ?_⟩
      rw [h3, bindR_go] at k1 k2
      walk_at "re"
      refine .of ?_
      have := k2 _ s2 rfl
      rw [St.d, ← h1] at this
      exact this
    rw [if_neg h1] at k1 k2
    walk_at "rd"
    refine G.i_d (fun h2 => ?_) (fun h2 => ?_)
    · rw [if_pos h2] at k1 k2
      walk_at "rd"
      refine ⟨r, ws, s.step, U, M0, "b", s.step.bc, rfl, rfl, hlt, hw, fun i hi => k1 i (by rw [hi]; rfl), fun l s1 h3 => ?_⟩
      have g1 := nameW_goes h3
      rw [h3, bindR_go] at k1 k2
      walk_at "rd"
      refine ⟨r, ws, s1, U, M0, rfl, by decide, by decide, rfl, g1.2.2, hw, fun i hi => k1 i (by rw [hi]; rfl), fun x s2 h4 => ?_⟩
      have g2 := expW_goes _ h4
      rw [h4, bindR_go] at k1 k2
      walk_at "rd"
      refine ⟨r, ws, s2, U, M0, rfl, by decide, by decide, rfl, g2.2.2, hw, fun i hi => k1 i (by rw [hi]; rfl), fun y s3 h5 => ?_⟩
      rw [h5, bindR_go] at k1 k2
      walk_at "re"
      refine .of ?_
      have := k2 _ s3 rfl
      rw [St.d, ← h2] at this
      exact this
    rw [if_neg h2] at k1 k2
    walk_at "rd"
    refine G.i_d (fun h3 => ?_) (fun h3 => ?_)
    · rw [if_pos h3] at k1 k2
      walk_at "rd"
      refine ⟨r, ws, s.step, U, M0, z, "p", s.step.pc, rfl, rfl, hlt, hw, fun i hi => k1 i (by rw [hi]; rfl), fun p s1 h4 => ?_⟩
      rw [h4, bindR_go] at k1 k2
      have := k2 _ s1 rfl
      rw [St.d, ← h3] at this
      exact .of this
    rw [if_neg h3] at k1 k2
    walk_at "rd"
    refine G.i_d (fun h4 => ?_) (fun h4 => ?_)
    · rw [if_pos h4] at k1 k2
      walk_at "rd"
      refine ⟨r, ws, s.step, U, M0, z, "i", s.step.ic, rfl, rfl, hlt, hw, fun i hi => k1 i (by rw [hi]; rfl), fun p s1 h5 => ?_⟩
      rw [h5, bindR_go] at k1 k2
      have := k2 _ s1 rfl
      rw [St.d, ← h4] at this
      exact .of this
    rw [if_neg h4] at k1 k2
    have deep : (z = "if" ∨ z = "while") → 0 < n := fun q => by
      unfold fitsW at hf
      rw [if_neg h2, if_neg h4, if_pos (by rcases q with q | q <;> simp [q])] at hf
      simpa using hf
    walk_at "rd"
    refine G.i_d (fun h5 => ?_) (fun h5 => ?_)
    · rw [if_pos h5] at k1 k2
      have := deep (.inl h5)
      obtain ⟨m, rfl⟩ : ∃ m, n = m + 1 := ⟨n - 1, by omega⟩
      walk_at "rd"
      rw [hd1]
      exact ⟨r, ws, s.step, U, M0, dep + 1, rfl, by omega, rfl, hlt, hw, k1, fun v s1 h => .of (k2 v s1 h)⟩
    rw [if_neg h5] at k1 k2
    walk_at "rd"
    refine G.i_d (fun h6 => ?_) (fun h6 => ?_)
    · rw [if_pos h6] at k1 k2
      have := deep (.inr h6)
      obtain ⟨m, rfl⟩ : ∃ m, n = m + 1 := ⟨n - 1, by omega⟩
      walk_at "rd"
      rw [hd1]
      exact ⟨r, ws, s.step, U, M0, dep + 1, rfl, by omega, rfl, hlt, hw, k1, fun v s1 h => .of (k2 v s1 h)⟩
    rw [if_neg h6] at k1 k2
    have hz : z = "return" := by
      unfold fitsW at hf
      rw [if_neg h2, if_neg h4, if_neg (by simp [h5, h6])] at hf
      simpa [h1, h3] using hf
    walk_at "rd"
    refine ⟨r, ws, s.step, U, M0, rfl, by decide, by decide, rfl, hlt, hw, fun i hi => k1 i (by rw [hi]; rfl), fun x s1 h7 => ?_⟩
    rw [h7, bindR_go] at k1 k2
    walk_at "re"
    refine .of ?_
    have := k2 _ s1 rfl
    rw [St.d, ← hz] at this
    exact this
theorem block_ok (T : Top K mg) (Z : Txt K mg C) (n : Nat) (IS : MCal P w K mg base (HX P w) (12 + 3 * n) C.Reader "take_statement" ["self", "depth"] (conSp K (sp_stmt K C n))) :
    MCal P w K mg base (HX P w) (13 + 3 * n) C.Reader "take_block" ["self", "depth"] (conSp K (sp_block K C n)) := by
  rw [show 13 + 3 * n = (12 + 3 * n) + 1 by omega]
  refine met_AX Z.m_Reader_take_block sc_Reader_take_block (fun _ _ _ _ _ _ us hl => match us, hl with | [_, _], _ => rfl) (fun ds M Q E h => ?_) (fun f cdv Ar outer s0 H E ds M Q EX hr h => ?_)
  · obtain ⟨r, ws, s, T, M0, dep, rfl, _⟩ := h
    rfl
  · obtain ⟨r, ws, s, U, M0, dep, rfl, hdn, rfl, hat, hw, k1, k2⟩ := h
    refine ⟨_, (as_cons (as_set (ps_set (i := 2) sc_Reader_take_block.nd rfl (by first | exact Or.inl rfl | exact Or.inr rfl) (a_lstO aa_nil)))
  (as_cons (as_while (ps_while (passes_of rfl) (a_truth (K := K) (a_meth (g_meth (ok_Reader_statement_fits T Z) Z.k_Reader.cl (hr.mono (by omega)) pass0 (a_var (pv 0)) (aa_cons (a_methX0 (g_methX0 (ok_Reader_next_word T Z) Z.k_Reader.cl (hr.mono (by omega)) (takesE rfl rfl rfl rfl) (a_var (pv 0)))) (aa_cons (a_var (pv 1)) aa_nil)))) (by intro _; rfl))
  (as_one (as_drop (ps_expr (a_bm o_app (pe_bm PySem.F.plainAttrs_list PySem.F.slot_list_append PySem.F.type_list_append mt_append (a_var (pv 2)) (aa_cons (a_methX (g_methX IS Z.k_Reader.cl (hr.mono (by omega)) (takesE rfl rfl rfl rfl) (a_var (pv 0)) (aa_cons (a_var (pv 1)) aa_nil))) aa_nil))))))))
  (as_one (as_ret (ps_ret (a_callTy (o_tup (K := K)) (by rfl) T.b_tuple (by decide +kernel) (aa_cons (a_var (pv 2)) aa_nil))))))), ?_⟩
    have hc := Z.k_Reader.cl
    walk_at "rd"
    intro L
    walk_at "rd"
    refine ⟨fun m xs M' => ∃ (acc : List St) (s1 : Rst), xs = [some (.r r), some (natD dep), some (.r L)] ∧ M' = (L, .lst (stsD acc)) :: (U ++ (r, rdO C ws s1) :: M0) ∧ m = ws.length - s1.at_ ∧ s1.at_ ≤ ws.length ∧ acc.length ≤ s1.at_ ∧
      ∃ f, blockW ws n s = loopW ws n (nestW ws n) f acc s1 ∧ ws.length < s1.at_ + f, ⟨_, [], s, rfl, by simp [stsD], rfl, hat, Nat.zero_le _, ws.length + 1, blockW_nest, by omega⟩, ?_⟩
    rintro m xs M' ⟨acc, s1, rfl, rfl, rfl, h1, h2, f, hf, hlf⟩
    obtain ⟨f, rfl⟩ : ∃ g, f = g + 1 := ⟨f - 1, by omega⟩
    rw [loopW] at hf
    have hal : (stsD acc).length = acc.length := by rw [stsD_map, List.length_map]
    have hlen := hw.1
    walk_at "rd"
    refine next_use (T := (L, .lst (stsD acc)) :: U) h1 hw (fun e => k1 _ (by rw [hf, e])) fun z e => ?_
    rw [e] at hf
    dsimp only at hf
    have hlt := get_lt e
    rw [List.cons_append]
    walk_at "rd"
    refine ⟨r, ws, s1, _, z, dep, n, rfl, .tl .app, hdn, ?_⟩
    cases hz : fitsW n s1 z with
    | true =>
      rw [hz, if_pos rfl] at hf
      walk_at "rd"
      refine ⟨r, ws, s1, (L, .lst (stsD acc)) :: U, M0, dep, z, rfl, hdn, e, hz, rfl, h1, hw, fun i hi => k1 i (by rw [hf, hi]; rfl), fun x s2 h3 => ?_⟩
      have g2 := (stmtW_goes (nestW_keeps n) h3).step
      rw [h3, bindR_go] at hf
      rw [List.cons_append]
      walk_at "rd"
      refine ⟨ws.length - s2.at_, by have := g2.2.1; have := g2.2.2; omega, acc ++ [x], s2, rfl, by simp [stsD_map], rfl, g2.2.2, by rw [List.length_append, List.length_singleton]; have := g2.2.1; omega, f, hf, by have := g2.2.1; omega⟩
    | false =>
      rw [hz, if_neg Bool.false_ne_true] at hf
      walk_at "re"
      exact .fz (.drop .hd) (k2 acc s1 hf)
theorem if_none (T : Top K mg) (Z : Txt K mg C) : MCal P w K mg base (HX P w) 11 C.Reader "take_if" ["self", "depth"] (conSp K (sp_ifP K C 0)) :=
  met_AX Z.m_Reader_take_if sc_Reader_take_if (fun _ _ _ _ _ _ us hl => match us, hl with | [_, _], _ => rfl) (fun ds M Q E h => h.elim) (fun f cdv Ar outer s0 H E ds M Q EX hr h => h.elim)
theorem wh_none (T : Top K mg) (Z : Txt K mg C) : MCal P w K mg base (HX P w) 11 C.Reader "take_while" ["self", "depth"] (conSp K (sp_whP K C 0)) :=
  met_AX Z.m_Reader_take_while sc_Reader_take_while (fun _ _ _ _ _ _ us hl => match us, hl with | [_, _], _ => rfl) (fun ds M Q E h => h.elim) (fun f cdv Ar outer s0 H E ds M Q EX hr h => h.elim)
theorem ok_Reader_take_block (T : Top K mg) (Z : Txt K mg C) : ∀ n, MCal P w K mg base (HX P w) (13 + 3 * n) C.Reader "take_block" ["self", "depth"] (conSp K (sp_block K C n))
  | 0 => block_ok T Z 0 (stmt_ok T Z 0 (if_none T Z) (wh_none T Z))
  | n + 1 => block_ok T Z (n + 1) (stmt_ok T Z (n + 1) (by rw [show 11 + 3 * (n + 1) = 14 + 3 * n by omega]; exact if_ok T Z n (ok_Reader_take_block T Z n)) (by rw [show 11 + 3 * (n + 1) = 14 + 3 * n by omega]; exact wh_ok T Z n (ok_Reader_take_block T Z n)))
end



/-! ### procedures, buffers -/
def procW (ws : List Str) (s : Rst) : Nat ⊕ ((Nat × List St) × Rst) :=
  bindR (exactW ws "procedure" s) fun _ s1 => bindR (numW ws 1 16 s1) fun lc s2 => bindR (blockW ws 6 { s2 with lc := lc }) fun b s3 => bindR (exactW ws "end" s3) fun _ s4 => .inr ((lc, b), s4)
abbrev procR (p : Nat × List St) : D := .tup [natD p.1, blkD p.2]
def sp_proc (K : PySem.W.Frag) (C : Cs) : ASp := fun ds M Q E => ∃ r ws s T M0, ds = [.r r] ∧ RdC K C r ws s T M0 M E procR (procW ws s) Q
/-- n numbers in a row -/
def numsW (ws : List Str) : Nat → Rst → Nat ⊕ (List Nat × Rst)
  | 0, s => .inr ([], s)
  | n + 1, s => bindR (numsW ws n s) fun l s1 => bindR (numW ws 0 65535 s1) fun x s2 => .inr (l ++ [x], s2)
def bufW (ws : List Str) (s : Rst) : Nat ⊕ (List Nat × Rst) :=
  bindR (exactW ws "buffer" s) fun _ s1 => bindR (numW ws 1 1000 s1) fun n s2 => numsW ws n s2
abbrev bufL (l : List Nat) : D := .lst (l.map natD)
def sp_buf (K : PySem.W.Frag) (C : Cs) : ASp := fun ds M Q E => ∃ r ws s T M0, ds = [.r r] ∧ RdC K C r ws s T M0 M E bufL (bufW ws s) Q
section
variable {P : Program} {w : World} {K : PySem.W.Frag} {mg : Str → Option Value} {base : Heap} {C : Cs}
theorem ok_Reader_take_procedure (T : Top K mg) (Z : Txt K mg C) : MCal P w K mg base (HX P w) 32 C.Reader "take_procedure" ["self"] (conSp K (sp_proc K C)) := by
  refine met_AX Z.m_Reader_take_procedure sc_Reader_take_procedure (fun _ _ _ _ _ _ us hl => match us, hl with | [_], _ => rfl) (fun ds M Q E h => ?_) (fun f cdv Ar outer s0 H E ds M Q EX hr h => ?_)
  · obtain ⟨r, ws, s, T, M0, rfl, _⟩ := h
    rfl
  · obtain ⟨r, ws, s, U, M0, rfl, rfl, hat, hw, k1, k2⟩ := h
    refine ⟨_, (as_cons (as_drop (ps_expr (a_methX (g_methX (ok_Reader_take_exactly T Z) Z.k_Reader.cl (hr.mono (by decide)) (takesE rfl rfl rfl rfl) (a_var (pv 0)) (aa_cons a_str aa_nil)))))
  (as_cons (as_fld (K := K) (ps_fld (a_var (pv 0)) (a_methX (g_methX (ok_Reader_take_number T Z) Z.k_Reader.cl (hr.mono (by decide)) (takesE rfl rfl rfl rfl) (a_var (pv 0)) (aa_cons a_int (aa_cons (a_c (g_cint T.c_MOST_LOCALS rfl) (fun _ => .int _)) aa_nil)))) rfl))
  (as_cons (as_set (ps_set (i := 1) sc_Reader_take_procedure.nd rfl (by first | exact Or.inl rfl | exact Or.inr rfl) (a_methX (g_methX (ok_Reader_take_block T Z 6) Z.k_Reader.cl (hr.mono (by decide)) (takesE rfl rfl rfl rfl) (a_var (pv 0)) (aa_cons a_int aa_nil)))))
  (as_cons (as_drop (ps_expr (a_methX (g_methX (ok_Reader_take_exactly T Z) Z.k_Reader.cl (hr.mono (by decide)) (takesE rfl rfl rfl rfl) (a_var (pv 0)) (aa_cons a_str aa_nil)))))
  (as_one (as_ret (ps_ret (a_tup (aa_cons (a_fld (K := K) (a_var (pv 0))) (aa_cons (a_var (pv 1)) aa_nil)))))))))), ?_⟩
    have hc := Z.k_Reader.cl
    have n1 := Z.a_Reader_local_count
    unfold procW at k1 k2
    walk_at "rd"
    refine ⟨r, ws, s, U, M0, "procedure", rfl, rfl, hat, hw, fun i hi => k1 i (by rw [hi]; rfl), fun u s1 h1 => ?_⟩
    have g1 := exactW_goes h1
    rw [h1, bindR_go] at k1 k2
    walk_at "rd"
    refine ⟨r, ws, s1, U, M0, 1, 16, rfl, rfl, g1.2.2, hw, fun i hi => k1 i (by rw [hi]; rfl), fun lc s2 h2 => ?_⟩
    have g2 := numW_goes h2
    rw [h2, bindR_go] at k1 k2
    walk_at "rd"
    refine ⟨r, ws, { s2 with lc := lc }, U, M0, 0, rfl, rfl, rfl, g2.2.2, hw, fun i hi => k1 i (by rw [hi]; rfl), fun b s3 h3 => ?_⟩
    have g3 := blockW_keeps _ _ _ _ h3
    rw [h3, bindR_go] at k1 k2
    walk_at "rd"
    refine ⟨r, ws, s3, U, M0, "end", rfl, rfl, Nat.le_of_lt g3.2.2, hw, fun i hi => k1 i (by rw [hi]; rfl), fun u2 s4 h4 => ?_⟩
    have g4 := exactW_goes h4
    rw [h4, bindR_go] at k1 k2
    have e4 : s4.lc = lc := by rw [g4.1, g3.1]
    walk_at "re"
    refine .of ?_
    have := k2 (lc, b) s4 rfl
    rw [← e4] at this
    exact this
theorem numsW_goes {ws : List Str} : ∀ (n : Nat) {l : List Nat} {s s' : Rst}, s.at_ ≤ ws.length → numsW ws n s = .inr (l, s') → s' = { s with at_ := s'.at_ } ∧ s'.at_ ≤ ws.length ∧ l.length = n
  | 0, l, s, s', h, e => by cases e; exact ⟨rfl, h, rfl⟩
  | n + 1, l, s, s', h, e => by
    obtain ⟨a, s1, h1, h2⟩ := bindR_inr e
    obtain ⟨x, s2, h3, h4⟩ := bindR_inr h2
    cases h4
    obtain ⟨a1, a2, a3⟩ := numsW_goes n h h1
    obtain ⟨b1, b2, b3⟩ := numW_goes h3
    exact ⟨by rw [b1, a1], b3, by rw [List.length_append, a3]; rfl⟩
theorem numsW_bad {ws : List Str} {j m : Nat} {s : Rst} (h : numsW ws m s = .inl j) : ∀ k, numsW ws (m + k) s = .inl j
  | 0 => h
  | k + 1 => by rw [show m + (k + 1) = (m + k) + 1 from rfl, numsW, numsW_bad h k]; rfl
theorem ok_Reader_take_buffer (T : Top K mg) (Z : Txt K mg C) : MCal P w K mg base (HX P w) 5 C.Reader "take_buffer" ["self"] (conSp K (sp_buf K C)) := by
  refine met_AX Z.m_Reader_take_buffer sc_Reader_take_buffer (fun _ _ _ _ _ _ us hl => match us, hl with | [_], _ => rfl) (fun ds M Q E h => ?_) (fun f cdv Ar outer s0 H E ds M Q EX hr h => ?_)
  · obtain ⟨r, ws, s, T, M0, rfl, _⟩ := h
    rfl
  · obtain ⟨r, ws, s, U, M0, rfl, rfl, hat, hw, k1, k2⟩ := h
    refine ⟨_, (as_cons (as_drop (ps_expr (a_methX (g_methX (ok_Reader_take_exactly T Z) Z.k_Reader.cl (hr.mono (by decide)) (takesE rfl rfl rfl rfl) (a_var (pv 0)) (aa_cons a_str aa_nil)))))
  (as_cons (as_set (ps_set (i := 1) sc_Reader_take_buffer.nd rfl (by first | exact Or.inl rfl | exact Or.inr rfl) (a_lstO aa_nil)))
  (as_cons (as_for (ps_for (passes_of rfl) rfl (ai_r1 (pi_range1 rfl T.b_range (aa_cons (a_methX (g_methX (ok_Reader_take_number T Z) Z.k_Reader.cl (hr.mono (by decide)) (takesE rfl rfl rfl rfl) (a_var (pv 0)) (aa_cons a_int (aa_cons (a_c (g_cint T.c_MOST_BUFFER_WORDS rfl) (fun _ => .int _)) aa_nil)))) aa_nil))) (ag_name (pg_name (i := 2) sc_Reader_take_buffer.nd rfl (by first | exact Or.inl rfl | exact Or.inr rfl)))
  (as_one (as_drop (ps_expr (a_bm o_app (pe_bm PySem.F.plainAttrs_list PySem.F.slot_list_append PySem.F.type_list_append mt_append (a_var (pv 1)) (aa_cons (a_methX (g_methX (ok_Reader_take_number T Z) Z.k_Reader.cl (hr.mono (by decide)) (takesE rfl rfl rfl rfl) (a_var (pv 0)) (aa_cons a_int (aa_cons (a_op o_sub (a_c (g_cint T.c_WORD_COUNT rfl) (fun _ => .int _)) a_int) aa_nil)))) aa_nil))))))))
  (as_one (as_ret (ps_ret (a_var (pv 1)))))))), ?_⟩
    have hc := Z.k_Reader.cl
    unfold bufW at k1 k2
    walk_at "rd"
    refine ⟨r, ws, s, U, M0, "buffer", rfl, rfl, hat, hw, fun i hi => k1 i (by rw [hi]; rfl), fun u s1 h1 => ?_⟩
    have g1 := exactW_goes h1
    rw [h1, bindR_go] at k1 k2
    walk_at "rd"
    intro L
    walk_at "rd"
    refine ⟨r, ws, s1, (L, .lst []) :: U, M0, 1, 1000, rfl, rfl, g1.2.2, hw, fun i hi => k1 i (by rw [hi]; rfl), fun n s2 h2 => ?_⟩
    have g2 := numW_goes h2
    have hn : n ≤ 1000 := by
      unfold numW at h2
      split at h2
      · cases h2
      · split at h2
        · rename_i q
          cases h2
          exact q.2
        · cases h2
    rw [h2, bindR_go] at k1 k2
    rw [List.cons_append]
    walk_at "rd"
    refine f_rng (fun i xs M' => ∃ (l : List Nat) (s3 : Rst) (v2 : Option D), xs = [some (.r r), some (.r L), v2] ∧ M' = (L, .lst (l.map natD)) :: (U ++ (r, rdO C ws s3) :: M0) ∧ numsW ws i s2 = .inr (l, s3)) ⟨[], s2, none, rfl, rfl, rfl⟩ ?_ ?_
    · rintro i xs M' hi ⟨l, s3, v2, rfl, rfl, h3⟩
      obtain ⟨q1, q2, q3⟩ := numsW_goes _ g2.2.2 h3
      have hi' : i < n := by omega
      walk_at "rd"
      refine ⟨r, ws, s3, (L, .lst (l.map natD)) :: U, M0, 0, 65535, rfl, rfl, q2, hw, fun j hj => k1 j ?_, fun x s4 h4 => ?_⟩
      · have : numsW ws (i + 1) s2 = .inl j := by rw [numsW, h3, bindR_go, hj]; rfl
        have := numsW_bad this (n - (i + 1))
        rwa [show i + 1 + (n - (i + 1)) = n by omega] at this
      · rw [List.cons_append]
        walk_at "rd"
        exact ⟨l ++ [x], s4, _, rfl, by simp, by rw [numsW, h3, bindR_go, h4]; rfl⟩
    · rintro xs M' ⟨l, s3, v2, rfl, rfl, h3⟩
      rw [show ((n : Nat) : Int).toNat = n from rfl] at h3
      walk_at "re"
      exact .fz (.lst .hd) (k2 l s3 h3)
end



/-! ### the buffers -/
theorem bufW_goes {ws : List Str} {l : List Nat} {s s' : Rst} (h : bufW ws s = .inr (l, s')) : s' = { s with at_ := s'.at_ } ∧ s'.at_ ≤ ws.length := by
  obtain ⟨u, s1, h1, h2⟩ := bindR_inr h
  obtain ⟨n, s2, h3, h4⟩ := bindR_inr h2
  have g := (exactW_goes h1).trans (numW_goes h3)
  obtain ⟨a1, a2, _⟩ := numsW_goes n g.2.2 h4
  exact ⟨by rw [a1, g.1], a2⟩
def bufsW (ws : List Str) : Nat → List (List Nat) → Rst → Nat ⊕ (List (List Nat) × Rst)
  | 0, acc, s => .inr (acc, s)
  | f + 1, acc, s => match ws[s.at_]? with
    | none => .inl s.at_
    | some z => if z = "buffer" then bindR (bufW ws s) fun b s1 => bufsW ws f (acc ++ [b]) s1 else .inr (acc, s)
abbrev bufsL (bs : List (List Nat)) : D := .lst (bs.map bufL)
def sp_bufs (K : PySem.W.Frag) (C : Cs) : ASp := fun ds M Q E => ∃ r ws s T M0, ds = [.r r] ∧ RdC K C r ws s T M0 M E bufsL (bufsW ws 8 [] s) Q
section
variable {P : Program} {w : World} {K : PySem.W.Frag} {mg : Str → Option Value} {base : Heap} {C : Cs}
theorem ok_Reader_take_buffers (T : Top K mg) (Z : Txt K mg C) : MCal P w K mg base (HX P w) 6 C.Reader "take_buffers" ["self"] (conSp K (sp_bufs K C)) := by
  refine met_AX Z.m_Reader_take_buffers sc_Reader_take_buffers (fun _ _ _ _ _ _ us hl => match us, hl with | [_], _ => rfl) (fun ds M Q E h => ?_) (fun f cdv Ar outer s0 H E ds M Q EX hr h => ?_)
  · obtain ⟨r, ws, s, T, M0, rfl, _⟩ := h
    rfl
  · obtain ⟨r, ws, s, U, M0, rfl, rfl, hat, hw, k1, k2⟩ := h
    refine ⟨_, (as_cons (as_set (ps_set (i := 1) sc_Reader_take_buffers.nd rfl (by first | exact Or.inl rfl | exact Or.inr rfl) (a_lstO aa_nil)))
  (as_cons (as_while (ps_while (passes_of rfl) (PW.pt (a_and (a_tcmp o_lt (a_callB (o_len (K := K)) (by rfl) T.b_len PySem.boot_len (aa_cons (a_var (pv 1)) aa_nil)) (a_c (g_cint T.c_MOST_BUFFERS rfl) (fun _ => .int _)) (nomark _)) (pw_and1 (a_tcmp (o_eq (K := K) (un64 hr)) (a_methX0 (g_methX0 (ok_Reader_next_word T Z) Z.k_Reader.cl (hr.mono (by decide)) (takesE rfl rfl rfl rfl) (a_var (pv 0)))) a_str (nomark _)))))
  (as_one (as_drop (ps_expr (a_bm o_app (pe_bm PySem.F.plainAttrs_list PySem.F.slot_list_append PySem.F.type_list_append mt_append (a_var (pv 1)) (aa_cons (a_methX0 (g_methX0 (ok_Reader_take_buffer T Z) Z.k_Reader.cl (hr.mono (by decide)) (takesE rfl rfl rfl rfl) (a_var (pv 0)))) aa_nil))))))))
  (as_one (as_ret (ps_ret (a_var (pv 1))))))), ?_⟩
    have hc := Z.k_Reader.cl
    generalize hB : bufsW ws 8 [] s = B at k1 k2
    walk_at "rd"
    intro L
    walk_at "rd"
    refine ⟨fun m xs M' => ∃ (acc : List (List Nat)) (s1 : Rst), xs = [some (.r r), some (.r L)] ∧ M' = (L, .lst (acc.map bufL)) :: (U ++ (r, rdO C ws s1) :: M0) ∧ m + acc.length = 8 ∧ s1.at_ ≤ ws.length ∧ B = bufsW ws m acc s1, ⟨8, [], s, rfl, rfl, rfl, hat, hB.symm⟩, ?_⟩
    rintro m xs M' ⟨acc, s1, rfl, rfl, hm, h1, hf⟩
    have hal : (acc.map bufL).length = acc.length := List.length_map _
    walk_at "rd"
    rw [hal]
    refine G.i_d (fun h2 => ?_) (fun h2 => ?_)
    · obtain ⟨m, rfl⟩ : ∃ g, m = g + 1 := ⟨m - 1, by omega⟩
      rw [bufsW] at hf
      walk_at "rd"
      refine next_use (T := (L, .lst (acc.map bufL)) :: U) h1 hw (fun e => k1 _ (by rw [hf, e])) fun z e => ?_
      rw [e] at hf
      dsimp only at hf
      rw [List.cons_append]
      walk_at "rd"
      refine G.i_d (fun h3 => ?_) (fun h3 => ?_)
      · rw [if_pos h3] at hf
        walk_at "rd"
        refine ⟨r, ws, s1, (L, .lst (acc.map bufL)) :: U, M0, rfl, rfl, h1, hw, fun i hi => k1 i (by rw [hf, hi]; rfl), fun b s2 h4 => ?_⟩
        rw [h4, bindR_go] at hf
        rw [List.cons_append]
        walk_at "rd"
        exact ⟨m, by omega, acc ++ [b], s2, rfl, by simp, by rw [List.length_append, List.length_singleton]; omega, (bufW_goes h4).2, hf⟩
      · rw [if_neg h3] at hf
        walk_at "re"
        exact .fz (.lst .hd) (k2 acc s1 hf)
    · obtain rfl : m = 0 := by omega
      walk_at "re"
      exact .fz (.lst .hd) (k2 acc s1 hf)
end



/-! ### lists to tuples, all the way down -/
def FzOk : Nat → D → Prop
  | 0, _ => False
  | _ + 1, .int _ => True
  | _ + 1, .str _ => True
  | n + 1, .lst ds => ds.length ≤ 1000000 ∧ ∀ x ∈ ds, FzOk n x
  | n + 1, .tup ds => ds.length ≤ 1000000 ∧ ∀ x ∈ ds, FzOk n x
  | _ + 1, _ => False
def froz : Nat → D → D
  | n + 1, .lst ds => .tup (ds.map (froz n))
  | n + 1, .tup ds => .tup (ds.map (froz n))
  | _, d => d
def sp_frozen (n : Nat) : ASp := fun ds M Q _ => ∃ d, ds = [d] ∧ FzOk n d ∧ Q (froz n d) M
section
variable {P : Program} {w : World} {K : PySem.W.Frag} {mg : Str → Option Value} {base : Heap}
theorem ok_frozen (T : Top K mg) : ∀ n, Cal P w K mg base CX0 n "frozen" ["part"] (conSp K (sp_frozen n))
  | 0 => def_none T.f_frozen (fun _ _ _ _ _ _ us hl => match us, hl with | [_], _ => rfl) fun vs H Q E ⟨ds, M, F, B, BX, _, _, ⟨x, _, h, _⟩, _⟩ => h
  | n + 1 => by
    have IH := ok_frozen T n
    refine def_A T.f_frozen sc_frozen (fun _ _ _ _ _ _ us hl => match us, hl with | [_], _ => rfl) (fun ds M Q E h => ?_) (fun f cdv Ar outer s H E ds M Q EX hr h => ?_)
    · obtain ⟨x, rfl, _⟩ := h
      rfl
    · obtain ⟨d, rfl, h, k⟩ := h
      refine ⟨_, (as_cons (as_if (a_truth (K := K) (a_callB (o_isT (K := K)) (by rfl) T.b_isinstance (by decide +kernel) (aa_cons (a_var (pv 0)) (aa_cons (a_tup (aa_cons (a_c (pe_bltn (v := .ty "list") (by rfl) T.b_list (by decide +kernel) rfl) (fun _ => .ty _)) (aa_cons (a_c (pe_bltn (v := .ty "tuple") (by rfl) T.b_tuple (by decide +kernel) rfl) (fun _ => .ty _)) aa_nil))) aa_nil))) (by intro _; rfl))
  (as_one (as_ret (ps_ret (a_callTy (o_tup (K := K)) (by rfl) T.b_tuple (by decide +kernel) (aa_cons (a_lc finD_ok (pe_lc (own := [("inner", 1)]) rfl sc_frozen.nd (ai_of (g_it (K := K) (a_var (pv 0)))) (blkOk_by (own := [("inner", 1)]) (N := ["part", "inner"]) (sc := defScope s_frozen) (by decide +kernel)) (fun _ _ _ _ _ => (ag_name (pg_name (i := 1) sc_frozen.nd rfl (Or.inl rfl)))) (fun _ _ _ _ _ => ats_nil) (fun _ _ _ _ _ => (a_call (g_call IH hr (by rfl) pass0 (aa_cons (a_var (pv 1)) aa_nil)))))) aa_nil)))))
  as_nil)
  (as_one (as_ret (ps_ret (a_var (pv 0)))))), ?_⟩
      cases d with
      | int i =>
        walk_at "rd"
        refine ⟨_, "int", ["list", "tuple"], false, rfl, .int, kitAny_cons (kit_ty (r := false) (by decide +kernel)) (fun _ => kitAny_cons (kit_ty (r := false) (by decide +kernel)) (fun _ => rfl) nofun) nofun, ?_⟩
        walk_at "rd"
        exact k
      | str z =>
        walk_at "rd"
        refine ⟨_, "str", ["list", "tuple"], false, rfl, .str, kitAny_cons (kit_ty (r := false) (by decide +kernel)) (fun _ => kitAny_cons (kit_ty (r := false) (by decide +kernel)) (fun _ => rfl) nofun) nofun, ?_⟩
        walk_at "rd"
        exact k
      | lst ds =>
        walk_at "rd"
        refine ⟨_, "list", ["list", "tuple"], true, rfl, .lst, kitAny_cons (kit_ty (r := true) (by decide +kernel)) nofun (fun _ => rfl), ?_⟩
        walk_at "rd"
        intro a
        refine c_inv (fun i acc M' => acc = (ds.take i).map (froz n) ∧ M' = M) ⟨by simp, rfl⟩ ?_ ?_
        · rintro i d acc M' hd hl ⟨rfl, rfl⟩
          have hi := (List.getElem?_eq_some_iff.mp hd).1
          have hs := h.1
          walk_at "rd"
          refine ⟨d, rfl, h.2 d (List.mem_of_getElem? hd), ?_⟩
          walk_at "rd"
          exact .mk hl (by rw [line_val]; omega) ⟨by rw [List.take_add_one, hd]; simp, rfl⟩
        · rintro acc M' hl ⟨rfl, rfl⟩
          rw [List.take_length]
          refine fin_d ?_
          walk_at "rd"
          exact k
      | tup ds =>
        walk_at "rd"
        refine ⟨_, "tuple", ["list", "tuple"], true, rfl, .tup, kitAny_cons (kit_ty (r := false) (by decide +kernel)) (fun _ => kitAny_cons (kit_ty (r := true) (by decide +kernel)) nofun (fun _ => rfl)) nofun, ?_⟩
        walk_at "rd"
        intro a
        refine c_inv (fun i acc M' => acc = (ds.take i).map (froz n) ∧ M' = M) ⟨by simp, rfl⟩ ?_ ?_
        · rintro i d acc M' hd hl ⟨rfl, rfl⟩
          have hi := (List.getElem?_eq_some_iff.mp hd).1
          have hs := h.1
          walk_at "rd"
          refine ⟨d, rfl, h.2 d (List.mem_of_getElem? hd), ?_⟩
          walk_at "rd"
          exact .mk hl (by rw [line_val]; omega) ⟨by rw [List.take_add_one, hd]; simp, rfl⟩
        · rintro acc M' hl ⟨rfl, rfl⟩
          rw [List.take_length]
          refine fin_d ?_
          walk_at "rd"
          exact k
      | _ => exact h.elim
end

/-! ### components as data -/
abbrev compF (n : Nat) (room bufs procs : D) : List (Str × D) := [("room", room), ("buffers", froz n bufs), ("procedures", froz n procs)]
def sp_Comp_init (C : Cs) (n : Nat) : ASp := fun ds M Q E => ∃ (x : Addr) (u : Ob → Mem) (room bufs procs : D), ds = [.r x, room, bufs, procs] ∧ At M x (.ins C.Component []) u ∧ FzOk n bufs ∧ FzOk n procs ∧ Q .non (u (.ins C.Component (compF n room bufs procs)))
section
variable {P : Program} {w : World} {K : PySem.W.Frag} {mg : Str → Option Value} {base : Heap} {C : Cs}
theorem ok_Component_init (T : Top K mg) (Z : Txt K mg C) (n : Nat) : MCal P w K mg base (HX P w) (n + 1) C.Component "__init__" ["self", "room", "buffers", "procedures"] (conSp K (sp_Comp_init C n)) := by
  refine met_AX Z.m_Component_init sc_Component_init (fun _ _ _ _ _ _ us hl => match us, hl with | [_, _, _, _], _ => rfl) (fun ds M Q E h => ?_) (fun f cdv Ar outer s H E ds M Q EX hr h => ?_)
  · obtain ⟨x, u, room, bufs, procs, rfl, _⟩ := h
    rfl
  · obtain ⟨x, u, room, bufs, procs, rfl, hx, h1, h2, k⟩ := h
    refine ⟨_, (as_cons (as_fld (K := K) (ps_fld (a_var (pv 0)) (a_var (pv 1)) rfl))
  (as_cons (as_fld (K := K) (ps_fld (a_var (pv 0)) (a_call (g_call (ok_frozen T n) (hr.mono (by omega)) (by rfl) pass0 (aa_cons (a_var (pv 2)) aa_nil))) rfl))
  (as_one (as_fld (K := K) (ps_fld (a_var (pv 0)) (a_call (g_call (ok_frozen T n) (hr.mono (by omega)) (by rfl) pass0 (aa_cons (a_var (pv 3)) aa_nil))) rfl))))), ?_⟩
    have hc := Z.k_Component.cl
    have n1 := Z.a_Component_room
    have n2 := Z.a_Component_buffers
    have n3 := Z.a_Component_procedures
    walk_at "rd"
    refine ⟨bufs, rfl, h1, ?_⟩
    walk_at "rd"
    refine ⟨procs, rfl, h2, ?_⟩
    walk_at "rd"
    exact k
end


/-! ### how deep what is read is -/
theorem FzOk.up : ∀ {n : Nat} {d : D}, FzOk n d → FzOk (n + 1) d
  | 0, d, h => h.elim
  | n + 1, .int _, _ => trivial
  | n + 1, .str _, _ => trivial
  | n + 1, .lst ds, h => ⟨h.1, fun x hx => (h.2 x hx).up⟩
  | n + 1, .tup ds, h => ⟨h.1, fun x hx => (h.2 x hx).up⟩
theorem FzOk.le {n m : Nat} {d : D} (h : FzOk n d) (hm : n ≤ m) : FzOk m d := by
  induction hm with
  | refl => exact h
  | step _ ih => exact ih.up
theorem fz_t {n : Nat} {ds : List D} (h1 : ds.length ≤ 1000000) (h : ∀ x ∈ ds, FzOk n x) : FzOk (n + 1) (.tup ds) := ⟨h1, h⟩
theorem fz_nat {n k : Nat} : FzOk (n + 1) (natD k) := trivial
theorem fz_str {n : Nat} {z : Str} : FzOk (n + 1) (.str z) := trivial
theorem fz_2 {n : Nat} {a b : D} (h1 : FzOk n a) (h2 : FzOk n b) : FzOk (n + 1) (.tup [a, b]) := fz_t (by simp) fun x hx => by
  rcases List.mem_cons.mp hx with rfl | hx
  · exact h1
  · rw [List.mem_singleton.mp hx]; exact h2
theorem fz_3 {n : Nat} {a b c : D} (h1 : FzOk n a) (h2 : FzOk n b) (h3 : FzOk n c) : FzOk (n + 1) (.tup [a, b, c]) := fz_t (by simp) fun x hx => by
  rcases List.mem_cons.mp hx with rfl | hx
  · exact h1
  · rcases List.mem_cons.mp hx with rfl | hx
    · exact h2
    · rw [List.mem_singleton.mp hx]; exact h3
theorem fz_4 {n : Nat} {a b c d : D} (h1 : FzOk n a) (h2 : FzOk n b) (h3 : FzOk n c) (h4 : FzOk n d) : FzOk (n + 1) (.tup [a, b, c, d]) := fz_t (by simp) fun x hx => by
  rcases List.mem_cons.mp hx with rfl | hx
  · exact h1
  · rcases List.mem_cons.mp hx with rfl | hx
    · exact h2
    · rcases List.mem_cons.mp hx with rfl | hx
      · exact h3
      · rw [List.mem_singleton.mp hx]; exact h4
theorem expW_fz {ws : List Str} : ∀ (d : Nat) {e : Ex} {s s' : Rst}, expW ws d s = .inr (e, s') → FzOk (d + 1) e.d
  | 0, e, s, s', h => by cases h
  | d + 1, e, s, s', h => by
    rw [expW] at h
    cases ez : ws[s.at_]? with
    | none => rw [ez] at h; cases h
    | some z =>
      rw [ez] at h
      dsimp only at h
      split at h
      · obtain ⟨a, s1, h1, h2⟩ := bindR_inr h
        obtain ⟨b, s2, h3, h4⟩ := bindR_inr h2
        cases h4
        exact fz_3 fz_str (expW_fz d h1) (expW_fz d h3)
      · split at h
        · obtain ⟨a, s1, h1, h2⟩ := bindR_inr h
          obtain ⟨b, s2, h3, h4⟩ := bindR_inr h2
          cases h4
          exact fz_3 fz_str fz_nat (expW_fz d h3)
        · split at h
          · obtain ⟨a, s1, h1, h2⟩ := bindR_inr h
            cases h2
            exact fz_2 fz_str fz_nat
          · obtain ⟨a, s1, h1, h2⟩ := bindR_inr h
            cases h2
            exact fz_2 fz_str fz_nat
abbrev BlkFz (N : Nat) (a : List St) : Prop := a.length ≤ 1000000 ∧ ∀ x ∈ a, FzOk N x.d
theorem BlkFz.tup {N : Nat} {a : List St} (h : BlkFz N a) : FzOk (N + 1) (.tup (stsD a)) := by
  rw [stsD_map]
  refine fz_t (by rw [List.length_map]; exact h.1) fun x hx => ?_
  obtain ⟨y, hy, rfl⟩ := List.mem_map.mp hx
  exact h.2 y hy
theorem stmtW_fz {ws : List Str} {blk : Rst → Nat ⊕ (List St × Rst)} {N : Nat} (hN : 4 ≤ N) (hb : ∀ s a s', blk s = .inr (a, s') → BlkFz N a) {z : Str} {x : St} {s s' : Rst} (h : stmtW ws blk z s = .inr (x, s')) : FzOk (N + 2) x.d := by
  have ex : ∀ {e : Ex} {s s' : Rst}, expW ws 4 s = .inr (e, s') → FzOk (N + 1) e.d := fun q => (expW_fz 4 q).le (by omega)
  have call : ∀ {c : Str} {m : Nat} {p : Nat × Nat × Ex} {s s' : Rst}, callW ws c m s = .inr (p, s') → FzOk (N + 1) p.2.2.d := fun q => by
    obtain ⟨l, s1, h1, h2⟩ := bindR_inr q
    obtain ⟨n, s2, h3, h4⟩ := bindR_inr h2
    obtain ⟨e, s3, h5, h6⟩ := bindR_inr h4
    cases h6
    exact ex h5
  unfold stmtW at h
  split at h
  · obtain ⟨l, s1, h1, h2⟩ := bindR_inr h
    obtain ⟨e, s2, h3, h4⟩ := bindR_inr h2
    cases h4
    rw [St.d]
    exact fz_3 fz_str fz_nat (ex h3)
  · split at h
    · obtain ⟨l, s1, h1, h2⟩ := bindR_inr h
      obtain ⟨e, s2, h3, h4⟩ := bindR_inr h2
      obtain ⟨e2, s3, h5, h6⟩ := bindR_inr h4
      cases h6
      rw [St.d]
      exact fz_4 fz_str fz_nat (ex h3) (ex h5)
    · split at h
      · obtain ⟨p, s1, h1, h2⟩ := bindR_inr h
        cases h2
        rw [St.d]
        exact fz_4 fz_str fz_nat fz_nat (call h1)
      · split at h
        · obtain ⟨p, s1, h1, h2⟩ := bindR_inr h
          cases h2
          rw [St.d]
          exact fz_4 fz_str fz_nat fz_nat (call h1)
        · split at h
          · obtain ⟨t, s1, h1, h2⟩ := bindR_inr h
            obtain ⟨a, s2, h3, h4⟩ := bindR_inr h2
            have ha := hb _ _ _ h3
            unfold elseW at h4
            cases e : ws[s2.at_]? with
            | none => rw [e] at h4; cases h4
            | some z2 =>
              rw [e] at h4
              dsimp only at h4
              split at h4
              · obtain ⟨b, s3, h5, h6⟩ := bindR_inr h4
                split at h6
                · cases h6
                · obtain ⟨u, s4, h7, h8⟩ := bindR_inr h6
                  cases h8
                  rw [St.d]
                  exact fz_4 fz_str (ex h1) ha.tup (hb _ _ _ h5).tup
              · obtain ⟨u, s4, h7, h8⟩ := bindR_inr h4
                cases h8
                rw [St.d]
                exact fz_4 fz_str (ex h1) ha.tup (BlkFz.tup ⟨by simp, by simp⟩)
          · split at h
            · obtain ⟨t, s1, h1, h2⟩ := bindR_inr h
              obtain ⟨a, s2, h3, h4⟩ := bindR_inr h2
              obtain ⟨u, s3, h5, h6⟩ := bindR_inr h4
              cases h6
              rw [St.d]
              exact fz_3 fz_str (ex h1) (hb _ _ _ h3).tup
            · obtain ⟨e, s1, h1, h2⟩ := bindR_inr h
              cases h2
              rw [St.d]
              exact fz_2 fz_str (ex h1)
theorem loopW_fz {ws : List Str} {n N : Nat} {blk : Rst → Nat ⊕ (List St × Rst)} (hw : ws.length ≤ 1000000) (hN : 4 ≤ N) (hk : Keeps ws blk) (hb : ∀ s a s', blk s = .inr (a, s') → BlkFz N a) : ∀ (f : Nat) (acc : List St) (s : Rst) (a : List St) (s' : Rst),
    acc.length ≤ s.at_ → (∀ x ∈ acc, FzOk (N + 2) x.d) → loopW ws n blk f acc s = .inr (a, s') → BlkFz (N + 2) a
  | 0, acc, s, a, s', _, _, h => by cases h
  | f + 1, acc, s, a, s', hl, ha, h => by
    rw [loopW] at h
    cases e : ws[s.at_]? with
    | none => rw [e] at h; cases h
    | some z =>
      rw [e] at h
      dsimp only at h
      split at h
      · obtain ⟨x, s1, h1, h2⟩ := bindR_inr h
        have g := (stmtW_goes hk h1).step
        refine loopW_fz hw hN hk hb f _ _ _ _ (by rw [List.length_append, List.length_singleton]; have := g.2.1; omega) (fun y hy => ?_) h2
        rcases List.mem_append.mp hy with q | q
        · exact ha y q
        · rw [List.mem_singleton.mp q]; exact stmtW_fz hN hb h1
      · cases h
        exact ⟨by have := get_lt e; omega, ha⟩
theorem blockW_fz {ws : List Str} (hw : ws.length ≤ 1000000) : ∀ (n : Nat) (s : Rst) (a : List St) (s' : Rst), blockW ws n s = .inr (a, s') → BlkFz (6 + 2 * n) a
  | 0, s, a, s', h => loopW_fz (N := 4) hw (by decide) (fun _ _ _ q => by cases q) (fun _ _ _ q => by cases q) _ _ _ _ _ (Nat.zero_le _) (fun x hx => absurd hx (List.not_mem_nil)) h
  | n + 1, s, a, s', h => loopW_fz (N := 6 + 2 * n) hw (by omega) (blockW_keeps n) (fun s a s' q => blockW_fz hw n s a s' q) _ _ _ _ _ (Nat.zero_le _) (fun x hx => absurd hx (List.not_mem_nil)) h



/-! ### a whole component is read -/
/-- n procedures in a row -/
def procsW (ws : List Str) : Nat → Rst → Nat ⊕ (List (Nat × List St) × Rst)
  | 0, s => .inr ([], s)
  | n + 1, s => bindR (procsW ws n s) fun l s1 => bindR (procW ws s1) fun x s2 => .inr (l ++ [x], s2)
theorem procsW_bad {ws : List Str} {j m : Nat} {s : Rst} (h : procsW ws m s = .inl j) : ∀ k, procsW ws (m + k) s = .inl j
  | 0 => h
  | k + 1 => by rw [show m + (k + 1) = (m + k) + 1 from rfl, procsW, procsW_bad h k]; rfl
theorem procW_goes {ws : List Str} {x : Nat × List St} {s s' : Rst} (h : procW ws s = .inr (x, s')) : s' = { s with at_ := s'.at_, lc := x.1 } ∧ s'.at_ ≤ ws.length := by
  obtain ⟨u, s1, h1, h2⟩ := bindR_inr h
  obtain ⟨lc, s2, h3, h4⟩ := bindR_inr h2
  obtain ⟨b, s3, h5, h6⟩ := bindR_inr h4
  obtain ⟨u2, s4, h7, h8⟩ := bindR_inr h6
  cases h8
  have g1 := exactW_goes h1
  have g2 := numW_goes h3
  have g3 := blockW_keeps _ _ _ _ h5
  have g4 := exactW_goes h7
  exact ⟨by rw [g4.1, g3.1, g2.1, g1.1], g4.2.2⟩
theorem procsW_goes {ws : List Str} : ∀ (n : Nat) {l : List (Nat × List St)} {s s' : Rst}, s.at_ ≤ ws.length → procsW ws n s = .inr (l, s') → s' = { s with at_ := s'.at_, lc := s'.lc } ∧ s'.at_ ≤ ws.length ∧ l.length = n
  | 0, l, s, s', h, e => by cases e; exact ⟨rfl, h, rfl⟩
  | n + 1, l, s, s', h, e => by
    obtain ⟨a, s1, h1, h2⟩ := bindR_inr e
    obtain ⟨x, s2, h3, h4⟩ := bindR_inr h2
    cases h4
    obtain ⟨a1, a2, a3⟩ := procsW_goes n h h1
    obtain ⟨b1, b2⟩ := procW_goes h3
    exact ⟨by rw [b1, a1], b2, by rw [List.length_append, a3]; rfl⟩
theorem bufsW_goes {ws : List Str} : ∀ (n : Nat) {acc l : List (List Nat)} {s s' : Rst}, s.at_ ≤ ws.length → bufsW ws n acc s = .inr (l, s') → s' = { s with at_ := s'.at_ } ∧ s'.at_ ≤ ws.length ∧ l.length ≤ acc.length + n
  | 0, acc, l, s, s', h, e => by cases e; exact ⟨rfl, h, Nat.le_refl _⟩
  | n + 1, acc, l, s, s', h, e => by
    rw [bufsW] at e
    split at e
    · cases e
    · split at e
      · obtain ⟨b, s1, h1, h2⟩ := bindR_inr e
        obtain ⟨a1, a2⟩ := bufW_goes h1
        obtain ⟨b1, b2, b3⟩ := bufsW_goes n a2 h2
        rw [List.length_append, List.length_singleton] at b3
        exact ⟨by rw [b1, a1], b2, by omega⟩
      · cases e
        exact ⟨rfl, h, by omega⟩
def compW (ws : List Str) (s : Rst) : Nat ⊕ (Cm × Rst) :=
  bindR (exactW ws "room" s) fun _ s1 => bindR (numW ws 0 20000 s1) fun rm s2 => bindR (exactW ws "procedures" s2) fun _ s3 => bindR (numW ws 1 8 s3) fun np s4 =>
    bindR (bufsW ws 8 [] { s4 with pc := np }) fun bs s5 => bindR (procsW ws np { s5 with bc := bs.length }) fun ps s6 => .inr (⟨rm, bs, ps⟩, s6)
theorem numW_le {ws : List Str} {lo hi n : Nat} {s s' : Rst} (h : numW ws lo hi s = .inr (n, s')) : lo ≤ n ∧ n ≤ hi := by
  unfold numW at h
  split at h
  · cases h
  · split at h
    · rename_i q
      cases h
      exact q
    · cases h
theorem bufW_len {ws : List Str} {l : List Nat} {s s' : Rst} (h : bufW ws s = .inr (l, s')) : l.length ≤ 1000 := by
  obtain ⟨u, s1, h1, h2⟩ := bindR_inr h
  obtain ⟨n, s2, h3, h4⟩ := bindR_inr h2
  have g := (exactW_goes h1).trans (numW_goes h3)
  rw [(numsW_goes n g.2.2 h4).2.2]
  exact (numW_le h3).2
theorem bufsW_len {ws : List Str} : ∀ (n : Nat) {acc l : List (List Nat)} {s s' : Rst}, (∀ b ∈ acc, b.length ≤ 1000) → bufsW ws n acc s = .inr (l, s') → ∀ b ∈ l, b.length ≤ 1000
  | 0, acc, l, s, s', h, e => by cases e; exact h
  | n + 1, acc, l, s, s', h, e => by
    rw [bufsW] at e
    split at e
    · cases e
    · split at e
      · obtain ⟨b, s1, h1, h2⟩ := bindR_inr e
        refine bufsW_len n (fun y hy => ?_) h2
        rcases List.mem_append.mp hy with q | q
        · exact h y q
        · rw [List.mem_singleton.mp q]; exact bufW_len h1
      · cases e
        exact h
theorem procW_fz {ws : List Str} (hw : ws.length ≤ 1000000) {x : Nat × List St} {s s' : Rst} (h : procW ws s = .inr (x, s')) : FzOk 20 (procR x) := by
  obtain ⟨u, s1, h1, h2⟩ := bindR_inr h
  obtain ⟨lc, s2, h3, h4⟩ := bindR_inr h2
  obtain ⟨b, s3, h5, h6⟩ := bindR_inr h4
  obtain ⟨u2, s4, h7, h8⟩ := bindR_inr h6
  cases h8
  exact fz_2 fz_nat (blockW_fz hw 6 _ _ _ h5).tup
theorem procsW_fz {ws : List Str} (hw : ws.length ≤ 1000000) : ∀ (n : Nat) {l : List (Nat × List St)} {s s' : Rst}, procsW ws n s = .inr (l, s') → ∀ x ∈ l, FzOk 20 (procR x)
  | 0, l, s, s', e => by cases e; exact fun x hx => by cases hx
  | n + 1, l, s, s', e => by
    obtain ⟨a, s1, h1, h2⟩ := bindR_inr e
    obtain ⟨x, s2, h3, h4⟩ := bindR_inr h2
    cases h4
    intro y hy
    rcases List.mem_append.mp hy with q | q
    · exact procsW_fz hw n h1 y q
    · rw [List.mem_singleton.mp q]; exact procW_fz hw h3
/-- a component as the reader makes it -/
abbrev cmD (C : Cs) (c : Cm) : D := .ins C.Component (compF 21 (natD c.room) (bufsL c.bufs) (.lst (c.procs.map procR)))
def sp_tcomp (K : PySem.W.Frag) (C : Cs) : ASp := fun ds M Q E => ∃ r ws s T M0, ds = [.r r] ∧ RdC K C r ws s T M0 M E (cmD C) (compW ws s) Q
section
variable {P : Program} {w : World} {K : PySem.W.Frag} {mg : Str → Option Value} {base : Heap} {C : Cs}
theorem ok_Reader_take_component (T : Top K mg) (Z : Txt K mg C) : MCal P w K mg base (HX P w) 33 C.Reader "take_component" ["self"] (conSp K (sp_tcomp K C)) := by
  refine met_AX Z.m_Reader_take_component sc_Reader_take_component (fun _ _ _ _ _ _ us hl => match us, hl with | [_], _ => rfl) (fun ds M Q E h => ?_) (fun f cdv Ar outer s0 H E ds M Q EX hr h => ?_)
  · obtain ⟨r, ws, s, T, M0, rfl, _⟩ := h
    rfl
  · obtain ⟨r, ws, s, U, M0, rfl, rfl, hat, hw, k1, k2⟩ := h
    refine ⟨_, (as_cons (as_drop (ps_expr (a_methX (g_methX (ok_Reader_take_exactly T Z) Z.k_Reader.cl (hr.mono (by decide)) (takesE rfl rfl rfl rfl) (a_var (pv 0)) (aa_cons a_str aa_nil)))))
  (as_cons (as_set (ps_set (i := 1) sc_Reader_take_component.nd rfl (by first | exact Or.inl rfl | exact Or.inr rfl) (a_methX (g_methX (ok_Reader_take_number T Z) Z.k_Reader.cl (hr.mono (by decide)) (takesE rfl rfl rfl rfl) (a_var (pv 0)) (aa_cons a_int (aa_cons (a_c (g_cint T.c_MOST_ROOM rfl) (fun _ => .int _)) aa_nil))))))
  (as_cons (as_drop (ps_expr (a_methX (g_methX (ok_Reader_take_exactly T Z) Z.k_Reader.cl (hr.mono (by decide)) (takesE rfl rfl rfl rfl) (a_var (pv 0)) (aa_cons a_str aa_nil)))))
  (as_cons (as_fld (K := K) (ps_fld (a_var (pv 0)) (a_methX (g_methX (ok_Reader_take_number T Z) Z.k_Reader.cl (hr.mono (by decide)) (takesE rfl rfl rfl rfl) (a_var (pv 0)) (aa_cons a_int (aa_cons (a_c (g_cint T.c_MOST_PROCEDURES rfl) (fun _ => .int _)) aa_nil)))) rfl))
  (as_cons (as_set (ps_set (i := 2) sc_Reader_take_component.nd rfl (by first | exact Or.inl rfl | exact Or.inr rfl) (a_methX0 (g_methX0 (ok_Reader_take_buffers T Z) Z.k_Reader.cl (hr.mono (by decide)) (takesE rfl rfl rfl rfl) (a_var (pv 0))))))
  (as_cons (as_fld (K := K) (ps_fld (a_var (pv 0)) (a_callB (o_len (K := K)) (by rfl) T.b_len PySem.boot_len (aa_cons (a_var (pv 2)) aa_nil)) rfl))
  (as_cons (as_set (ps_set (i := 3) sc_Reader_take_component.nd rfl (by first | exact Or.inl rfl | exact Or.inr rfl) (a_lstO aa_nil)))
  (as_cons (as_for (ps_for (passes_of rfl) rfl (ai_r1 (pi_range1 rfl T.b_range (aa_cons (a_fld (K := K) (a_var (pv 0))) aa_nil))) (ag_name (pg_name (i := 4) sc_Reader_take_component.nd rfl (by first | exact Or.inl rfl | exact Or.inr rfl)))
  (as_one (as_drop (ps_expr (a_bm o_app (pe_bm PySem.F.plainAttrs_list PySem.F.slot_list_append PySem.F.type_list_append mt_append (a_var (pv 3)) (aa_cons (a_methX0 (g_methX0 (ok_Reader_take_procedure T Z) Z.k_Reader.cl (hr.mono (by decide)) (takesE rfl rfl rfl rfl) (a_var (pv 0)))) aa_nil))))))))
  (as_one (as_ret (ps_ret (a_mk finID_ok (g_makeX Z.k_Component (ok_Component_init T Z 21) (hr.mono (by decide)) (by rfl) Z.n_Component (takesE rfl rfl rfl rfl) (aa_cons (a_var (pv 1)) (aa_cons (a_var (pv 2)) (aa_cons (a_var (pv 3)) aa_nil)))))))))))))))), ?_⟩
    have hc := Z.k_Reader.cl
    have hcc := Z.k_Component.cl
    have n1 := Z.a_Reader_procedure_count
    have n2 := Z.a_Reader_buffer_count
    unfold compW at k1 k2
    walk_at "rd"
    refine ⟨r, ws, s, U, M0, "room", rfl, rfl, hat, hw, fun i hi => k1 i (by rw [hi]; rfl), fun u s1 h1 => ?_⟩
    have g1 := exactW_goes h1
    rw [h1, bindR_go] at k1 k2
    walk_at "rd"
    refine ⟨r, ws, s1, U, M0, 0, 20000, rfl, rfl, g1.2.2, hw, fun i hi => k1 i (by rw [hi]; rfl), fun rm s2 h2 => ?_⟩
    have g2 := numW_goes h2
    rw [h2, bindR_go] at k1 k2
    walk_at "rd"
    refine ⟨r, ws, s2, U, M0, "procedures", rfl, rfl, g2.2.2, hw, fun i hi => k1 i (by rw [hi]; rfl), fun u s3 h3 => ?_⟩
    have g3 := exactW_goes h3
    rw [h3, bindR_go] at k1 k2
    walk_at "rd"
    refine ⟨r, ws, s3, U, M0, 1, 8, rfl, rfl, g3.2.2, hw, fun i hi => k1 i (by rw [hi]; rfl), fun np s4 h4 => ?_⟩
    have g4 := numW_goes h4
    have hnp := numW_le h4
    rw [h4, bindR_go] at k1 k2
    walk_at "rd"
    refine ⟨r, ws, { s4 with pc := np }, U, M0, rfl, rfl, g4.2.2, hw, fun i hi => k1 i (by rw [hi]; rfl), fun bs s5 h5 => ?_⟩
    have g5 := bufsW_goes 8 (by exact g4.2.2) h5
    have hbl := bufsW_len 8 (fun b hb => by cases hb) h5
    rw [h5, bindR_go] at k1 k2
    have hpc : s5.pc = np := by rw [g5.1]
    walk_at "rd"
    rw [List.length_map]
    walk_at "rd"
    intro L
    walk_at "rd"
    refine f_rng (fun i xs M' => ∃ (l : List (Nat × List St)) (s6 : Rst) (v : Option D), xs = [some (.r r), some (natD rm), some (bufsL bs), some (.r L), v] ∧ M' = (L, .lst (l.map procR)) :: (U ++ (r, rdO C ws s6) :: M0) ∧ procsW ws i { s5 with bc := bs.length } = .inr (l, s6)) ⟨[], _, none, rfl, rfl, rfl⟩ ?_ ?_
    · rintro i xs M' hi ⟨l, s6, v, rfl, rfl, h6⟩
      rw [Int.toNat_natCast, hpc] at hi
      obtain ⟨q1, q2, q3⟩ := procsW_goes _ (by exact g5.2.1) h6
      have hz : (l.map procR).length < sizeLine := by rw [List.length_map, line_val]; omega
      walk_at "rd"
      refine ⟨r, ws, s6, (L, .lst (l.map procR)) :: U, M0, rfl, rfl, q2, hw, fun j hj => k1 j ?_, fun x s7 h7 => ?_⟩
      · have h8 : procsW ws (i + 1) { s5 with bc := bs.length } = .inl j := by rw [procsW, h6, bindR_go, hj]; rfl
        have h9 := procsW_bad h8 (np - (i + 1))
        rw [show i + 1 + (np - (i + 1)) = np by omega] at h9
        rw [h9]
        rfl
      · rw [List.cons_append]
        walk_at "rd"
        exact ⟨l ++ [x], s7, _, rfl, by simp, by rw [procsW, h6, bindR_go, h7]; rfl⟩
    · rintro xs M' ⟨l, s6, v, rfl, rfl, h6⟩
      rw [show ((s5.pc : Nat) : Int).toNat = np by rw [Int.toNat_natCast, hpc]] at h6
      obtain ⟨q1, q2, q3⟩ := procsW_goes _ (by exact g5.2.1) h6
      rw [h6, bindR_go] at k2
      walk_at "fz0"
      walk_at "rd"
      intro x
      refine ⟨x, _, natD rm, bufsL bs, .lst (l.map procR), rfl, .hd, ⟨?_, fun d hd => ?_⟩, ⟨?_, fun d hd => ?_⟩, ?_⟩
      · have := g5.2.2; rw [List.length_map]; simp only [List.length_nil] at this; omega
      · obtain ⟨b, hb, rfl⟩ := List.mem_map.mp hd
        refine ⟨?_, fun d hd => ?_⟩
        · have := hbl b hb; rw [List.length_map]; omega
        · obtain ⟨n, _, rfl⟩ := List.mem_map.mp hd
          exact trivial
      · rw [List.length_map]; omega
      · obtain ⟨p, hp, rfl⟩ := List.mem_map.mp hd
        exact procsW_fz hw.1 np h6 p hp
      · refine ⟨rfl, _, _, .hd, ?_⟩
        exact .of (k2 ⟨rm, bs, l⟩ s6 rfl)
end
/-! ### read_component -/
def readC (ws : List Str) (ni : Nat) : Nat ⊕ Cm := match compW ws ⟨0, ni, 0, 0, 0⟩ with
  | .inl i => .inl i
  | .inr (c, s) => if s.at_ < ws.length then .inl s.at_ else .inr c
def sp_Rd_init (C : Cs) : ASp := fun ds M Q _ => ∃ (x : Addr) (M0 : Mem) (ws : List Str) (ni : Nat), ds = [.r x, .lst (ws.map D.str), natD ni] ∧ M = (x, .ins C.Reader []) :: M0 ∧ Q .non ((x, rdO C ws ⟨0, ni, 0, 0, 0⟩) :: M0)
def sp_readC (K : PySem.W.Frag) (C : Cs) : ASp := fun ds M Q E => ∃ (z : Str) (ni : Nat), ds = [.str z, natD ni] ∧ z.length ≤ 10000000 ∧ WsOk (parts z) ∧ (∀ i, readC (parts z) ni = .inl i → ∀ M', Gone K M' M → E C.BadText [("at", .int (i : Nat))] M') ∧ ∀ c, readC (parts z) ni = .inr c → Q (cmD C c) M
theorem compW_goes {ws : List Str} {c : Cm} {s s' : Rst} (h0 : s.at_ ≤ ws.length) (h : compW ws s = .inr (c, s')) : s'.at_ ≤ ws.length := by
  obtain ⟨u, s1, h1, h⟩ := bindR_inr h
  obtain ⟨rm, s2, h2, h⟩ := bindR_inr h
  obtain ⟨u3, s3, h3, h⟩ := bindR_inr h
  obtain ⟨np, s4, h4, h⟩ := bindR_inr h
  obtain ⟨bs, s5, h5, h⟩ := bindR_inr h
  obtain ⟨ps, s6, h6, h⟩ := bindR_inr h
  cases h
  have g5 := bufsW_goes 8 (by exact (numW_goes h4).2.2) h5
  exact (procsW_goes _ (by exact g5.2.1) h6).2.1
section
variable {P : Program} {w : World} {K : PySem.W.Frag} {mg : Str → Option Value} {base : Heap} {C : Cs}
theorem ok_Reader_init (T : Top K mg) (Z : Txt K mg C) : MCal P w K mg base (HX P w) 1 C.Reader "__init__" ["self", "words", "import_count"] (conSp K (sp_Rd_init C)) := by
  refine met_AX Z.m_Reader_init sc_Reader_init (fun _ _ _ _ _ _ us hl => match us, hl with | [_, _, _], _ => rfl) (fun ds M Q E h => ?_) (fun f cdv Ar outer s0 H E ds M Q EX hr h => ?_)
  · obtain ⟨x, M0, ws, ni, rfl, _⟩ := h
    rfl
  · obtain ⟨x, M0, ws, ni, rfl, rfl, k⟩ := h
    refine ⟨_, (as_cons (as_fld (K := K) (ps_fld (a_var (pv 0)) (a_var (pv 1)) rfl))
  (as_cons (as_fld (K := K) (ps_fld (a_var (pv 0)) a_int rfl))
  (as_cons (as_fld (K := K) (ps_fld (a_var (pv 0)) (a_var (pv 2)) rfl))
  (as_cons (as_fld (K := K) (ps_fld (a_var (pv 0)) a_int rfl))
  (as_cons (as_fld (K := K) (ps_fld (a_var (pv 0)) a_int rfl))
  (as_one (as_fld (K := K) (ps_fld (a_var (pv 0)) a_int rfl)))))))), ?_⟩
    have hc := Z.k_Reader.cl
    have n1 := Z.a_Reader_words
    have n2 := Z.a_Reader_at
    have n3 := Z.a_Reader_import_count
    have n4 := Z.a_Reader_buffer_count
    have n5 := Z.a_Reader_procedure_count
    have n6 := Z.a_Reader_local_count
    walk_at "rd"
    exact k
theorem ok_read_component (T : Top K mg) (Z : Txt K mg C) : Cal P w K mg base (HX P w) 34 "read_component" ["text", "imports"] (conSp K (sp_readC K C)) := by
  refine def_AX T.f_read_component sc_read_component (fun _ _ _ _ _ _ us hl => match us, hl with | [_, _], _ => rfl) (fun ds M Q E h => ?_) (fun f cdv Ar outer s0 H E ds M Q EX hr h => ?_)
  · obtain ⟨z, ni, rfl, _⟩ := h
    rfl
  · obtain ⟨z, ni, rfl, hz, hw, k1, k2⟩ := h
    refine ⟨_, (as_cons (as_set (ps_set (i := 2) sc_read_component.nd rfl (by first | exact Or.inl rfl | exact Or.inr rfl) (a_mk finIO_ok (g_makeX Z.k_Reader (ok_Reader_init T Z) (hr.mono (by decide)) (by rfl) Z.n_Reader (takesE rfl rfl rfl rfl) (aa_cons (a_call (g_call (ok_split_words T) (hr.mono (by decide)) (by rfl) pass0 (aa_cons (a_var (pv 0)) aa_nil))) (aa_cons (a_var (pv 1)) aa_nil))))))
  (as_cons (as_set (ps_set (i := 3) sc_read_component.nd rfl (by first | exact Or.inl rfl | exact Or.inr rfl) (a_methX0 (g_methX0 (ok_Reader_take_component T Z) Z.k_Reader.cl (hr.mono (by decide)) (takesE rfl rfl rfl rfl) (a_var (pv 2))))))
  (as_cons (as_if (a_tcmp o_lt (a_fld (K := K) (a_var (pv 2))) (a_callB (o_len (K := K)) (by rfl) T.b_len PySem.boot_len (aa_cons (a_fld (K := K) (a_var (pv 2))) aa_nil)) (nomark _))
  (as_one (as_raise (g_raiseN rfl (takesE rfl rfl rfl rfl) (g_mkexN Z.n_BadText Z.e_BadText (ok_BadText_init T Z) (hr.mono (by decide)) (by rfl) (aa_cons (a_fld (K := K) (a_var (pv 2))) aa_nil)))))
  as_nil)
  (as_one (as_ret (ps_ret (a_var (pv 3)))))))), ?_⟩
    have hc := Z.k_Reader.cl
    have n1 := Z.a_Reader_at
    have n2 := Z.a_Reader_words
    unfold readC at k1 k2
    walk_at "rd"
    refine ⟨z, rfl, hz, ?_⟩
    generalize parts z = ws at *
    walk_at "rd"
    intro x
    refine ⟨x, _, ws, ni, rfl, rfl, ?_⟩
    walk_at "rd"
    refine ⟨rfl, ?_⟩
    walk_at "rd"
    refine ⟨x, ws, ⟨0, ni, 0, 0, 0⟩, [], M, rfl, rfl, Nat.zero_le _, hw, fun i hi => k1 i (by rw [hi]), fun c s h => ?_⟩
    have g := compW_goes (Nat.zero_le _) h
    rw [h] at k1 k2
    dsimp only at k1 k2
    walk_at "rd"
    rw [List.length_map]
    refine G.i_d (fun q => ?_) (fun q => ?_)
    · have q : s.at_ < ws.length := by omega
      rw [if_pos q] at k1
      have hw1 := hw.1
      walk_at "rd"
      exact k1 _ rfl _ (Gone.refl.hd)
    · have q : ¬ s.at_ < ws.length := by omega
      rw [if_neg q] at k2
      walk_at "re"
      exact .fz (FzV.drop .hd) (k2 c rfl)
end


local macro_rules | `(tactic| walk_at "a1") => `(tactic| with_reducible refine AV.s_enl ?_)
local macro_rules | `(tactic| walk_at "a0") => `(tactic| with_reducible refine AV.s_enl ?_)
local macro_rules | `(tactic| walk_at "at") => `(tactic| with_reducible first | exact AV.At.hd | assumption | exact AV.At.put (by assumption) | (refine' AV.At.under ?k6; (case k6 => walk_at "at")) | (refine' AV.At.tl ?k6; (case k6 => walk_at "at")))
local macro_rules | `(tactic| walk_at "fz0") => `(tactic| ((try walk_at "st"); refine' AV.Nx.fz (AV.Fz.lst AV.Rem.hd ?k1 AV.SbM.rest) ?_; (case k1 => walk_at "fzs")))
local macro_rules | `(tactic| walk_at "fz1") => `(tactic| ((try walk_at "st"); refine' AV.Nx.fz (AV.Fz.lst (AV.Rem.tl AV.Rem.hd) ?k1 AV.SbM.rest) ?_; (case k1 => walk_at "fzs")))
local macro_rules | `(tactic| walk_at "b1") => `(tactic| first
  | ((with_reducible refine' AV.v_rep1 ?k1 ?_); (case k1 => exact ⟨by omega, by omega⟩))
  | ((with_reducible refine' AV.v_repO1 ?k1 ?_); (case k1 => exact ⟨by omega, by omega⟩))
  | ((with_reducible refine' AV.x_augS ?k1 ?k2 ?_); (case k1 => walk_at "at"); (case k2 => first | rfl | assumption))
  | ((with_reducible refine' AV.x_unl ?k1 ?k2 ?_); (case k1 => walk_at "ls"); (case k2 => rfl))
  | ((with_reducible refine' AV.x_star ?k1 ?_); (case k1 => walk_at "sq")))
local macro_rules | `(tactic| walk_at "a1") => `(tactic| walk_at "b1")
local macro_rules | `(tactic| walk_at "a0") => `(tactic| walk_at "b1")
local macro_rules | `(tactic| walk_at "lk") => `(tactic| with_reducible assumption)
local macro_rules | `(tactic| walk_at "b1") => `(tactic| first
  | ((with_reducible refine' AV.x_kd ?k1 ?_); (case k1 => rfl))
  | with_reducible refine AV.x_kin ?_
  | ((with_reducible refine' AV.x_dix ?k1 ?k2 ?_); (case k1 => walk_at "at"); (case k2 => walk_at "lk"))
  | ((with_reducible refine' AV.x_dput ?k1 ?k2 ?k3 ?_); (case k1 => walk_at "at"); (case k2 => walk_at "sz"); (case k3 => walk_at "putr")))
local macro_rules | `(tactic| walk_at "b1") => `(tactic| ((with_reducible refine' AV.x_hasL ?k1 ?_); (case k1 => walk_at "at")))
local macro_rules | `(tactic| walk_at "b1") => `(tactic| with_reducible refine AV.s_ent ?_)

theorem ops_no {z : Str} (h : z ∈ opsL) : ¬ z = "number" ∧ ¬ z = "local" ∧ ¬ z = "get" := by
  simp only [opsL, List.mem_cons, List.not_mem_nil, or_false] at h
  rcases h with rfl | rfl | rfl | rfl | rfl | rfl | rfl <;> decide

/-! ### texts of components: the words of each part -/
def numS (i : Int) : Str := Str.ofString (toString i)
/-- a letter and a number -/
abbrev letS (c : Str) (n : Nat) : Str := Str.empty ++ c ++ Str.ofString (toString (n : Int))
def Ex.ws : Ex → List Str
  | .num n => [numS n]
  | .loc n => [letS "l" n]
  | .get b e => "get" :: letS "b" b :: e.ws
  | .op z a b => z :: (a.ws ++ b.ws)
mutual
def St.ws : St → List Str
  | .set l e => "set" :: letS "l" l :: e.ws
  | .put b i e => "put" :: letS "b" b :: (i.ws ++ e.ws)
  | .call l p e => "call" :: letS "l" l :: letS "p" p :: e.ws
  | .use l i e => "use" :: letS "l" l :: letS "i" i :: e.ws
  | .ifs t a b => ("if" : Str) :: (t.ws ++ stsWs a ++ (if b.isEmpty = true then [] else ("else" : Str) :: stsWs b) ++ [("end" : Str)])
  | .wh t a => ("while" : Str) :: (t.ws ++ stsWs a ++ [("end" : Str)])
  | .ret e => "return" :: e.ws
def stsWs : List St → List Str
  | [] => []
  | x :: xs => x.ws ++ stsWs xs
end
def bufWs (b : List Nat) : List Str := "buffer" :: numS b.length :: b.map fun n : Nat => numS n
def procWs (p : Nat × List St) : List Str := "procedure" :: numS p.1 :: (stsWs p.2 ++ [("end" : Str)])
def Cm.ws (c : Cm) : List Str := "room" :: numS c.room :: "procedures" :: numS c.procs.length :: ((c.bufs.map bufWs).flatten ++ (c.procs.map procWs).flatten)
theorem Ex.ws_len : ∀ e : Ex, e.ws.length + 2 ≤ 3 * 2 ^ (e.dep - 1)
  | .num n => by simp [Ex.ws, Ex.dep]
  | .loc n => by simp [Ex.ws, Ex.dep]
  | .get b e => by
    have h := e.ws_len
    have hp := e.dep_pos
    rw [Ex.ws, Ex.dep, List.length_cons, List.length_cons]
    obtain ⟨k, hk⟩ : ∃ k, e.dep = k + 1 := ⟨e.dep - 1, by omega⟩
    rw [hk] at h ⊢
    rw [show k + 1 + 1 - 1 = k + 1 by omega, Nat.pow_succ]
    rw [show k + 1 - 1 = k by omega] at h
    omega
  | .op z a b => by
    have h1 := a.ws_len
    have h2 := b.ws_len
    have p1 := a.dep_pos
    have p2 := b.dep_pos
    rw [Ex.ws, Ex.dep, List.length_cons, List.length_append]
    obtain ⟨k, hk⟩ : ∃ k, max a.dep b.dep = k + 1 := ⟨max a.dep b.dep - 1, by omega⟩
    rw [hk, show k + 1 + 1 - 1 = k + 1 by omega, Nat.pow_succ]
    have q1 : 2 ^ (a.dep - 1) ≤ 2 ^ k := Nat.pow_le_pow_right (by decide) (by omega)
    have q2 : 2 ^ (b.dep - 1) ≤ 2 ^ k := Nat.pow_le_pow_right (by decide) (by omega)
    omega
theorem Ex.ws_le {e : Ex} {d : Nat} (h : e.dep ≤ d) (hd : d ≤ 8) : e.ws.length ≤ 400 := by
  have h1 := e.ws_len
  have h2 : 2 ^ (e.dep - 1) ≤ 2 ^ 7 := Nat.pow_le_pow_right (by decide) (by omega)
  have : (2 : Nat) ^ 7 = 128 := by decide
  omega
theorem num_len {n : Nat} (h : n < 65536) : (Str.ofString (toString (n : Int))).length ≤ 5 := by
  rw [len_tl, tl_num]
  exact numL_len (by decide) (by omega)
theorem letS_len {c : Str} {n : Nat} (hc : c.length ≤ 10) (hn : n < 65536) : (letS c n).length ≤ sizeLine := by
  have := num_len hn
  rw [G.slen_app, G.slen_app, line_val]
  have e0 : (Str.empty).length = 0 := rfl
  omega
def sp_exws (d : Nat) : ASp := fun ds M Q _ => ∃ (e : Ex) (h : Sh), ds = [e.d] ∧ e.ok h ∧ (h.nl ≤ 1000 ∧ h.nb ≤ 1000) ∧ e.dep ≤ d ∧ d ≤ 8 ∧ Q (.lst (e.ws.map D.str)) M
section
variable {P : Program} {w : World} {K : PySem.W.Frag} {mg : Str → Option Value} {base : Heap} {C : Cs}
theorem ok_expression_words (T : Top K mg) : ∀ d, Cal P w K mg base CX0 (d + 1) "expression_words" ["expression"] (conSp K (sp_exws d))
  | 0 => by
    refine def_A T.f_expression_words sc_expression_words (fun _ _ _ _ _ _ us hl => match us, hl with | [_], _ => rfl) (fun ds M Q E h => ?_) (fun f cdv Ar outer s H E ds M Q EX hr h => ?_)
    · obtain ⟨e, h, rfl, _⟩ := h
      rfl
    · obtain ⟨e, h, rfl, _, _, hd, _⟩ := h
      exact absurd e.dep_pos (by omega)
  | d + 1 => by
    refine def_A (k := d + 1) T.f_expression_words sc_expression_words (fun _ _ _ _ _ _ us hl => match us, hl with | [_], _ => rfl) (fun ds M Q E h => ?_) (fun f cdv Ar outer s H E ds M Q EX hr h => ?_)
    · obtain ⟨e, h, rfl, _⟩ := h
      rfl
    · obtain ⟨e, h, rfl, ok, hsh, hd, hd8, k⟩ := h
      refine ⟨_, (as_cons (as_set (ps_set (i := 1) sc_expression_words.nd rfl (by first | exact Or.inl rfl | exact Or.inr rfl) (a_ix (o_ix (K := K)) (a_var (pv 0)) a_int (fun _ _ => rfl))))
  (as_cons (as_if (a_tcmp (o_eq (K := K) (un64 hr)) (a_var (pv 1)) a_str (nomark _))
  (as_one (as_ret (ps_ret (a_lst (aa_cons (a_callTy o_str (by rfl) T.b_str (by decide +kernel) (aa_cons (a_ix (o_ix (K := K)) (a_var (pv 0)) a_int (fun _ _ => rfl)) aa_nil)) aa_nil)))))
  as_nil)
  (as_cons (as_if (a_tcmp (o_eq (K := K) (un64 hr)) (a_var (pv 1)) a_str (nomark _))
  (as_one (as_ret (ps_ret (a_lst (aa_cons (a_joined (AJ.cons a_str (AJ.cons (a_fmt (a_ix (o_ix (K := K)) (a_var (pv 0)) a_int (fun _ _ => rfl))) AJ.nil))) aa_nil)))))
  as_nil)
  (as_cons (as_if (a_tcmp (o_eq (K := K) (un64 hr)) (a_var (pv 1)) a_str (nomark _))
  (as_one (as_ret (ps_ret (a_op (o_add (K := K)) (a_lst (aa_cons (a_var (pv 1)) (aa_cons (a_joined (AJ.cons a_str (AJ.cons (a_fmt (a_ix (o_ix (K := K)) (a_var (pv 0)) a_int (fun _ _ => rfl))) AJ.nil))) aa_nil))) (a_call (g_call (ok_expression_words T d) (hr.mono (by omega)) (by rfl) pass0 (aa_cons (a_ix (o_ix (K := K)) (a_var (pv 0)) a_int (fun _ _ => rfl)) aa_nil)))))))
  as_nil)
  (as_one (as_ret (ps_ret (a_op (o_add (K := K)) (a_op (o_add (K := K)) (a_lst (aa_cons (a_var (pv 1)) aa_nil)) (a_call (g_call (ok_expression_words T d) (hr.mono (by omega)) (by rfl) pass0 (aa_cons (a_ix (o_ix (K := K)) (a_var (pv 0)) a_int (fun _ _ => rfl)) aa_nil)))) (a_call (g_call (ok_expression_words T d) (hr.mono (by omega)) (by rfl) pass0 (aa_cons (a_ix (o_ix (K := K)) (a_var (pv 0)) a_int (fun _ _ => rfl)) aa_nil))))))))))), ?_⟩
      cases e with
      | num n =>
        have hn : n < 65536 := ok
        rw [Ex.d]
        walk_at "rd"
        exact k
      | loc n =>
        have hn : n < h.nl := ok
        have hz := letS_len (c := "l") (n := n) (by decide +kernel) (by omega)
        rw [Ex.d]
        walk_at "rd"
        refine .inr ⟨_, rfl, G.log_ok (by omega) (by omega), _, rfl, hz, ?_⟩
        walk_at "rd"
        exact k
      | get b e =>
        have hb : b < h.nb := ok.1
        have hz := letS_len (c := "b") (n := b) (by decide +kernel) (by omega)
        have hde : e.dep ≤ d := by rw [Ex.dep] at hd; omega
        have hwl := Ex.ws_le hde (by omega)
        have hz2 : 2 + (e.ws.map D.str).length ≤ sizeLine := by rw [List.length_map, line_val]; omega
        rw [Ex.d]
        walk_at "rd"
        refine .inr ⟨_, rfl, G.log_ok (by omega) (by omega), _, rfl, hz, ?_⟩
        walk_at "rd"
        refine ⟨e, h, rfl, ok.2, hsh, hde, by omega, ?_⟩
        walk_at "rd"
        exact k
      | op z a b =>
        obtain ⟨hz, ha, hb⟩ := ok
        have hda : a.dep ≤ d := by rw [Ex.dep] at hd; omega
        have hdb : b.dep ≤ d := by rw [Ex.dep] at hd; omega
        have hwa := Ex.ws_le hda (by omega)
        have hwb := Ex.ws_le hdb (by omega)
        obtain ⟨o1, o2, o3⟩ := ops_no hz
        have hz1 : 1 + (a.ws.map D.str).length ≤ sizeLine := by rw [List.length_map, line_val]; omega
        have hz2 : ([D.str z] ++ a.ws.map D.str).length + (b.ws.map D.str).length ≤ sizeLine := by rw [List.length_append, List.length_map, List.length_map, line_val]; show 1 + _ + _ ≤ _; omega
        rw [Ex.d]
        walk_at "rd"
        refine ⟨a, h, rfl, ha, hsh, hda, by omega, ?_⟩
        walk_at "rd"
        refine ⟨b, h, rfl, hb, hsh, hdb, by omega, ?_⟩
        walk_at "rd"
        rw [Ex.ws, List.map_cons, List.map_append] at k
        exact k
end



/-! ### the words of statements and blocks -/
def sp_stws (n : Nat) : ASp := fun ds M Q _ => ∃ (x : St) (h : Sh) (m : Nat), ds = [x.d] ∧ m < n ∧ x.ok h m ∧ (h.nl ≤ 1000 ∧ h.nb ≤ 1000 ∧ h.np ≤ 1000 ∧ h.ni ≤ 1000) ∧ x.ws.length ≤ 1000000 ∧ Q (.lst (x.ws.map D.str)) M
def sp_ifws (n : Nat) : ASp := fun ds M Q _ => ∃ (t : Ex) (a b : List St) (h : Sh) (m : Nat), ds = [(St.ifs t a b).d] ∧ m < n ∧ t.okd h 4 ∧ stsOk h a m ∧ stsOk h b m ∧ a.length ≤ 2000 ∧ b.length ≤ 2000 ∧ (h.nl ≤ 1000 ∧ h.nb ≤ 1000 ∧ h.np ≤ 1000 ∧ h.ni ≤ 1000) ∧ (St.ifs t a b).ws.length ≤ 1000000 ∧ Q (.lst ((St.ifs t a b).ws.map D.str)) M
def sp_blws (n : Nat) : ASp := fun ds M Q _ => ∃ (xs : List St) (h : Sh) (m : Nat), ds = [.tup (xs.map St.d)] ∧ m < n ∧ stsOk h xs m ∧ xs.length ≤ 2000 ∧ (h.nl ≤ 1000 ∧ h.nb ≤ 1000 ∧ h.np ≤ 1000 ∧ h.ni ≤ 1000) ∧ (stsWs xs).length ≤ 1000000 ∧ Q (.lst ((stsWs xs).map D.str)) M
theorem stsWs_app : ∀ {xs ys : List St}, stsWs (xs ++ ys) = stsWs xs ++ stsWs ys
  | [], ys => by rw [List.nil_append, stsWs, List.nil_append]
  | x :: xs, ys => by rw [List.cons_append, stsWs, stsWs, stsWs_app, List.append_assoc]
theorem stsWs_take {xs : List St} {i : Nat} {x : St} (h : xs[i]? = some x) : stsWs (xs.take (i + 1)) = stsWs (xs.take i) ++ x.ws := by
  rw [List.take_add_one, h, Option.toList_some, stsWs_app, stsWs, stsWs, List.append_nil]
theorem stsWs_le {xs : List St} {i : Nat} : (stsWs (xs.take i)).length ≤ (stsWs xs).length := by
  have := congrArg List.length (stsWs_app (xs := xs.take i) (ys := xs.drop i))
  rw [List.take_append_drop, List.length_append] at this
  omega
section
variable {P : Program} {w : World} {K : PySem.W.Frag} {mg : Str → Option Value} {base : Heap} {C : Cs}
theorem ok_block_words_of (T : Top K mg) (n : Nat) (IS : Cal P w K mg base CX0 (3 * n + 7) "statement_words" ["statement"] (conSp K (sp_stws n))) : Cal P w K mg base CX0 (3 * n + 8) "block_words" ["block"] (conSp K (sp_blws n)) := by
  refine def_A (k := 3 * n + 7) T.f_block_words sc_block_words (fun _ _ _ _ _ _ us hl => match us, hl with | [_], _ => rfl) (fun ds M Q E h => ?_) (fun f cdv Ar outer s H E ds M Q EX hr h => ?_)
  · obtain ⟨xs, h, m, rfl, _⟩ := h
    rfl
  · obtain ⟨xs, h, m, rfl, hm, ok, hl, hsh, hw, k⟩ := h
    refine ⟨_, (as_cons (as_set (ps_set (i := 1) sc_block_words.nd rfl (by first | exact Or.inl rfl | exact Or.inr rfl) (a_lstO aa_nil)))
  (as_cons (as_for (ps_for PassesOwn.never rfl (ai_of (g_it (K := K) (a_var (pv 0)))) (ag_name (pg_name (i := 2) sc_block_words.nd rfl (by first | exact Or.inl rfl | exact Or.inr rfl)))
  (as_one (as_drop (ps_expr (a_bm o_ext (pe_bm PySem.F.plainAttrs_list PySem.F.slot_list_extend PySem.F.type_list_extend mt_extend (a_var (pv 1)) (aa_cons (a_call (g_call IS (hr.mono (by omega)) (by rfl) pass0 (aa_cons (a_var (pv 2)) aa_nil))) aa_nil))))))))
  (as_one (as_ret (ps_ret (a_var (pv 1))))))), ?_⟩
    have all := stsOk_iff.mp ok
    walk_at "rd"
    intro W
    walk_at "rd"
    refine f_map xs (fun i zs M' => ∃ v, zs = [some (.tup (xs.map St.d)), some (.r W), v] ∧ M' = (W, .lst ((stsWs (xs.take i)).map D.str)) :: M) ⟨none, rfl, rfl⟩ ?_ ?_
    · rintro i x zs M' hx ⟨v, rfl, rfl⟩
      have h1 := stsWs_take hx
      have h2 := stsWs_le (xs := xs) (i := i + 1)
      have h3 := congrArg List.length h1
      rw [List.length_append] at h3
      have hz : ((stsWs (xs.take i)).map D.str).length + (x.ws.map D.str).length ≤ sizeLine := by rw [List.length_map, List.length_map, line_val]; omega
      walk_at "rd"
      refine ⟨x, h, m, rfl, hm, all x (List.mem_of_getElem? hx), hsh, by omega, ?_⟩
      walk_at "rd"
      refine aExt.mk .hd (.inl rfl) hz ?_
      walk_at "rd"
      exact ⟨_, rfl, by rw [h1, List.map_append]⟩
    · rintro zs M' ⟨v, rfl, rfl⟩
      rw [List.take_length]
      walk_at "re"
      exact .fz (FzV.lst .hd) k
theorem ok_if_words_of (T : Top K mg) (n : Nat) (IB : Cal P w K mg base CX0 (3 * n + 8) "block_words" ["block"] (conSp K (sp_blws n))) : Cal P w K mg base CX0 (3 * n + 9) "if_words" ["statement"] (conSp K (sp_ifws n)) := by
  refine def_A (k := 3 * n + 8) T.f_if_words sc_if_words (fun _ _ _ _ _ _ us hl => match us, hl with | [_], _ => rfl) (fun ds M Q E h => ?_) (fun f cdv Ar outer s H E ds M Q EX hr h => ?_)
  · obtain ⟨t, a, b, h, m, rfl, _⟩ := h
    rfl
  · obtain ⟨t, a, b, h, m, rfl, hm, ht, oa, ob, hla, hlb, hsh, hw, k⟩ := h
    refine ⟨_, (as_cons (as_set (ps_set (i := 1) sc_if_words.nd rfl (by first | exact Or.inl rfl | exact Or.inr rfl) (a_op (o_add (K := K)) (a_op (o_add (K := K)) (a_lst (aa_cons a_str aa_nil)) (a_call (g_call (ok_expression_words T 4) (hr.mono (by omega)) (by rfl) pass0 (aa_cons (a_ix (o_ix (K := K)) (a_var (pv 0)) a_int (fun _ _ => rfl)) aa_nil)))) (a_call (g_call IB (hr.mono (by omega)) (by rfl) pass0 (aa_cons (a_ix (o_ix (K := K)) (a_var (pv 0)) a_int (fun _ _ => rfl)) aa_nil))))))
  (as_cut (as_if (a_truth (K := K) (a_ix (o_ix (K := K)) (a_var (pv 0)) a_int (fun _ _ => rfl)) (by intro _; rfl))
  (as_one (as_set (ps_set (i := 1) sc_if_words.nd rfl (by first | exact Or.inl rfl | exact Or.inr rfl) (a_op (o_add (K := K)) (a_op (o_add (K := K)) (a_var (pv 1)) (a_lst (aa_cons a_str aa_nil))) (a_call (g_call IB (hr.mono (by omega)) (by rfl) pass0 (aa_cons (a_ix (o_ix (K := K)) (a_var (pv 0)) a_int (fun _ _ => rfl)) aa_nil)))))))
  as_nil)
  (as_one (as_ret (ps_ret (a_op (o_add (K := K)) (a_var (pv 1)) (a_lst (aa_cons a_str aa_nil)))))))), ?_⟩
    rw [St.ws] at hw k
    have hwt := Ex.ws_le ht.2 (by decide)
    have hwa : (stsWs a).length ≤ 1000000 := by
      simp only [List.length_cons, List.length_append] at hw; omega
    have hz1 : ([D.str "if"] : List D).length + (t.ws.map D.str).length ≤ sizeLine := by rw [List.length_map, line_val]; show 1 + _ ≤ _; omega
    have hz2 : ([D.str "if"] ++ t.ws.map D.str).length + ((stsWs a).map D.str).length ≤ sizeLine := by rw [List.length_append, List.length_map, List.length_map, line_val]; show 1 + _ + _ ≤ _; omega
    rw [St.d, stsD_map, stsD_map]
    walk_at "rd"
    refine ⟨t, h, rfl, ht.1, ⟨hsh.1, hsh.2.1⟩, ht.2, by decide, ?_⟩
    walk_at "rd"
    refine ⟨a, h, m, rfl, hm, oa, hla, hsh, hwa, ?_⟩
    walk_at "rd"
    refine s_cut (fun xs M' => xs = [some (.tup [.str "if", t.d, .tup (a.map St.d), .tup (b.map St.d)]), some (.lst ((("if" : Str) :: (t.ws ++ stsWs a ++ (if b.isEmpty = true then [] else ("else" : Str) :: stsWs b))).map D.str))] ∧ M' = M) ?_ ?_
    · cases b with
      | nil =>
        walk_at "rd"
        exact .of ⟨by simp, rfl⟩
      | cons y ys =>
        have hwb : (stsWs (y :: ys)).length ≤ 1000000 := by
          simp only [List.length_cons, List.length_append, List.isEmpty_cons, Bool.false_eq_true, if_false] at hw; omega
        have hz3 : (D.str "if" :: (t.ws.map D.str ++ (stsWs a).map D.str)).length + 1 ≤ sizeLine := by rw [List.length_cons, List.length_append, List.length_map, List.length_map, line_val]; omega
        have hz4 : (D.str "if" :: (t.ws.map D.str ++ (stsWs a).map D.str) ++ [D.str "else"]).length + ((stsWs (y :: ys)).map D.str).length ≤ sizeLine := by
          simp only [List.length_cons, List.length_append, List.length_map, List.length_nil, line_val]; omega
        walk_at "rd"
        refine G.i_t ?_
        walk_at "rd"
        refine ⟨y :: ys, h, m, rfl, hm, ob, hlb, hsh, hwb, ?_⟩
        walk_at "rd"
        exact ⟨by simp, rfl⟩
    · rintro xs M' ⟨rfl, rfl⟩
      have hz5 : ((("if" : Str) :: (t.ws ++ stsWs a ++ (if b.isEmpty = true then [] else ("else" : Str) :: stsWs b))).map D.str).length + 1 ≤ sizeLine := by
        rw [List.length_map, line_val]
        simp only [List.length_cons, List.length_append] at hw ⊢
        omega
      walk_at "rd"
      have e : ("if" : Str) :: (t.ws ++ stsWs a ++ (if b.isEmpty = true then [] else ("else" : Str) :: stsWs b) ++ [("end" : Str)]) = (("if" : Str) :: (t.ws ++ stsWs a ++ (if b.isEmpty = true then [] else ("else" : Str) :: stsWs b))) ++ [("end" : Str)] := rfl
      rw [e, List.map_append] at k
      exact k
theorem ok_statement_words (T : Top K mg) : ∀ n, Cal P w K mg base CX0 (3 * n + 7) "statement_words" ["statement"] (conSp K (sp_stws n))
  | 0 => by
    refine def_A (k := 6) T.f_statement_words sc_statement_words (fun _ _ _ _ _ _ us hl => match us, hl with | [_], _ => rfl) (fun ds M Q E h => ?_) (fun f cdv Ar outer s H E ds M Q EX hr h => ?_)
    · obtain ⟨x, h, m, rfl, _⟩ := h
      rfl
    · obtain ⟨x, h, m, _, hm, _⟩ := h
      exact absurd hm (Nat.not_lt_zero _)
  | n + 1 => by
    refine def_A (k := 3 * n + 9) T.f_statement_words sc_statement_words (fun _ _ _ _ _ _ us hl => match us, hl with | [_], _ => rfl) (fun ds M Q E h => ?_) (fun f cdv Ar outer s H E ds M Q EX hr h => ?_)
    · obtain ⟨x, h, m, rfl, _⟩ := h
      rfl
    · obtain ⟨x, h, m, rfl, hm, ok, hsh, hw, k⟩ := h
      refine ⟨_, (as_cons (as_set (ps_set (i := 1) sc_statement_words.nd rfl (by first | exact Or.inl rfl | exact Or.inr rfl) (a_ix (o_ix (K := K)) (a_var (pv 0)) a_int (fun _ _ => rfl))))
  (as_cons (as_if (a_tcmp (o_eq (K := K) (un64 hr)) (a_var (pv 1)) a_str (nomark _))
  (as_one (as_ret (ps_ret (a_op (o_add (K := K)) (a_lst (aa_cons (a_var (pv 1)) (aa_cons (a_joined (AJ.cons a_str (AJ.cons (a_fmt (a_ix (o_ix (K := K)) (a_var (pv 0)) a_int (fun _ _ => rfl))) AJ.nil))) aa_nil))) (a_call (g_call (ok_expression_words T 4) (hr.mono (by omega)) (by rfl) pass0 (aa_cons (a_ix (o_ix (K := K)) (a_var (pv 0)) a_int (fun _ _ => rfl)) aa_nil)))))))
  as_nil)
  (as_cons (as_if (a_tcmp (o_eq (K := K) (un64 hr)) (a_var (pv 1)) a_str (nomark _))
  (as_one (as_ret (ps_ret (a_op (o_add (K := K)) (a_op (o_add (K := K)) (a_lst (aa_cons (a_var (pv 1)) (aa_cons (a_joined (AJ.cons a_str (AJ.cons (a_fmt (a_ix (o_ix (K := K)) (a_var (pv 0)) a_int (fun _ _ => rfl))) AJ.nil))) aa_nil))) (a_call (g_call (ok_expression_words T 4) (hr.mono (by omega)) (by rfl) pass0 (aa_cons (a_ix (o_ix (K := K)) (a_var (pv 0)) a_int (fun _ _ => rfl)) aa_nil)))) (a_call (g_call (ok_expression_words T 4) (hr.mono (by omega)) (by rfl) pass0 (aa_cons (a_ix (o_ix (K := K)) (a_var (pv 0)) a_int (fun _ _ => rfl)) aa_nil)))))))
  as_nil)
  (as_cons (as_if (a_tcmp (o_eq (K := K) (un64 hr)) (a_var (pv 1)) a_str (nomark _))
  (as_one (as_ret (ps_ret (a_op (o_add (K := K)) (a_lst (aa_cons (a_var (pv 1)) (aa_cons (a_joined (AJ.cons a_str (AJ.cons (a_fmt (a_ix (o_ix (K := K)) (a_var (pv 0)) a_int (fun _ _ => rfl))) AJ.nil))) (aa_cons (a_joined (AJ.cons a_str (AJ.cons (a_fmt (a_ix (o_ix (K := K)) (a_var (pv 0)) a_int (fun _ _ => rfl))) AJ.nil))) aa_nil)))) (a_call (g_call (ok_expression_words T 4) (hr.mono (by omega)) (by rfl) pass0 (aa_cons (a_ix (o_ix (K := K)) (a_var (pv 0)) a_int (fun _ _ => rfl)) aa_nil)))))))
  as_nil)
  (as_cons (as_if (a_tcmp (o_eq (K := K) (un64 hr)) (a_var (pv 1)) a_str (nomark _))
  (as_one (as_ret (ps_ret (a_op (o_add (K := K)) (a_lst (aa_cons (a_var (pv 1)) (aa_cons (a_joined (AJ.cons a_str (AJ.cons (a_fmt (a_ix (o_ix (K := K)) (a_var (pv 0)) a_int (fun _ _ => rfl))) AJ.nil))) (aa_cons (a_joined (AJ.cons a_str (AJ.cons (a_fmt (a_ix (o_ix (K := K)) (a_var (pv 0)) a_int (fun _ _ => rfl))) AJ.nil))) aa_nil)))) (a_call (g_call (ok_expression_words T 4) (hr.mono (by omega)) (by rfl) pass0 (aa_cons (a_ix (o_ix (K := K)) (a_var (pv 0)) a_int (fun _ _ => rfl)) aa_nil)))))))
  as_nil)
  (as_cons (as_if (a_tcmp (o_eq (K := K) (un64 hr)) (a_var (pv 1)) a_str (nomark _))
  (as_one (as_ret (ps_ret (a_call (g_call (ok_if_words_of T n (ok_block_words_of T n (ok_statement_words T n))) (hr.mono (by omega)) (by rfl) pass0 (aa_cons (a_var (pv 0)) aa_nil))))))
  as_nil)
  (as_cons (as_if (a_tcmp (o_eq (K := K) (un64 hr)) (a_var (pv 1)) a_str (nomark _))
  (as_one (as_ret (ps_ret (a_op (o_add (K := K)) (a_op (o_add (K := K)) (a_op (o_add (K := K)) (a_lst (aa_cons (a_var (pv 1)) aa_nil)) (a_call (g_call (ok_expression_words T 4) (hr.mono (by omega)) (by rfl) pass0 (aa_cons (a_ix (o_ix (K := K)) (a_var (pv 0)) a_int (fun _ _ => rfl)) aa_nil)))) (a_call (g_call (ok_block_words_of T n (ok_statement_words T n)) (hr.mono (by omega)) (by rfl) pass0 (aa_cons (a_ix (o_ix (K := K)) (a_var (pv 0)) a_int (fun _ _ => rfl)) aa_nil)))) (a_lst (aa_cons a_str aa_nil))))))
  as_nil)
  (as_one (as_ret (ps_ret (a_op (o_add (K := K)) (a_lst (aa_cons (a_var (pv 1)) aa_nil)) (a_call (g_call (ok_expression_words T 4) (hr.mono (by omega)) (by rfl) pass0 (aa_cons (a_ix (o_ix (K := K)) (a_var (pv 0)) a_int (fun _ _ => rfl)) aa_nil)))))))))))))), ?_⟩
      cases x with
      | set l e =>
        obtain ⟨o1, o2⟩ := ok
        have hz1 := letS_len (c := "l") (n := l) (by decide +kernel) (by omega)
        have hwe := Ex.ws_le o2.2 (by decide)
        have hs1 : 2 + (e.ws.map D.str).length ≤ sizeLine := by rw [List.length_map, line_val]; omega
        rw [St.d]
        walk_at "rd"
        refine .inr ⟨_, rfl, G.log_ok (by omega) (by omega), _, rfl, hz1, ?_⟩
        walk_at "rd"
        refine ⟨e, h, rfl, o2.1, ⟨hsh.1, hsh.2.1⟩, o2.2, by decide, ?_⟩
        walk_at "rd"
        exact k
      | put b i e =>
        obtain ⟨o1, o2, o3⟩ := ok
        have hz1 := letS_len (c := "b") (n := b) (by decide +kernel) (by omega)
        have hwi := Ex.ws_le o2.2 (by decide)
        have hwe := Ex.ws_le o3.2 (by decide)
        have hs1 : 2 + (i.ws.map D.str).length ≤ sizeLine := by rw [List.length_map, line_val]; omega
        have hs2 : ([D.str "put", D.str (letS "b" b)] ++ i.ws.map D.str).length + (e.ws.map D.str).length ≤ sizeLine := by rw [List.length_append, List.length_map, List.length_map, line_val]; show 2 + _ + _ ≤ _; omega
        rw [St.d]
        walk_at "rd"
        refine .inr ⟨_, rfl, G.log_ok (by omega) (by omega), _, rfl, hz1, ?_⟩
        walk_at "rd"
        refine ⟨i, h, rfl, o2.1, ⟨hsh.1, hsh.2.1⟩, o2.2, by decide, ?_⟩
        walk_at "rd"
        refine ⟨e, h, rfl, o3.1, ⟨hsh.1, hsh.2.1⟩, o3.2, by decide, ?_⟩
        walk_at "rd"
        rw [St.ws, List.map_cons, List.map_cons, List.map_append] at k
        exact k
      | call l p e =>
        obtain ⟨o1, o2, o3⟩ := ok
        have hz1 := letS_len (c := "l") (n := l) (by decide +kernel) (by omega)
        have hz2 := letS_len (c := "p") (n := p) (by decide +kernel) (by omega)
        have hwe := Ex.ws_le o3.2 (by decide)
        have hs1 : 3 + (e.ws.map D.str).length ≤ sizeLine := by rw [List.length_map, line_val]; omega
        rw [St.d]
        walk_at "rd"
        refine .inr ⟨_, rfl, G.log_ok (by omega) (by omega), _, rfl, hz1, ?_⟩
        walk_at "rd"
        refine .inr ⟨_, rfl, G.log_ok (by omega) (by omega), _, rfl, hz2, ?_⟩
        walk_at "rd"
        refine ⟨e, h, rfl, o3.1, ⟨hsh.1, hsh.2.1⟩, o3.2, by decide, ?_⟩
        walk_at "rd"
        exact k
      | use l i e =>
        obtain ⟨o1, o2, o3⟩ := ok
        have hz1 := letS_len (c := "l") (n := l) (by decide +kernel) (by omega)
        have hz2 := letS_len (c := "i") (n := i) (by decide +kernel) (by omega)
        have hwe := Ex.ws_le o3.2 (by decide)
        have hs1 : 3 + (e.ws.map D.str).length ≤ sizeLine := by rw [List.length_map, line_val]; omega
        rw [St.d]
        walk_at "rd"
        refine .inr ⟨_, rfl, G.log_ok (by omega) (by omega), _, rfl, hz1, ?_⟩
        walk_at "rd"
        refine .inr ⟨_, rfl, G.log_ok (by omega) (by omega), _, rfl, hz2, ?_⟩
        walk_at "rd"
        refine ⟨e, h, rfl, o3.1, ⟨hsh.1, hsh.2.1⟩, o3.2, by decide, ?_⟩
        walk_at "rd"
        exact k
      | ifs t a b =>
        obtain ⟨o1, o2, o3, o4⟩ := ok
        have e0 : (St.ifs t a b).d = .tup [.str "if", t.d, .tup (a.map St.d), .tup (b.map St.d)] := by rw [St.d, stsD_map, stsD_map]
        rw [e0]
        walk_at "rd"
        refine ⟨t, a, b, h, m - 1, by rw [e0], by omega, o2, o3.2, o4.2, o3.1, o4.1, hsh, hw, ?_⟩
        exact .of k
      | wh t a =>
        obtain ⟨o1, o2, o3⟩ := ok
        have e0 : (St.wh t a).d = .tup [.str "while", t.d, .tup (a.map St.d)] := by rw [St.d, stsD_map]
        rw [St.ws] at hw k
        have hwt := Ex.ws_le o2.2 (by decide)
        have hwa : (stsWs a).length ≤ 1000000 := by
          simp only [List.length_cons, List.length_append] at hw; omega
        have hs1 : 1 + (t.ws.map D.str).length ≤ sizeLine := by rw [List.length_map, line_val]; omega
        have hs2 : ([D.str "while"] ++ t.ws.map D.str).length + ((stsWs a).map D.str).length ≤ sizeLine := by rw [List.length_append, List.length_map, List.length_map, line_val]; show 1 + _ + _ ≤ _; omega
        have hs3 : ([D.str "while"] ++ t.ws.map D.str ++ (stsWs a).map D.str).length + 1 ≤ sizeLine := by rw [List.length_append, List.length_append, List.length_map, List.length_map, line_val]; show 1 + _ + _ + 1 ≤ _; omega
        rw [e0]
        walk_at "rd"
        refine ⟨t, h, rfl, o2.1, ⟨hsh.1, hsh.2.1⟩, o2.2, by decide, ?_⟩
        walk_at "rd"
        refine ⟨a, h, m - 1, rfl, by omega, o3.2, o3.1, hsh, hwa, ?_⟩
        walk_at "rd"
        rw [List.map_cons, List.map_append, List.map_append] at k
        exact k
      | ret e =>
        have ok : e.okd h 4 := ok
        have hwe := Ex.ws_le ok.2 (by decide)
        have hs1 : 1 + (e.ws.map D.str).length ≤ sizeLine := by rw [List.length_map, line_val]; omega
        rw [St.d]
        walk_at "rd"
        refine ⟨e, h, rfl, ok.1, ⟨hsh.1, hsh.2.1⟩, ok.2, by decide, ?_⟩
        walk_at "rd"
        exact k
end



/-! ### the text of a component -/
def headWs (c : Cm) : List Str := [("room" : Str), numS c.room, "procedures", numS c.procs.length]
theorem cm_ws (c : Cm) : c.ws = headWs c ++ (c.bufs.map bufWs).flatten ++ (c.procs.map procWs).flatten := by
  unfold Cm.ws headWs
  simp
theorem flat_step {α : Type} {f : α → List Str} {l : List α} {i : Nat} {x : α} (h : l[i]? = some x) : ((l.take (i + 1)).map f).flatten = ((l.take i).map f).flatten ++ f x := by
  rw [List.take_add_one, h, Option.toList_some, List.map_append, List.flatten_append]
  simp
theorem flat_le {α : Type} {f : α → List Str} {l : List α} {i : Nat} : ((l.take i).map f).flatten.length ≤ (l.map f).flatten.length := by
  have := congrArg List.length (congrArg List.flatten (congrArg (List.map f) (List.take_append_drop i l)))
  rw [List.map_append, List.flatten_append, List.length_append] at this
  omega
def sp_ctext (C : Cs) : ASp := fun ds M Q _ => ∃ (c : Cm) (e ni : Nat), ds = [.ins C.Component [("room", natD c.room), ("buffers", bufsD c.bufs), ("procedures", procsD c.procs)]] ∧ c.ok 6 e ni ∧ ni ≤ 1000 ∧ c.ws.length ≤ 1000000 ∧ (c.ws.map (·.length)).sum + c.ws.length * (" " : Str).length ≤ 16777216 ∧ Q (.str (Txt.join " " c.ws)) M
section
variable {P : Program} {w : World} {K : PySem.W.Frag} {mg : Str → Option Value} {base : Heap} {C : Cs}
theorem ok_component_text (T : Top K mg) (Z : Txt K mg C) : Cal P w K mg base CX0 30 "component_text" ["component"] (conSp K (sp_ctext C)) := by
  refine def_A T.f_component_text sc_component_text (fun _ _ _ _ _ _ us hl => match us, hl with | [_], _ => rfl) (fun ds M Q E h => ?_) (fun f cdv Ar outer s H E ds M Q EX hr h => ?_)
  · obtain ⟨c, e, ni, rfl, _⟩ := h
    rfl
  · obtain ⟨c, e, ni, rfl, ok, hni, hw, hj, k⟩ := h
    refine ⟨_, (as_cons (as_set (ps_set (i := 1) sc_component_text.nd rfl (by first | exact Or.inl rfl | exact Or.inr rfl) (a_lstO (aa_cons a_str (aa_cons (a_callTy o_str (by rfl) T.b_str (by decide +kernel) (aa_cons (a_fld (K := K) (a_var (pv 0))) aa_nil)) (aa_cons a_str (aa_cons (a_callTy o_str (by rfl) T.b_str (by decide +kernel) (aa_cons (a_callB (o_len (K := K)) (by rfl) T.b_len PySem.boot_len (aa_cons (a_fld (K := K) (a_var (pv 0))) aa_nil)) aa_nil)) aa_nil)))))))
  (as_cons (as_for (ps_for PassesOwn.never rfl (ai_of (g_it (K := K) (a_fld (K := K) (a_var (pv 0))))) (ag_name (pg_name (i := 2) sc_component_text.nd rfl (by first | exact Or.inl rfl | exact Or.inr rfl)))
  (as_cons (as_drop (ps_expr (a_bm o_ext (pe_bm PySem.F.plainAttrs_list PySem.F.slot_list_extend PySem.F.type_list_extend mt_extend (a_var (pv 1)) (aa_cons (a_lst (aa_cons a_str (aa_cons (a_callTy o_str (by rfl) T.b_str (by decide +kernel) (aa_cons (a_callB (o_len (K := K)) (by rfl) T.b_len PySem.boot_len (aa_cons (a_var (pv 2)) aa_nil)) aa_nil)) aa_nil))) aa_nil)))))
    (as_one (as_drop (ps_expr (a_bm o_ext (pe_bm PySem.F.plainAttrs_list PySem.F.slot_list_extend PySem.F.type_list_extend mt_extend (a_var (pv 1)) (aa_cons (a_lc finD_ok (pe_lc (own := [("word", 3)]) rfl sc_component_text.nd (ai_of (g_it (K := K) (a_var (pv 2)))) (blkOk_by (own := [("word", 3)]) (N := ["component", "words", "buffer", "word", "local_count", "block"]) (sc := defScope s_component_text) (by decide +kernel)) (fun _ _ _ _ _ => (ag_name (pg_name (i := 3) sc_component_text.nd rfl (Or.inl rfl)))) (fun _ _ _ _ _ => ats_nil) (fun _ _ _ _ _ => (a_callTy o_str (by rfl) T.b_str (by decide +kernel) (aa_cons (a_var (pv 3)) aa_nil))))) aa_nil)))))))))
  (as_cons (as_for (ps_for PassesOwn.never rfl (ai_of (g_it (K := K) (a_fld (K := K) (a_var (pv 0))))) (ag_tup (K := K) (n := 2) rfl (ags_cons (ag_name (pg_name (i := 4) sc_component_text.nd rfl (by first | exact Or.inl rfl | exact Or.inr rfl))) (ags_cons (ag_name (pg_name (i := 5) sc_component_text.nd rfl (by first | exact Or.inl rfl | exact Or.inr rfl))) ags_nil)))
  (as_cons (as_drop (ps_expr (a_bm o_ext (pe_bm PySem.F.plainAttrs_list PySem.F.slot_list_extend PySem.F.type_list_extend mt_extend (a_var (pv 1)) (aa_cons (a_lst (aa_cons a_str (aa_cons (a_callTy o_str (by rfl) T.b_str (by decide +kernel) (aa_cons (a_var (pv 4)) aa_nil)) aa_nil))) aa_nil)))))
    (as_cons (as_drop (ps_expr (a_bm o_ext (pe_bm PySem.F.plainAttrs_list PySem.F.slot_list_extend PySem.F.type_list_extend mt_extend (a_var (pv 1)) (aa_cons (a_call (g_call (ok_block_words_of T 7 (ok_statement_words T 7)) (hr.mono (by decide)) (by rfl) pass0 (aa_cons (a_var (pv 5)) aa_nil))) aa_nil)))))
    (as_one (as_drop (ps_expr (a_bm o_app (pe_bm PySem.F.plainAttrs_list PySem.F.slot_list_append PySem.F.type_list_append mt_append (a_var (pv 1)) (aa_cons a_str aa_nil))))))))))
  (as_one (as_ret (ps_ret (a_bm o_join (pe_bm PySem.F.plainAttrs_str PySem.F.slot_str_join PySem.F.type_str_join (g_join (K := K)) a_str (aa_cons (a_var (pv 1)) aa_nil))))))))), ?_⟩
    have hc := Z.k_Component.cl
    have n1 := Z.a_Component_room
    have n2 := Z.a_Component_buffers
    have n3 := Z.a_Component_procedures
    have hrm := ok.room
    have hnp := ok.np
    have hz : (c.procs.map procD).length < sizeLine := by rw [List.length_map, line_val]; omega
    walk_at "rd"
    rw [cm_ws, List.length_append, List.length_append] at hw
    have hh : (headWs c).length = 4 := rfl
    rw [List.length_map]
    walk_at "rd"
    intro W
    walk_at "rd"
    refine f_map c.bufs (fun i xs M' => ∃ v2, xs = [some (.ins C.Component [("room", natD c.room), ("buffers", bufsD c.bufs), ("procedures", procsD c.procs)]), some (.r W), v2, none, none, none] ∧ M' = (W, .lst ((headWs c ++ ((c.bufs.take i).map bufWs).flatten).map D.str)) :: M) ⟨none, rfl, by simp [headWs, numS]⟩ ?_ ?_
    · rintro i b xs M' hb ⟨v2, rfl, rfl⟩
      have h1 := flat_step (f := bufWs) hb
      have h2 := flat_le (f := bufWs) (l := c.bufs) (i := i + 1)
      have hbl : (bufWs b).length = 2 + b.length := by unfold bufWs; rw [List.length_cons, List.length_cons, List.length_map]; omega
      have hbk := (ok.buf b (List.mem_of_getElem? hb))
      have hb0 : (b.map natD).length ≤ sizeLine := by rw [List.length_map, line_val]; omega
      rw [h1, List.length_append, hbl] at h2
      walk_at "rd"
      rw [List.length_map]
      walk_at "rd"
      refine aExt.mk .hd (.inl rfl) (by rw [List.length_map, List.length_append, line_val]; show _ + 2 ≤ _; omega) ?_
      walk_at "rd"
      intro A
      refine c_map b (fun n => D.str (numS n)) (by rw [line_val]; omega) ?_ (fin_d ?_)
      · intro j n acc hn ha
        have hnw := hbk.2 n (List.mem_of_getElem? hn)
        walk_at "rd"
        exact .put (by rw [line_val]; omega) ha hn rfl
      walk_at "rd"
      refine aExt.mk .hd (.inl rfl) (by rw [List.length_append, List.length_map, List.length_map, List.length_append, line_val]; show _ + 2 + _ ≤ _; omega) ?_
      walk_at "rd"
      refine ⟨_, rfl, ?_⟩
      rw [h1]
      simp [bufWs, numS, Function.comp_def]
    · rintro xs M' ⟨v2, rfl, rfl⟩
      rw [List.take_length]
      walk_at "rd"
      refine f_map c.procs (fun i xs M' => ∃ v4 v5, xs = [some (.ins C.Component [("room", natD c.room), ("buffers", bufsD c.bufs), ("procedures", procsD c.procs)]), some (.r W), v2, none, v4, v5] ∧ M' = (W, .lst ((headWs c ++ (c.bufs.map bufWs).flatten ++ ((c.procs.take i).map procWs).flatten).map D.str)) :: M) ⟨none, none, rfl, by simp⟩ ?_ ?_
      · rintro i p xs M' hp ⟨v4, v5, rfl, rfl⟩
        have h1 := flat_step (f := procWs) hp
        have h2 := flat_le (f := procWs) (l := c.procs) (i := i + 1)
        have hpl : (procWs p).length = 3 + (stsWs p.2).length := by unfold procWs; rw [List.length_cons, List.length_cons, List.length_append]; show _ + 1 + 1 + 1 = _; omega
        obtain ⟨hq1, hq2, hq3⟩ := ok.proc p (List.mem_of_getElem? hp)
        rw [h1, List.length_append, hpl] at h2
        unfold procD
        walk_at "rd"
        refine aExt.mk .hd (.inl rfl) (by rw [List.length_map, List.length_append, List.length_append, line_val]; show _ + 2 ≤ _; omega) ?_
        walk_at "rd"
        refine ⟨p.2, _, 6, rfl, by decide, hq3, hq2, ⟨by show p.1 ≤ _; omega, by have := ok.nb; show c.bufs.length ≤ _; omega, by show c.procs.length ≤ _; omega, hni⟩, by omega, ?_⟩
        walk_at "rd"
        refine aExt.mk .hd (.inl rfl) (by simp only [List.length_append, List.length_map, List.length_cons, List.length_nil, line_val]; omega) ?_
        have hz2 : ((headWs c ++ (c.bufs.map bufWs).flatten ++ ((c.procs.take i).map procWs).flatten).map D.str ++ [D.str "procedure", D.str (Str.ofString (toString (p.1 : Int)))] ++ (stsWs p.2).map D.str).length < sizeLine := by simp only [List.length_append, List.length_map, List.length_cons, List.length_nil, line_val]; omega
        walk_at "rd"
        refine ⟨_, _, rfl, ?_⟩
        rw [h1]
        simp [procWs, numS]
      · rintro xs M' ⟨v4, v5, rfl, rfl⟩
        rw [List.take_length, ← cm_ws]
        walk_at "rd"
        refine aJoin.mk (.o .hd) hj ?_
        exact .fz (FzV.drop .hd) k
end


/-! ### the words of a component one by one: what is open before each word -/
inductive Kd where | thn | whl | prc | els | emp
deriving DecidableEq
inductive It where
  | word (z : Str) | room | place (c : Str) (n : Nat) | exp (d : Nat) | block (n : Nat) (k : Kd) | head | datum | count | cells | size
deriving DecidableEq
structure Sc where
  (nb np left nl ni : Nat)
deriving DecidableEq
def inN (z : Str) (lo hi : Nat) : Option Nat := match nof z with
  | none => none
  | some n => if lo ≤ n ∧ n ≤ hi then some n else none
def inP (c z : Str) (m : Nat) : Option Nat := match nameOf c z with
  | none => none
  | some n => if n < m then some n else none
def expA (sc : Sc) (z : Str) (d : Nat) : Option (List It) :=
  if 1 < d ∧ z ∈ opsL then some [.exp (d - 1), .exp (d - 1)]
  else if 1 < d ∧ z = "get" ∧ 0 < sc.nb then some [.place "b" sc.nb, .exp (d - 1)]
  else if Txt.startswith z "l" = true then (inP "l" z sc.nl).map fun _ => []
  else (inN z 0 65535).map fun _ => []
def begA (sc : Sc) (n : Nat) (z : Str) : Option (List It) :=
  if z = "set" then some [.place "l" sc.nl, .exp 4]
  else if z = "put" then (if 0 < sc.nb then some [.place "b" sc.nb, .exp 4, .exp 4] else none)
  else if z = "call" then some [.place "l" sc.nl, .place "p" sc.np, .exp 4]
  else if z = "use" then (if 0 < sc.ni then some [.place "l" sc.nl, .place "i" sc.ni, .exp 4] else none)
  else if z = "if" then (if 0 < n then some [.exp 4, .block (n - 1) .thn] else none)
  else if z = "while" then (if 0 < n then some [.exp 4, .block (n - 1) .whl] else none)
  else if z = "return" then some [.exp 4] else none
def Kd.on (k : Kd) : Kd := if k = .emp then .els else k
def blkA (sc : Sc) (n : Nat) (k : Kd) (z : Str) : Option (List It) :=
  if z = "end" then (if k = .emp then none else some [])
  else if z = "else" ∧ k = .thn then some [.block n .emp]
  else (begA sc n z).map fun l => l ++ [.block n k.on]
def headA (sc : Sc) (z : Str) : Option (List It × Sc) :=
  if z = "buffer" ∧ sc.nb < 8 ∧ sc.left = sc.np then some ([.size, .head], { sc with nb := sc.nb + 1 })
  else if z = "procedure" ∧ 0 < sc.left then some ([.cells, .head], { sc with left := sc.left - 1 })
  else none
def nextA (sc : Sc) (z : Str) : It → Option (List It × Sc)
  | .word y => if z = y then some ([], sc) else none
  | .room => (inN z 0 20000).map fun _ => ([], sc)
  | .place c n => (inP c z n).map fun _ => ([], sc)
  | .exp d => (expA sc z d).map fun l => (l, sc)
  | .block n k => (blkA sc n k z).map fun l => (l, sc)
  | .head => headA sc z
  | .datum => (inN z 0 65535).map fun _ => ([], sc)
  | .count => (inN z 1 8).map fun n => ([], { sc with np := n, left := n })
  | .cells => (inN z 1 16).map fun n => ([.block 6 .prc], { sc with nl := n })
  | .size => (inN z 1 1000).map fun n => (List.replicate n .datum, sc)
/-- the index of the first word that doesn't fit -/
def resA : List Str → Nat → List It → Sc → Option Nat
  | [], i, σ, sc => if σ = [.head] ∧ sc.left = 0 then none else some i
  | _ :: _, i, [], _ => some i
  | z :: zs, i, t :: σ, sc => match nextA sc z t with
    | none => some i
    | some (l, sc') => resA zs (i + 1) (l ++ σ) sc'
def resAt (ws : List Str) (i : Nat) (σ : List It) (sc : Sc) : Option Nat := resA (ws.drop i) i σ sc
abbrev startA : List It := [.word "room", .room, .word "procedures", .count, .head]
abbrev scA (ni : Nat) : Sc := ⟨0, 1, 1, 1, ni⟩
def wrongA (ws : List Str) (ni : Nat) : Option Nat := resA ws 0 startA (scA ni)
theorem nx_word {sc : Sc} {z y : Str} : nextA sc z (.word y) = if z = y then some ([], sc) else none := rfl
theorem nx_room {sc : Sc} {z : Str} : nextA sc z .room = (inN z 0 20000).map fun _ => ([], sc) := rfl
theorem nx_place {sc : Sc} {z c : Str} {n : Nat} : nextA sc z (.place c n) = (inP c z n).map fun _ => ([], sc) := rfl
theorem nx_exp {sc : Sc} {z : Str} {d : Nat} : nextA sc z (.exp d) = (expA sc z d).map fun l => (l, sc) := rfl
theorem nx_block {sc : Sc} {z : Str} {n : Nat} {k : Kd} : nextA sc z (.block n k) = (blkA sc n k z).map fun l => (l, sc) := rfl
theorem nx_head {sc : Sc} {z : Str} : nextA sc z .head = headA sc z := rfl
theorem nx_datum {sc : Sc} {z : Str} : nextA sc z .datum = (inN z 0 65535).map fun _ => ([], sc) := rfl
theorem nx_count {sc : Sc} {z : Str} : nextA sc z .count = (inN z 1 8).map fun n => ([], { sc with np := n, left := n }) := rfl
theorem nx_cells {sc : Sc} {z : Str} : nextA sc z .cells = (inN z 1 16).map fun n => ([.block 6 .prc], { sc with nl := n }) := rfl
theorem nx_size {sc : Sc} {z : Str} : nextA sc z .size = (inN z 1 1000).map fun n => (List.replicate n .datum, sc) := rfl
theorem drop_get {ws : List Str} {i : Nat} {z : Str} (h : ws[i]? = some z) : ws.drop i = z :: ws.drop (i + 1) := by
  have hi := (List.getElem?_eq_some_iff.mp h).1
  rw [List.drop_eq_getElem_cons hi]
  have e := (List.getElem?_eq_some_iff.mp h).2
  rw [e]
theorem resAt_step {ws : List Str} {i : Nat} {z : Str} {t : It} {σ : List It} {sc : Sc} (h : ws[i]? = some z) : resAt ws i (t :: σ) sc = match nextA sc z t with
    | none => some i
    | some (l, sc') => resAt ws (i + 1) (l ++ σ) sc' := by
  unfold resAt
  rw [drop_get h, resA]
theorem resAt_go {ws : List Str} {i : Nat} {z : Str} {t : It} {σ l : List It} {sc sc' : Sc} (h : ws[i]? = some z) (e : nextA sc z t = some (l, sc')) : resAt ws i (t :: σ) sc = resAt ws (i + 1) (l ++ σ) sc' := by
  rw [resAt_step h, e]
theorem resAt_bad {ws : List Str} {i : Nat} {z : Str} {t : It} {σ : List It} {sc : Sc} (h : ws[i]? = some z) (e : nextA sc z t = none) : resAt ws i (t :: σ) sc = some i := by
  rw [resAt_step h, e]
theorem resAt_stop {ws : List Str} {i : Nat} {t : It} {σ : List It} {sc : Sc} (h : ws[i]? = none) (ht : t = .head → 0 < sc.left) : resAt ws i (t :: σ) sc = some i := by
  unfold resAt
  rw [List.drop_eq_nil_of_le (List.getElem?_eq_none_iff.mp h), resA, if_neg]
  rintro ⟨h1, h2⟩
  injection h1 with h3 h4
  have := ht h3
  omega
/-- the reader's counts are the scope's -/
structure FitA (s : Rst) (sc : Sc) : Prop where
  nb : sc.nb = s.bc
  np : sc.np = s.pc
  nl : sc.nl = s.lc
  ni : sc.ni = s.ic
theorem FitA.goes {ws : List Str} {s s' : Rst} {sc : Sc} (h : FitA s sc) (g : Rst.goes ws s s') : FitA s' sc := by
  rw [g.1]
  exact ⟨h.nb, h.np, h.nl, h.ni⟩
theorem FitA.keeps {ws : List Str} {s s' : Rst} {sc : Sc} (h : FitA s sc) (g : Rst.keeps ws s s') : FitA s' sc := by
  rw [g.1]
  exact ⟨h.nb, h.np, h.nl, h.ni⟩
theorem FitA.step {s : Rst} {sc : Sc} (h : FitA s sc) : FitA s.step sc := ⟨h.nb, h.np, h.nl, h.ni⟩
/-- a part's reader and what is open: they fail at one word, or go on from one place; the words passed are those of the data -/
def RelA {α : Type} (ws : List Str) (s : Rst) (σ σ' : List It) (sc : Sc) (wd : α → List Str) (r : Nat ⊕ (α × Rst)) : Prop := match r with
  | .inl i => resAt ws s.at_ σ sc = some i
  | .inr (a, s') => resAt ws s.at_ σ sc = resAt ws s'.at_ σ' sc ∧ ws.drop s.at_ = wd a ++ ws.drop s'.at_
theorem nameW_eq {ws : List Str} {c : Str} {m : Nat} {s : Rst} : nameW ws c m s = match ws[s.at_]? with
    | none => .inl s.at_
    | some z => match inP c z m with
      | none => .inl s.at_
      | some n => .inr (n, s.step) := by
  unfold nameW inP
  cases ws[s.at_]? with
  | none => rfl
  | some z =>
    dsimp only
    cases nameOf c z with
    | none => rfl
    | some n =>
      dsimp only
      split <;> rfl
theorem numW_eq {ws : List Str} {lo hi : Nat} {s : Rst} : numW ws lo hi s = match ws[s.at_]? with
    | none => .inl s.at_
    | some z => match inN z lo hi with
      | none => .inl s.at_
      | some n => .inr (n, s.step) := by
  unfold numW numW.numAt' inN
  cases ws[s.at_]? with
  | none => rfl
  | some z =>
    dsimp only
    cases nof z with
    | none => rfl
    | some n =>
      dsimp only
      split <;> rfl
theorem nof_numS {z : Str} {v : Nat} (h : nof z = some v) : z = numS v := by
  unfold nof at h
  split at h
  · rename_i q
    obtain ⟨h1, h2, h3⟩ := q
    cases h
    exact ext_tl (by rw [show numS ((NumText.digitsVal (tl z) : Nat) : Int) = Str.ofString (toString ((NumText.digitsVal (tl z) : Nat) : Int)) from rfl, tl_num, h2])
  · cases h
theorem starts_tl {z c : Str} (h : Txt.startswith z c = true) : ∃ r, tl z = tl c ++ r := by
  unfold PySem.Txt.startswith at h
  rw [StrLaws.subAt_eq, List.drop_zero] at h
  rw [Bool.and_eq_true] at h
  have h2 := eq_of_beq h.2
  refine ⟨(tl z).drop c.length, ?_⟩
  conv => lhs; rw [← List.take_append_drop c.length (tl z)]
  rw [show List.take c.length (tl z) = tl c from h2]
theorem cut_one {z : Str} : tl (cutS z (some 1) none) = (tl z).drop 1 := by
  unfold cutS
  rw [tl_mk]
  have e0 : HT.sIx z.length 0 (some 1) = min 1 z.length := HT.sIx_nat _ _ 1
  have e1 : HT.sIx z.length z.length none = z.length := rfl
  have lz : z.cps.toList.length = z.length := Array.length_toList
  rw [e0, e1]
  show _ = z.cps.toList.drop 1
  by_cases hz : z.length = 0
  · have : z.cps.toList = [] := List.eq_nil_of_length_eq_zero (by omega)
    rw [this]
    simp
  · rw [show min 1 z.length = 1 by omega]
    exact List.take_of_length_le (by rw [List.length_drop]; omega)
/-- one sign -/
def One (c : Str) : Prop := ∃ k, tl c = [k]
theorem nameOf_letS {c z : Str} {n : Nat} (hc : One c) (h : nameOf c z = some n) : z = letS c n := by
  unfold nameOf at h
  split at h
  · rename_i hs
    obtain ⟨r, hr⟩ := starts_tl hs
    obtain ⟨k, hk⟩ := hc
    have hn := nof_numS h
    have hd : tl (cutS z (some 1) none) = r := by rw [cut_one, hr, hk]; rfl
    rw [hn] at hd
    refine ext_tl ?_
    rw [hr, tl_append, tl_append, ← hd]
    rfl
  · cases h
theorem one_l : One "l" := ⟨108, by decide +kernel⟩
theorem one_b : One "b" := ⟨98, by decide +kernel⟩
theorem one_p : One "p" := ⟨112, by decide +kernel⟩
theorem one_i : One "i" := ⟨105, by decide +kernel⟩
theorem inP_some {c z : Str} {m n : Nat} (hc : One c) (h : inP c z m = some n) : z = letS c n ∧ n < m := by
  unfold inP at h
  split at h
  · cases h
  · rename_i k hk
    split at h
    · rename_i hm
      cases h
      exact ⟨nameOf_letS hc hk, hm⟩
    · cases h
theorem inN_some {z : Str} {lo hi n : Nat} (h : inN z lo hi = some n) : z = numS n ∧ lo ≤ n ∧ n ≤ hi := by
  unfold inN at h
  split at h
  · cases h
  · rename_i k hk
    split at h
    · rename_i hm
      cases h
      exact ⟨nof_numS hk, hm⟩
    · cases h
theorem nameW_rel {ws : List Str} {c : Str} {m : Nat} {s : Rst} {σ : List It} {sc : Sc} (hc : One c) : RelA ws s (.place c m :: σ) σ sc (fun n => [letS c n]) (nameW ws c m s) := by
  rw [nameW_eq]
  unfold RelA
  cases e : ws[s.at_]? with
  | none => exact resAt_stop e nofun
  | some z =>
    dsimp only
    cases en : inP c z m with
    | none => exact resAt_bad e (by rw [nx_place, en]; rfl)
    | some n => exact ⟨resAt_go (l := []) (sc' := sc) e (by rw [nx_place, en]; rfl), by rw [drop_get e, (inP_some hc en).1]; rfl⟩
theorem numW_rel {ws : List Str} {lo hi : Nat} {s : Rst} {t : It} {σ : List It} {sc : Sc} {l : Nat → List It} {g : Nat → Sc} (ht : t ≠ .head) (hn : ∀ z, nextA sc z t = (inN z lo hi).map fun n => (l n, g n)) :
    match numW ws lo hi s with
    | .inl i => resAt ws s.at_ (t :: σ) sc = some i
    | .inr (n, s') => resAt ws s.at_ (t :: σ) sc = resAt ws s'.at_ (l n ++ σ) (g n) ∧ ws.drop s.at_ = numS n :: ws.drop s'.at_ := by
  rw [numW_eq]
  cases e : ws[s.at_]? with
  | none => exact resAt_stop e (fun q => absurd q ht)
  | some z =>
    dsimp only
    cases en : inN z lo hi with
    | none => exact resAt_bad e (by rw [hn, en]; rfl)
    | some n => exact ⟨resAt_go (l := l n) (sc' := g n) e (by rw [hn, en]; rfl), by rw [drop_get e, (inN_some en).1]; rfl⟩
theorem exactW_rel {ws : List Str} {y : Str} {s : Rst} {σ : List It} {sc : Sc} : RelA ws s (.word y :: σ) σ sc (fun _ => [y]) (exactW ws y s) := by
  unfold exactW RelA
  cases e : ws[s.at_]? with
  | none => rw [if_neg nofun]; exact resAt_stop e nofun
  | some z =>
    by_cases h : z = y
    · rw [if_pos (by rw [h])]
      exact ⟨resAt_go (l := []) (sc' := sc) e (by rw [nx_word, if_pos h]), by rw [drop_get e, h]; rfl⟩
    · rw [if_neg fun q => h (Option.some.inj q)]
      exact resAt_bad e (by rw [nx_word, if_neg h])
theorem expW_rel {ws : List Str} : ∀ (d : Nat) (s : Rst) (σ : List It) (sc : Sc), 0 < d → FitA s sc → RelA ws s (.exp d :: σ) σ sc Ex.ws (expW ws d s)
  | 0, _, _, _, h, _ => absurd h (Nat.lt_irrefl 0)
  | d + 1, s, σ, sc, _, hf => by
    rw [expW]
    cases e : ws[s.at_]? with
    | none => exact resAt_stop e nofun
    | some z =>
      dsimp only
      have hstep : ∀ l, expA sc z (d + 1) = some l → resAt ws s.at_ (.exp (d + 1) :: σ) sc = resAt ws (s.at_ + 1) (l ++ σ) sc := fun l h => resAt_go e (by rw [nx_exp, h]; rfl)
      have hbad : expA sc z (d + 1) = none → resAt ws s.at_ (.exp (d + 1) :: σ) sc = some s.at_ := fun h => resAt_bad e (by rw [nx_exp, h]; rfl)
      by_cases c1 : 0 < d ∧ z ∈ opsL
      · rw [if_pos c1]
        have hA := hstep _ (by unfold expA; rw [if_pos ⟨by omega, c1.2⟩])
        rw [Nat.add_sub_cancel] at hA
        have r1 := expW_rel (ws := ws) d s.step (.exp d :: σ) sc c1.1 hf.step
        cases h1 : expW ws d s.step with
        | inl i => rw [h1] at r1; exact hA.trans r1
        | inr p =>
          obtain ⟨a, s1⟩ := p
          rw [h1] at r1
          have r2 := expW_rel (ws := ws) d s1 σ sc c1.1 (hf.step.goes (expW_goes _ h1))
          rw [bindR_go]
          cases h2 : expW ws d s1 with
          | inl i => rw [h2] at r2; exact hA.trans (r1.1.trans r2)
          | inr p =>
            obtain ⟨b, s2⟩ := p
            rw [h2] at r2
            refine ⟨hA.trans (r1.1.trans r2.1), ?_⟩
            rw [drop_get e, show ws.drop (s.at_ + 1) = _ from r1.2, r2.2, Ex.ws]
            simp
      · rw [if_neg c1]
        have c1' : ¬ (1 < d + 1 ∧ z ∈ opsL) := fun q => c1 ⟨by omega, q.2⟩
        by_cases c2 : 0 < d ∧ z = "get" ∧ 0 < s.bc
        · rw [if_pos c2]
          have hA := hstep _ (by unfold expA; rw [if_neg c1', if_pos ⟨by omega, c2.2.1, by rw [hf.nb]; exact c2.2.2⟩])
          rw [Nat.add_sub_cancel, hf.nb] at hA
          have r1 := nameW_rel (ws := ws) (m := s.bc) (s := s.step) (σ := .exp d :: σ) (sc := sc) one_b
          cases h1 : nameW ws "b" s.bc s.step with
          | inl i => rw [h1] at r1; exact hA.trans r1
          | inr p =>
            obtain ⟨a, s1⟩ := p
            rw [h1] at r1
            have r2 := expW_rel (ws := ws) d s1 σ sc c2.1 (hf.step.goes (nameW_goes h1))
            rw [bindR_go]
            cases h2 : expW ws d s1 with
            | inl i => rw [h2] at r2; exact hA.trans (r1.1.trans r2)
            | inr p =>
              obtain ⟨b, s2⟩ := p
              rw [h2] at r2
              refine ⟨hA.trans (r1.1.trans r2.1), ?_⟩
              rw [drop_get e, show ws.drop (s.at_ + 1) = _ from r1.2, r2.2, Ex.ws, c2.2.1]
              simp
        · rw [if_neg c2]
          have c2' : ¬ (1 < d + 1 ∧ z = "get" ∧ 0 < sc.nb) := fun q => c2 ⟨by omega, q.2.1, by rw [← hf.nb]; exact q.2.2⟩
          by_cases c3 : Txt.startswith z "l" = true
          · rw [if_pos c3, nameW_eq, e]
            dsimp only
            have hx : expA sc z (d + 1) = (inP "l" z sc.nl).map fun _ => [] := by unfold expA; rw [if_neg c1', if_neg c2', if_pos c3]
            rw [hf.nl] at hx
            cases en : inP "l" z s.lc with
            | none => exact hbad (by rw [hx, en]; rfl)
            | some n =>
              refine ⟨hstep [] (by rw [hx, en]; rfl), ?_⟩
              rw [drop_get e, (inP_some one_l en).1]
              rfl
          · rw [if_neg c3, numW_eq, e]
            dsimp only
            have hx : expA sc z (d + 1) = (inN z 0 65535).map fun _ => [] := by unfold expA; rw [if_neg c1', if_neg c2', if_neg c3]
            cases en : inN z 0 65535 with
            | none => exact hbad (by rw [hx, en]; rfl)
            | some n =>
              refine ⟨hstep [] (by rw [hx, en]; rfl), ?_⟩
              rw [drop_get e, (inN_some en).1]
              rfl

/-! ### statements and blocks, and what is open -/
theorem RelA.bind {α β : Type} {ws : List Str} {s : Rst} {σ0 σ1 σ2 : List It} {sc : Sc} {w1 : α → List Str} {w2 : α → β → List Str} {wd : β → List Str} {x : Nat ⊕ (α × Rst)} {f : α → Rst → Nat ⊕ (β × Rst)}
    (r1 : RelA ws s σ0 σ1 sc w1 x) (r2 : ∀ a s', x = .inr (a, s') → RelA ws s' σ1 σ2 sc (w2 a) (f a s')) (hw : ∀ a s' b s'', x = .inr (a, s') → f a s' = .inr (b, s'') → wd b = w1 a ++ w2 a b) : RelA ws s σ0 σ2 sc wd (bindR x f) := by
  cases x with
  | inl i => exact r1
  | inr p =>
    obtain ⟨a, s'⟩ := p
    have r3 := r2 a s' rfl
    rw [bindR_go]
    cases e : f a s' with
    | inl i => rw [e] at r3; exact r1.1.trans r3
    | inr p =>
      obtain ⟨b, s''⟩ := p
      rw [e] at r3
      exact ⟨r1.1.trans r3.1, by rw [show ws.drop s.at_ = _ from r1.2, show ws.drop s'.at_ = _ from r3.2, hw a s' b s'' rfl e, List.append_assoc]⟩
theorem RelA.ret {α : Type} {ws : List Str} {s : Rst} {σ : List It} {sc : Sc} {wd : α → List Str} {b : α} (h : wd b = []) : RelA ws s σ σ sc wd (.inr (b, s)) := ⟨rfl, by rw [h]; rfl⟩
theorem callW_rel {ws : List Str} {c : Str} {m : Nat} {s : Rst} {σ : List It} {sc : Sc} (hc : One c) (hf : FitA s sc) : RelA ws s (.place "l" sc.nl :: .place c m :: .exp 4 :: σ) σ sc (fun p => letS "l" p.1 :: letS c p.2.1 :: p.2.2.ws) (callW ws c m s) := by
  unfold callW
  rw [hf.nl]
  refine RelA.bind (w2 := fun l p => letS c p.2.1 :: p.2.2.ws) (nameW_rel one_l) (fun l s1 h1 => ?_) ?_
  · have f1 := hf.goes (nameW_goes h1)
    refine RelA.bind (w2 := fun n p => p.2.2.ws) (nameW_rel hc) (fun n s2 h2 => ?_) ?_
    · have f2 := f1.goes (nameW_goes h2)
      refine RelA.bind (w2 := fun e p => []) (expW_rel 4 s2 σ sc (by decide) f2) (fun e s3 h3 => RelA.ret rfl) ?_
      rintro e s3 b s4 h3 h4
      cases h4
      exact (List.append_nil _).symm
    · rintro n s2 b s4 h2 h4
      obtain ⟨e, s3, h5, h6⟩ := bindR_inr h4
      cases h6
      rfl
  · rintro l s1 b s4 h2 h4
    obtain ⟨n, s2, h5, h6⟩ := bindR_inr h4
    obtain ⟨e, s3, h7, h8⟩ := bindR_inr h6
    cases h8
    rfl
theorem begA_fits {s : Rst} {sc : Sc} (hf : FitA s sc) (n : Nat) (z : Str) : (begA sc n z).isSome = fitsW n s z := by
  unfold begA fitsW
  rw [hf.nb, hf.ni]
  by_cases h1 : z = "set"
  · subst h1; rfl
  rw [if_neg h1]
  by_cases h2 : z = "put"
  · rw [if_pos h2, if_pos h2]
    by_cases h : 0 < s.bc
    · rw [if_pos h, decide_eq_true h]; rfl
    · rw [if_neg h, decide_eq_false h]; rfl
  rw [if_neg h2, if_neg h2]
  by_cases h3 : z = "call"
  · subst h3; rfl
  rw [if_neg h3]
  by_cases h4 : z = "use"
  · rw [if_pos h4, if_pos h4]
    by_cases h : 0 < s.ic
    · rw [if_pos h, decide_eq_true h]; rfl
    · rw [if_neg h, decide_eq_false h]; rfl
  rw [if_neg h4, if_neg h4]
  by_cases h5 : z = "if"
  · have hm : z ∈ (["if", "while"] : List Str) := by rw [h5]; decide +kernel
    rw [if_pos h5, if_pos hm]
    by_cases h : 0 < n
    · rw [if_pos h, decide_eq_true h]; rfl
    · rw [if_neg h, decide_eq_false h]; rfl
  rw [if_neg h5]
  by_cases h6 : z = "while"
  · have hm : z ∈ (["if", "while"] : List Str) := by rw [h6]; decide +kernel
    rw [if_pos h6, if_pos hm]
    by_cases h : 0 < n
    · rw [if_pos h, decide_eq_true h]; rfl
    · rw [if_neg h, decide_eq_false h]; rfl
  have hm : ¬ z ∈ (["if", "while"] : List Str) := by simp [h5, h6]
  rw [if_neg h6, if_neg hm]
  by_cases h7 : z = "return"
  · rw [if_pos h7, h7]; rfl
  · rw [if_neg h7, decide_eq_false (by simp [h1, h3, h7])]; rfl
theorem fits_no {s : Rst} {n : Nat} {z : Str} (h : fitsW n s z = true) : z ≠ "end" ∧ z ≠ "else" := by
  constructor
  · rintro rfl
    unfold fitsW at h
    rw [if_neg (by decide +kernel), if_neg (by decide +kernel), if_neg (by decide +kernel)] at h
    exact absurd h (by decide +kernel)
  · rintro rfl
    unfold fitsW at h
    rw [if_neg (by decide +kernel), if_neg (by decide +kernel), if_neg (by decide +kernel)] at h
    exact absurd h (by decide +kernel)
theorem blkA_bad {s : Rst} {sc : Sc} {n : Nat} {k : Kd} {z : Str} (hf : FitA s sc) (h : fitsW n s z = false) (h1 : z = "end" → k = .emp) (h2 : ¬ (z = "else" ∧ k = .thn)) : blkA sc n k z = none := by
  unfold blkA
  by_cases e : z = "end"
  · rw [if_pos e, if_pos (h1 e)]
  · rw [if_neg e, if_neg h2]
    have := begA_fits hf n z
    rw [h] at this
    cases q : begA sc n z with
    | none => rfl
    | some l => rw [q] at this; cases this
theorem end_rel {ws : List Str} {n : Nat} {k : Kd} {s : Rst} {σ : List It} {sc : Sc} {z : Str} (hf : FitA s sc) (e : ws[s.at_]? = some z) (h : fitsW n s z = false) (h1 : k ≠ .emp) (h2 : ¬ (z = "else" ∧ k = .thn)) :
    RelA ws s (.block n k :: σ) σ sc (fun _ => [("end" : Str)]) (exactW ws "end" s) := by
  unfold exactW
  rw [e]
  by_cases q : z = "end"
  · rw [if_pos (by rw [q])]
    refine ⟨resAt_go (l := []) (sc' := sc) e ?_, by rw [drop_get e, q]; rfl⟩
    rw [nx_block]
    unfold blkA
    rw [if_pos q, if_neg h1]
    rfl
  · rw [if_neg fun y => q (Option.some.inj y)]
    refine resAt_bad e ?_
    rw [nx_block, blkA_bad hf h (fun y => absurd y q) h2]
    rfl
/-- a block's reader -/
def BlkRel (ws : List Str) (n : Nat) (blk : Rst → Nat ⊕ (List St × Rst)) : Prop := ∀ (s : Rst) (σ : List It) (k : Kd) (sc : Sc), FitA s sc → s.at_ ≤ ws.length → match blk s with
  | .inl i => resAt ws s.at_ (.block n k :: σ) sc = some i
  | .inr (a, s') => resAt ws s.at_ (.block n k :: σ) sc = resAt ws s'.at_ (.block n (if a = [] then k else k.on) :: σ) sc ∧ ws.drop s.at_ = stsWs a ++ ws.drop s'.at_ ∧ ∃ z, ws[s'.at_]? = some z ∧ fitsW n s' z = false
theorem Kd.on_ne {k : Kd} : k.on ≠ .emp := by cases k <;> decide
theorem Kd.on_on {k : Kd} : k.on.on = k.on := by cases k <;> rfl
theorem whW_rel {ws : List Str} {n : Nat} {blk : Rst → Nat ⊕ (List St × Rst)} (hk : Keeps ws blk) (hb : BlkRel ws n blk) {s : Rst} {σ : List It} {sc : Sc} (hf : FitA s sc) :
    RelA ws s (.exp 4 :: .block n .whl :: σ) σ sc (fun x => x.ws.tail) (whW ws blk s) := by
  unfold whW
  have r1 := expW_rel (ws := ws) 4 s (.block n .whl :: σ) sc (by decide) hf
  cases h1 : expW ws 4 s with
  | inl i => rw [h1] at r1; exact r1
  | inr p =>
    obtain ⟨t, s1⟩ := p
    rw [h1] at r1
    have g1 := expW_goes _ h1
    have f1 := hf.goes g1
    rw [bindR_go]
    have r2 := hb s1 σ .whl sc f1 g1.2.2
    cases h2 : blk s1 with
    | inl i => rw [h2] at r2; exact r1.1.trans r2
    | inr p =>
      obtain ⟨a, s2⟩ := p
      rw [h2] at r2
      obtain ⟨q1, q2, z, q3, q4⟩ := r2
      have f2 := f1.keeps (hk _ _ _ h2)
      rw [bindR_go]
      have hkd : (if a = [] then Kd.whl else Kd.whl.on) = .whl := by split <;> rfl
      rw [hkd] at q1
      have r3 := end_rel (σ := σ) (k := .whl) f2 q3 q4 (by decide) (fun q => by cases q.2)
      cases h3 : exactW ws "end" s2 with
      | inl i => rw [h3] at r3; exact r1.1.trans (q1.trans r3)
      | inr p =>
        obtain ⟨u, s3⟩ := p
        rw [h3] at r3
        refine ⟨r1.1.trans (q1.trans r3.1), ?_⟩
        show _ = (St.wh t a).ws.tail ++ _
        rw [show ws.drop s.at_ = _ from r1.2, q2, r3.2, St.ws, List.tail_cons]
        simp
theorem ifW_rel {ws : List Str} {n : Nat} {blk : Rst → Nat ⊕ (List St × Rst)} (hk : Keeps ws blk) (hb : BlkRel ws n blk) {s : Rst} {σ : List It} {sc : Sc} (hf : FitA s sc) :
    RelA ws s (.exp 4 :: .block n .thn :: σ) σ sc (fun x => x.ws.tail) (ifW ws blk s) := by
  unfold ifW
  have r1 := expW_rel (ws := ws) 4 s (.block n .thn :: σ) sc (by decide) hf
  cases h1 : expW ws 4 s with
  | inl i => rw [h1] at r1; exact r1
  | inr p =>
    obtain ⟨t, s1⟩ := p
    rw [h1] at r1
    have g1 := expW_goes _ h1
    have f1 := hf.goes g1
    rw [bindR_go]
    have r2 := hb s1 σ .thn sc f1 g1.2.2
    cases h2 : blk s1 with
    | inl i => rw [h2] at r2; exact r1.1.trans r2
    | inr p =>
      obtain ⟨a, s2⟩ := p
      rw [h2] at r2
      obtain ⟨q1, q2, z, q3, q4⟩ := r2
      have f2 := f1.keeps (hk _ _ _ h2)
      rw [bindR_go]
      have hkd : (if a = [] then Kd.thn else Kd.thn.on) = .thn := by split <;> rfl
      rw [hkd] at q1
      unfold elseW
      rw [q3]
      dsimp only
      by_cases hz : z = "else"
      · rw [if_pos hz]
        have e1 : resAt ws s2.at_ (.block n .thn :: σ) sc = resAt ws s2.step.at_ (.block n .emp :: σ) sc := resAt_go (l := [.block n .emp]) q3 (by
          rw [nx_block]
          unfold blkA
          rw [if_neg (by rw [hz]; decide +kernel), if_pos ⟨hz, rfl⟩]
          rfl)
        have hl2 := get_lt q3
        have r3 := hb s2.step σ .emp sc f2.step hl2
        cases h3 : blk s2.step with
        | inl i => rw [h3] at r3; exact r1.1.trans (q1.trans (e1.trans r3))
        | inr p =>
          obtain ⟨b, s3⟩ := p
          rw [h3] at r3
          obtain ⟨p1, p2, y, p3, p4⟩ := r3
          have f3 := f2.step.keeps (hk _ _ _ h3)
          rw [bindR_go]
          by_cases hbn : b = []
          · rw [if_pos hbn]
            rw [if_pos hbn] at p1
            refine r1.1.trans (q1.trans (e1.trans (p1.trans (resAt_bad p3 ?_))))
            rw [nx_block, blkA_bad f3 p4 (fun _ => rfl) (fun q => by cases q.2)]
            rfl
          · rw [if_neg hbn]
            rw [if_neg hbn] at p1
            have r4 := end_rel (σ := σ) (k := Kd.emp.on) f3 p3 p4 (by decide) (fun q => by cases q.2)
            cases h4 : exactW ws "end" s3 with
            | inl i => rw [h4] at r4; exact r1.1.trans (q1.trans (e1.trans (p1.trans r4)))
            | inr p =>
              obtain ⟨u, s4⟩ := p
              rw [h4] at r4
              refine ⟨r1.1.trans (q1.trans (e1.trans (p1.trans r4.1))), ?_⟩
              have hbe : b.isEmpty = false := by cases b with
                | nil => exact absurd rfl hbn
                | cons _ _ => rfl
              show _ = (St.ifs t a b).ws.tail ++ _
              rw [show ws.drop s.at_ = _ from r1.2, q2, drop_get q3, show ws.drop (s2.at_ + 1) = _ from p2, r4.2, hz, St.ws, List.tail_cons, if_neg (by rw [hbe]; decide)]
              simp
      · rw [if_neg hz]
        have r3 := end_rel (σ := σ) (k := .thn) f2 q3 q4 (by decide) (fun q => hz q.1)
        cases h3 : exactW ws "end" s2 with
        | inl i => rw [h3] at r3; exact r1.1.trans (q1.trans r3)
        | inr p =>
          obtain ⟨u, s3⟩ := p
          rw [h3] at r3
          refine ⟨r1.1.trans (q1.trans r3.1), ?_⟩
          show _ = (St.ifs t a []).ws.tail ++ _
          rw [show ws.drop s.at_ = _ from r1.2, q2, r3.2, St.ws, List.tail_cons]
          simp
theorem stmtW_rel {ws : List Str} {n : Nat} {k : Kd} {s : Rst} {σ : List It} {sc : Sc} {z : Str} (hb : ∀ m, n = m + 1 → BlkRel ws m (nestW ws n)) (hf : FitA s sc) (e : ws[s.at_]? = some z) (hz : fitsW n s z = true) :
    RelA ws s (.block n k :: σ) (.block n k.on :: σ) sc St.ws (stmtW ws (nestW ws n) z s.step) := by
  obtain ⟨ne1, ne2⟩ := fits_no hz
  have hgo : ∀ l, begA sc n z = some l → resAt ws s.at_ (.block n k :: σ) sc = resAt ws s.step.at_ (l ++ .block n k.on :: σ) sc := fun l h => by
    have := resAt_go (σ := σ) (l := l ++ [.block n k.on]) (sc := sc) (sc' := sc) (t := .block n k) e (by
      rw [nx_block]
      unfold blkA
      rw [if_neg ne1, if_neg fun q => ne2 q.1, h]
      rfl)
    rw [this, List.append_assoc]
    rfl
  have hd := drop_get e
  have hs : s.at_ + 1 = s.step.at_ := rfl
  rw [hs] at hd
  -- a statement's words behind its first one
  have fin : ∀ {l : List It} {r : Nat ⊕ (St × Rst)}, begA sc n z = some l → (∀ x s', r = .inr (x, s') → x.ws = z :: x.ws.tail) → RelA ws s.step (l ++ .block n k.on :: σ) (.block n k.on :: σ) sc (fun x => x.ws.tail) r → RelA ws s (.block n k :: σ) (.block n k.on :: σ) sc St.ws r := fun {l r} h1 h2 h3 => by
    cases r with
    | inl i => exact (hgo l h1).trans h3
    | inr p =>
      obtain ⟨x, s'⟩ := p
      refine ⟨(hgo l h1).trans h3.1, ?_⟩
      rw [hd, show ws.drop s.step.at_ = _ from h3.2, h2 x s' rfl]
      rfl
  have ft := hf.step
  unfold stmtW
  by_cases h1 : z = "set"
  · rw [if_pos h1]
    refine fin (l := [.place "l" sc.nl, .exp 4]) (by unfold begA; rw [if_pos h1]) ?_ ?_
    · intro x s' hx
      obtain ⟨l, s1, q1, q2⟩ := bindR_inr hx
      obtain ⟨y, s2, q3, q4⟩ := bindR_inr q2
      cases q4
      rw [h1, St.ws]; rfl
    · rw [hf.nl]
      refine RelA.bind (w2 := fun l x => x.ws.tail.tail) (nameW_rel one_l) (fun l s1 q1 => ?_) ?_
      · have f1 := ft.goes (nameW_goes q1)
        refine RelA.bind (w2 := fun e p => []) (expW_rel 4 s1 _ sc (by decide) f1) (fun e s3 h3 => RelA.ret rfl) ?_
        rintro y s3 b s4 h3 h4
        cases h4
        show (St.set l y).ws.tail.tail = _
        rw [St.ws]
        exact (List.append_nil _).symm
      · rintro l s1 b s4 q1 q2
        obtain ⟨y, s3, h5, h6⟩ := bindR_inr q2
        cases h6
        show (St.set l y).ws.tail = _ :: (St.set l y).ws.tail.tail
        rw [St.ws]
        rfl
  rw [if_neg h1]
  by_cases h2 : z = "put"
  · have hbc : 0 < s.bc := by
      unfold fitsW at hz
      rw [if_pos h2] at hz
      exact of_decide_eq_true hz
    rw [if_pos h2]
    refine fin (l := [.place "b" sc.nb, .exp 4, .exp 4]) (by unfold begA; rw [if_neg h1, if_pos h2, if_pos (by rw [hf.nb]; exact hbc)]) ?_ ?_
    · intro x s' hx
      obtain ⟨l, s1, q1, q2⟩ := bindR_inr hx
      obtain ⟨y, s2, q3, q4⟩ := bindR_inr q2
      obtain ⟨y2, s3, q5, q6⟩ := bindR_inr q4
      cases q6
      rw [h2, St.ws]; rfl
    · rw [hf.nb]
      refine RelA.bind (w2 := fun l x => x.ws.tail.tail) (nameW_rel one_b) (fun l s1 q1 => ?_) ?_
      · have f1 := ft.goes (nameW_goes q1)
        refine RelA.bind (w2 := fun i x => match x with | .put _ _ e => e.ws | _ => []) (expW_rel 4 s1 _ sc (by decide) f1) (fun i s2 q2 => ?_) ?_
        · have f2 := f1.goes (expW_goes _ q2)
          refine RelA.bind (w2 := fun e p => []) (expW_rel 4 s2 _ sc (by decide) f2) (fun e s3 h3 => RelA.ret rfl) ?_
          rintro y s3 b s4 h3 h4
          cases h4
          exact (List.append_nil _).symm
        · rintro i s2 b s4 q2 q3
          obtain ⟨y, s3, h5, h6⟩ := bindR_inr q3
          cases h6
          show (St.put l i y).ws.tail.tail = i.ws ++ y.ws
          rw [St.ws]
          rfl
      · rintro l s1 b s4 q1 q2
        obtain ⟨i, s2, q3, q4⟩ := bindR_inr q2
        obtain ⟨y, s3, h5, h6⟩ := bindR_inr q4
        cases h6
        show (St.put l i y).ws.tail = _ :: (St.put l i y).ws.tail.tail
        rw [St.ws]
        rfl
  rw [if_neg h2]
  by_cases h3 : z = "call"
  · rw [if_pos h3]
    refine fin (l := [.place "l" sc.nl, .place "p" sc.np, .exp 4]) (by unfold begA; rw [if_neg h1, if_neg h2, if_pos h3]) ?_ ?_
    · intro x s' hx
      obtain ⟨p, s1, q1, q2⟩ := bindR_inr hx
      cases q2
      rw [h3, St.ws]; rfl
    · rw [show s.step.pc = sc.np from hf.np.symm]
      refine RelA.bind (w2 := fun e p => []) (callW_rel one_p ft) (fun e s3 h3 => RelA.ret rfl) ?_
      rintro p s1 b s4 q1 q2
      cases q2
      show (St.call p.1 p.2.1 p.2.2).ws.tail = _
      rw [St.ws]
      exact (List.append_nil _).symm
  rw [if_neg h3]
  by_cases h4 : z = "use"
  · have hic : 0 < s.ic := by
      unfold fitsW at hz
      rw [if_neg h2, if_pos h4] at hz
      exact of_decide_eq_true hz
    rw [if_pos h4]
    refine fin (l := [.place "l" sc.nl, .place "i" sc.ni, .exp 4]) (by unfold begA; rw [if_neg h1, if_neg h2, if_neg h3, if_pos h4, if_pos (by rw [hf.ni]; exact hic)]) ?_ ?_
    · intro x s' hx
      obtain ⟨p, s1, q1, q2⟩ := bindR_inr hx
      cases q2
      rw [h4, St.ws]; rfl
    · rw [show s.step.ic = sc.ni from hf.ni.symm]
      refine RelA.bind (w2 := fun e p => []) (callW_rel one_i ft) (fun e s3 h3 => RelA.ret rfl) ?_
      rintro p s1 b s4 q1 q2
      cases q2
      show (St.use p.1 p.2.1 p.2.2).ws.tail = _
      rw [St.ws]
      exact (List.append_nil _).symm
  rw [if_neg h4]
  have deep : (z = "if" ∨ z = "while") → 0 < n := fun q => by
    unfold fitsW at hz
    have hm : z ∈ (["if", "while"] : List Str) := by rcases q with q | q <;> rw [q] <;> decide +kernel
    rw [if_neg h2, if_neg h4, if_pos hm] at hz
    exact of_decide_eq_true hz
  by_cases h5 : z = "if"
  · have hn := deep (.inl h5)
    obtain ⟨m, rfl⟩ : ∃ m, n = m + 1 := ⟨n - 1, by omega⟩
    rw [if_pos h5]
    refine fin (l := [.exp 4, .block m .thn]) (by unfold begA; rw [if_neg h1, if_neg h2, if_neg h3, if_neg h4, if_pos h5, if_pos hn]; rfl) ?_ (ifW_rel (nestW_keeps _) (hb m rfl) ft)
    intro x s' hx
    obtain ⟨t, s1, q1, q2⟩ := bindR_inr hx
    obtain ⟨a, s2, q3, q4⟩ := bindR_inr q2
    unfold elseW at q4
    split at q4
    · cases q4
    · split at q4
      · obtain ⟨b, s3, q5, q6⟩ := bindR_inr q4
        split at q6
        · cases q6
        · obtain ⟨u, s4, q7, q8⟩ := bindR_inr q6
          cases q8
          rw [h5, St.ws]; rfl
      · obtain ⟨u, s4, q7, q8⟩ := bindR_inr q4
        cases q8
        rw [h5, St.ws]; rfl
  rw [if_neg h5]
  by_cases h6 : z = "while"
  · have hn := deep (.inr h6)
    obtain ⟨m, rfl⟩ : ∃ m, n = m + 1 := ⟨n - 1, by omega⟩
    rw [if_pos h6]
    refine fin (l := [.exp 4, .block m .whl]) (by unfold begA; rw [if_neg h1, if_neg h2, if_neg h3, if_neg h4, if_neg h5, if_pos h6, if_pos hn]; rfl) ?_ (whW_rel (nestW_keeps _) (hb m rfl) ft)
    intro x s' hx
    obtain ⟨t, s1, q1, q2⟩ := bindR_inr hx
    obtain ⟨a, s2, q3, q4⟩ := bindR_inr q2
    obtain ⟨u, s4, q7, q8⟩ := bindR_inr q4
    cases q8
    rw [h6, St.ws]; rfl
  rw [if_neg h6]
  have h7 : z = "return" := by
    unfold fitsW at hz
    have hm : ¬ z ∈ (["if", "while"] : List Str) := by simp [h5, h6]
    rw [if_neg h2, if_neg h4, if_neg hm] at hz
    have := of_decide_eq_true hz
    simpa [h1, h3] using this
  refine fin (l := [.exp 4]) (by unfold begA; rw [if_neg h1, if_neg h2, if_neg h3, if_neg h4, if_neg h5, if_neg h6, if_pos h7]) ?_ ?_
  · intro x s' hx
    obtain ⟨y, s1, q1, q2⟩ := bindR_inr hx
    cases q2
    rw [h7, St.ws]; rfl
  · refine RelA.bind (w2 := fun e p => []) (expW_rel 4 _ _ sc (by decide) ft) (fun e s3 h3 => RelA.ret rfl) ?_
    rintro p s1 b s4 q1 q2
    cases q2
    show (St.ret p).ws.tail = _
    rw [St.ws]
    exact (List.append_nil _).symm
theorem loopW_rel {ws : List Str} {n : Nat} (hb : ∀ m, n = m + 1 → BlkRel ws m (nestW ws n)) : ∀ (f : Nat) (acc : List St) (s : Rst) (σ : List It) (k : Kd) (sc : Sc), FitA s sc → s.at_ ≤ ws.length → ws.length < s.at_ + f →
    match loopW ws n (nestW ws n) f acc s with
    | .inl i => resAt ws s.at_ (.block n k :: σ) sc = some i
    | .inr (a, s') => ∃ l, a = acc ++ l ∧ resAt ws s.at_ (.block n k :: σ) sc = resAt ws s'.at_ (.block n (if l = [] then k else k.on) :: σ) sc ∧ ws.drop s.at_ = stsWs l ++ ws.drop s'.at_ ∧ ∃ z, ws[s'.at_]? = some z ∧ fitsW n s' z = false
  | 0, acc, s, σ, k, sc, hf, h1, h2 => absurd h2 (by omega)
  | f + 1, acc, s, σ, k, sc, hf, h1, h2 => by
    rw [loopW]
    cases e : ws[s.at_]? with
    | none => exact resAt_stop e nofun
    | some z =>
      dsimp only
      cases hz : fitsW n s z with
      | false =>
        rw [if_neg Bool.false_ne_true]
        exact ⟨[], (List.append_nil _).symm, by rw [if_pos rfl], by rw [stsWs]; rfl, z, e, hz⟩
      | true =>
        rw [if_pos rfl]
        have r1 := stmtW_rel (k := k) (σ := σ) hb hf e hz
        cases h3 : stmtW ws (nestW ws n) z s.step with
        | inl i => rw [h3] at r1; exact r1
        | inr p =>
          obtain ⟨x, s1⟩ := p
          rw [h3] at r1
          have g := (stmtW_goes (nestW_keeps n) h3).step
          have r2 := loopW_rel hb f (acc ++ [x]) s1 σ k.on sc (hf.goes g) g.2.2 (by have := g.2.1; omega)
          rw [bindR_go]
          cases h4 : loopW ws n (nestW ws n) f (acc ++ [x]) s1 with
          | inl i => rw [h4] at r2; exact r1.1.trans r2
          | inr p =>
            obtain ⟨a, s2⟩ := p
            rw [h4] at r2
            obtain ⟨l, q1, q2, q3, q4⟩ := r2
            refine ⟨x :: l, by rw [q1, List.append_assoc]; rfl, ?_, ?_, q4⟩
            · rw [if_neg nofun, r1.1, q2]
              split <;> simp [Kd.on_on]
            · rw [show ws.drop s.at_ = _ from r1.2, q3, stsWs, List.append_assoc]
theorem blockW_rel {ws : List Str} : ∀ n, BlkRel ws n (blockW ws n)
  | 0 => fun s σ k sc hf h1 => by
    have r := loopW_rel (ws := ws) (n := 0) (fun m h => absurd h (Nat.succ_ne_zero m).symm) (ws.length + 1) [] s σ k sc hf h1 (by omega)
    rw [← blockW_nest] at r
    cases h : blockW ws 0 s with
    | inl i => rw [h] at r; exact r
    | inr p =>
      obtain ⟨a, s'⟩ := p
      rw [h] at r
      obtain ⟨l, q1, q2⟩ := r
      rw [List.nil_append] at q1
      rw [q1]
      exact q2
  | n + 1 => fun s σ k sc hf h1 => by
    have r := loopW_rel (ws := ws) (n := n + 1) (fun m h => by injection h with h; subst h; exact blockW_rel n) (ws.length + 1) [] s σ k sc hf h1 (by omega)
    rw [← blockW_nest] at r
    cases h : blockW ws (n + 1) s with
    | inl i => rw [h] at r; exact r
    | inr p =>
      obtain ⟨a, s'⟩ := p
      rw [h] at r
      obtain ⟨l, q1, q2⟩ := r
      rw [List.nil_append] at q1
      rw [q1]
      exact q2


/-! ### procedures, buffers, whole components, and what is open -/
theorem numsW_rel {ws : List Str} : ∀ (n : Nat) (s : Rst) (σ : List It) (sc : Sc), RelA ws s (List.replicate n .datum ++ σ) σ sc (fun l => l.map fun n : Nat => numS n) (numsW ws n s)
  | 0, s, σ, sc => ⟨rfl, rfl⟩
  | n + 1, s, σ, sc => by
    rw [numsW, List.replicate_succ', List.append_assoc]
    refine RelA.bind (w2 := fun _ l => (l.drop (l.length - 1)).map fun n : Nat => numS n) (numsW_rel n s (.datum :: σ) sc) (fun l s1 h1 => ?_) ?_
    · have r := numW_rel (ws := ws) (lo := 0) (hi := 65535) (s := s1) (t := .datum) (σ := σ) (sc := sc) (l := fun _ => []) (g := fun _ => sc) nofun (fun z => nx_datum)
      cases h2 : numW ws 0 65535 s1 with
      | inl i => rw [h2] at r; exact r
      | inr p =>
        obtain ⟨x, s2⟩ := p
        rw [h2] at r
        refine ⟨r.1, ?_⟩
        show _ = ((l ++ [x]).drop ((l ++ [x]).length - 1)).map _ ++ _
        rw [List.length_append, List.length_singleton, Nat.add_sub_cancel, List.drop_left, r.2]
        rfl
    · rintro l s1 b s4 h1 h2
      obtain ⟨x, s2, q1, q2⟩ := bindR_inr h2
      cases q2
      rw [List.length_append, List.length_singleton, Nat.add_sub_cancel, List.drop_left, List.map_append]
theorem bufW_rel {ws : List Str} {s : Rst} {σ : List It} {sc : Sc} (h1 : sc.nb < 8) (h2 : sc.left = sc.np) (hz : ws[s.at_]? = some ("buffer" : Str)) : match bufW ws s with
    | .inl i => resAt ws s.at_ (.head :: σ) sc = some i
    | .inr (b, s') => resAt ws s.at_ (.head :: σ) sc = resAt ws s'.at_ (.head :: σ) { sc with nb := sc.nb + 1 } ∧ ws.drop s.at_ = bufWs b ++ ws.drop s'.at_ := by
  unfold bufW exactW
  rw [if_pos hz, bindR_go]
  have e1 : resAt ws s.at_ (.head :: σ) sc = resAt ws (s.at_ + 1) (.size :: .head :: σ) { sc with nb := sc.nb + 1 } := resAt_go (l := [.size, .head]) hz (by
    rw [nx_head]
    unfold headA
    rw [if_pos ⟨rfl, h1, h2⟩])
  have r := numW_rel (ws := ws) (lo := 1) (hi := 1000) (s := { s with at_ := s.at_ + 1 }) (t := .size) (σ := .head :: σ) (sc := { sc with nb := sc.nb + 1 }) (l := fun n => List.replicate n .datum) (g := fun _ => { sc with nb := sc.nb + 1 }) nofun (fun z => nx_size)
  cases h3 : numW ws 1 1000 { s with at_ := s.at_ + 1 } with
  | inl i => rw [h3] at r; exact e1.trans r
  | inr p =>
    obtain ⟨n, s2⟩ := p
    rw [h3] at r
    rw [bindR_go]
    have r2 := numsW_rel (ws := ws) n s2 (.head :: σ) { sc with nb := sc.nb + 1 }
    cases h4 : numsW ws n s2 with
    | inl i => rw [h4] at r2; exact e1.trans (r.1.trans r2)
    | inr p =>
      obtain ⟨l, s3⟩ := p
      rw [h4] at r2
      refine ⟨e1.trans (r.1.trans r2.1), ?_⟩
      have hl := (numsW_goes n (numW_goes h3).2.2 h4).2.2
      rw [drop_get hz, show ws.drop (s.at_ + 1) = _ from r.2, r2.2]
      unfold bufWs
      rw [hl]
      rfl
theorem bufsW_rel {ws : List Str} : ∀ (f : Nat) (acc : List (List Nat)) (s : Rst) (σ : List It) (sc : Sc), sc.nb = acc.length → f + acc.length = 8 → sc.left = sc.np → 0 < sc.left → match bufsW ws f acc s with
    | .inl i => resAt ws s.at_ (.head :: σ) sc = some i
    | .inr (bs, s') => ∃ l, bs = acc ++ l ∧ resAt ws s.at_ (.head :: σ) sc = resAt ws s'.at_ (.head :: σ) { sc with nb := bs.length } ∧ ws.drop s.at_ = (l.map bufWs).flatten ++ ws.drop s'.at_ ∧ (bs.length < 8 → ws[s'.at_]? ≠ some ("buffer" : Str))
  | 0, acc, s, σ, sc, h1, h2, h3, h4 => ⟨[], (List.append_nil _).symm, by rw [← h1], rfl, fun q => by omega⟩
  | f + 1, acc, s, σ, sc, h1, h2, h3, h4 => by
    rw [bufsW]
    cases e : ws[s.at_]? with
    | none => exact resAt_stop e fun _ => h4
    | some z =>
      dsimp only
      by_cases hz : z = "buffer"
      · rw [if_pos hz]
        have r := bufW_rel (ws := ws) (s := s) (σ := σ) (sc := sc) (by omega) h3 (by rw [e, hz])
        cases h5 : bufW ws s with
        | inl i => rw [h5] at r; exact r
        | inr p =>
          obtain ⟨b, s1⟩ := p
          rw [h5] at r
          rw [bindR_go]
          have r2 := bufsW_rel (ws := ws) f (acc ++ [b]) s1 σ { sc with nb := sc.nb + 1 } (by rw [List.length_append, List.length_singleton]; show sc.nb + 1 = _; omega) (by rw [List.length_append, List.length_singleton]; omega) h3 h4
          cases h6 : bufsW ws f (acc ++ [b]) s1 with
          | inl i => rw [h6] at r2; exact r.1.trans r2
          | inr p =>
            obtain ⟨bs, s2⟩ := p
            rw [h6] at r2
            obtain ⟨l, q1, q2, q3, q4⟩ := r2
            refine ⟨b :: l, by rw [q1, List.append_assoc]; rfl, r.1.trans q2, ?_, q4⟩
            rw [r.2, q3, List.map_cons, List.flatten_cons, List.append_assoc]
      · rw [if_neg hz]
        exact ⟨[], (List.append_nil _).symm, by rw [← h1], rfl, fun _ q => hz (Option.some.inj (e.symm.trans q))⟩
theorem procW_rel {ws : List Str} {s : Rst} {σ : List It} {sc : Sc} (h1 : 0 < sc.left) (hnb : sc.nb = s.bc) (hnp : sc.np = s.pc) (hni : sc.ni = s.ic) (hb : sc.nb < 8 → sc.left = sc.np → ws[s.at_]? ≠ some ("buffer" : Str)) : match procW ws s with
    | .inl i => resAt ws s.at_ (.head :: σ) sc = some i
    | .inr (p, s') => resAt ws s.at_ (.head :: σ) sc = resAt ws s'.at_ (.head :: σ) { sc with left := sc.left - 1, nl := p.1 } ∧ ws.drop s.at_ = procWs p ++ ws.drop s'.at_ := by
  unfold procW exactW
  cases e : ws[s.at_]? with
  | none => rw [if_neg nofun]; exact resAt_stop e fun _ => h1
  | some z =>
    have no : ¬ (z = "buffer" ∧ sc.nb < 8 ∧ sc.left = sc.np) := fun q => hb q.2.1 q.2.2 (by rw [e, q.1])
    by_cases hz : z = "procedure"
    · rw [if_pos (by rw [hz]), bindR_go]
      have e1 : resAt ws s.at_ (.head :: σ) sc = resAt ws (s.at_ + 1) (.cells :: .head :: σ) { sc with left := sc.left - 1 } := resAt_go (l := [.cells, .head]) e (by
        rw [nx_head]
        unfold headA
        rw [if_neg no, if_pos ⟨hz, h1⟩])
      have r := numW_rel (ws := ws) (lo := 1) (hi := 16) (s := { s with at_ := s.at_ + 1 }) (t := .cells) (σ := .head :: σ) (sc := { sc with left := sc.left - 1 }) (l := fun n => [.block 6 .prc]) (g := fun n => { sc with left := sc.left - 1, nl := n }) nofun (fun z => nx_cells)
      cases h3 : numW ws 1 16 { s with at_ := s.at_ + 1 } with
      | inl i => rw [h3] at r; exact e1.trans r
      | inr p =>
        obtain ⟨lc, s2⟩ := p
        rw [h3] at r
        rw [bindR_go]
        have g2 := numW_goes h3
        have f2 : FitA { s2 with lc := lc } { sc with left := sc.left - 1, nl := lc } := by
          rw [g2.1]
          exact ⟨hnb, hnp, rfl, hni⟩
        have r2 := blockW_rel (ws := ws) 6 { s2 with lc := lc } (.head :: σ) .prc { sc with left := sc.left - 1, nl := lc } f2 g2.2.2
        cases h4 : blockW ws 6 { s2 with lc := lc } with
        | inl i => rw [h4] at r2; exact e1.trans (r.1.trans r2)
        | inr p =>
          obtain ⟨b, s3⟩ := p
          rw [h4] at r2
          obtain ⟨q1, q2, y, q3, q4⟩ := r2
          have hkd : (if b = [] then Kd.prc else Kd.prc.on) = .prc := by split <;> rfl
          rw [hkd] at q1
          have f3 := f2.keeps (blockW_keeps 6 _ _ _ h4)
          rw [bindR_go]
          have r3 := end_rel (σ := .head :: σ) (k := .prc) f3 q3 q4 (by decide) (fun q => by cases q.2)
          unfold exactW at r3
          by_cases he : ws[s3.at_]? = some ("end" : Str)
          · rw [if_pos he] at r3
            rw [if_pos he, bindR_go]
            refine ⟨e1.trans (r.1.trans (q1.trans r3.1)), ?_⟩
            rw [drop_get e, show ws.drop (s.at_ + 1) = _ from r.2, show ws.drop s2.at_ = _ from q2, r3.2, hz]
            unfold procWs
            simp
          · rw [if_neg he] at r3
            rw [if_neg he]
            exact e1.trans (r.1.trans (q1.trans r3))
    · rw [if_neg fun q => hz (Option.some.inj q)]
      refine resAt_bad e ?_
      rw [nx_head]
      unfold headA
      rw [if_neg no, if_neg fun q => hz q.1]
theorem procsW_rel {ws : List Str} {np nb ni : Nat} {s : Rst} (hnb : nb = s.bc) (hnp : np = s.pc) (hni : ni = s.ic) (hat : s.at_ ≤ ws.length) (hb : nb < 8 → ws[s.at_]? ≠ some ("buffer" : Str)) (nl : Nat) : ∀ n, n ≤ np → match procsW ws n s with
    | .inl i => resAt ws s.at_ [.head] ⟨nb, np, np, nl, ni⟩ = some i
    | .inr (ps, s') => ∃ m, resAt ws s.at_ [.head] ⟨nb, np, np, nl, ni⟩ = resAt ws s'.at_ [.head] ⟨nb, np, np - n, m, ni⟩ ∧ ws.drop s.at_ = (ps.map procWs).flatten ++ ws.drop s'.at_
  | 0, _ => ⟨nl, rfl, rfl⟩
  | n + 1, hn => by
    have r := procsW_rel hnb hnp hni hat hb nl n (by omega)
    rw [procsW]
    cases h1 : procsW ws n s with
    | inl i => rw [h1] at r; exact r
    | inr p =>
      obtain ⟨l, s1⟩ := p
      rw [h1] at r
      obtain ⟨m, q1, q2⟩ := r
      have g := procsW_goes n hat h1
      rw [bindR_go]
      have r2 := procW_rel (ws := ws) (s := s1) (σ := []) (sc := ⟨nb, np, np - n, m, ni⟩) (by show 0 < np - n; omega) (by rw [g.1]; exact hnb) (by rw [g.1]; exact hnp) (by rw [g.1]; exact hni) (fun a b => by
        have b : np - n = np := b
        have hn0 : n = 0 := by omega
        subst hn0
        cases h1
        exact hb a)
      cases h2 : procW ws s1 with
      | inl i => rw [h2] at r2; exact q1.trans r2
      | inr p =>
        obtain ⟨x, s2⟩ := p
        rw [h2] at r2
        exact ⟨x.1, q1.trans r2.1, by rw [q2, r2.2]; simp⟩
theorem compW_rel {ws : List Str} {ni : Nat} : match compW ws ⟨0, ni, 0, 0, 0⟩ with
    | .inl i => wrongA ws ni = some i
    | .inr (c, s') => ∃ m np, 0 < np ∧ wrongA ws ni = resAt ws s'.at_ [.head] ⟨c.bufs.length, np, 0, m, ni⟩ ∧ ws = c.ws ++ ws.drop s'.at_ := by
  unfold compW
  have r1 := exactW_rel (ws := ws) (y := "room") (s := ⟨0, ni, 0, 0, 0⟩) (σ := [.room, .word "procedures", .count, .head]) (sc := scA ni)
  have w0 : wrongA ws ni = resAt ws 0 startA (scA ni) := by unfold wrongA resAt; rw [List.drop_zero]
  rw [w0]
  cases h1 : exactW ws "room" ⟨0, ni, 0, 0, 0⟩ with
  | inl i => rw [h1] at r1; exact r1
  | inr p =>
    obtain ⟨u, s1⟩ := p
    rw [h1] at r1
    have g1 := exactW_goes h1
    rw [bindR_go]
    have r2 := numW_rel (ws := ws) (lo := 0) (hi := 20000) (s := s1) (t := .room) (σ := [.word "procedures", .count, .head]) (sc := scA ni) (l := fun _ => []) (g := fun _ => scA ni) nofun (fun z => nx_room)
    cases h2 : numW ws 0 20000 s1 with
    | inl i => rw [h2] at r2; exact r1.1.trans r2
    | inr p =>
      obtain ⟨rm, s2⟩ := p
      rw [h2] at r2
      have g2 := numW_goes h2
      rw [bindR_go]
      have r3 := exactW_rel (ws := ws) (y := "procedures") (s := s2) (σ := [.count, .head]) (sc := scA ni)
      cases h3 : exactW ws "procedures" s2 with
      | inl i => rw [h3] at r3; exact r1.1.trans (r2.1.trans r3)
      | inr p =>
        obtain ⟨u3, s3⟩ := p
        rw [h3] at r3
        have g3 := exactW_goes h3
        rw [bindR_go]
        have r4 := numW_rel (ws := ws) (lo := 1) (hi := 8) (s := s3) (t := .count) (σ := [.head]) (sc := scA ni) (l := fun _ => []) (g := fun n => { scA ni with np := n, left := n }) nofun (fun z => nx_count)
        cases h4 : numW ws 1 8 s3 with
        | inl i => rw [h4] at r4; exact r1.1.trans (r2.1.trans (r3.1.trans r4))
        | inr p =>
          obtain ⟨np, s4⟩ := p
          rw [h4] at r4
          have g4 := numW_goes h4
          have hnp := numW_le h4
          rw [bindR_go]
          have r5 := bufsW_rel (ws := ws) 8 [] { s4 with pc := np } [] ⟨0, np, np, 1, ni⟩ rfl rfl rfl (by show 0 < np; omega)
          have e14 := r1.1.trans (r2.1.trans (r3.1.trans r4.1))
          cases h5 : bufsW ws 8 [] { s4 with pc := np } with
          | inl i => rw [h5] at r5; exact e14.trans r5
          | inr p =>
            obtain ⟨bs, s5⟩ := p
            rw [h5] at r5
            obtain ⟨l, q1, q2, q3, q4⟩ := r5
            rw [List.nil_append] at q1
            subst q1
            have g5 := bufsW_goes 8 (by exact g4.2.2) h5
            rw [bindR_go]
            have hic : s5.ic = ni := by rw [g5.1]; show s4.ic = ni; rw [g4.1, g3.1, g2.1, g1.1]
            have r6 := procsW_rel (ws := ws) (np := np) (nb := bs.length) (ni := ni) (s := { s5 with bc := bs.length }) rfl (by show np = s5.pc; rw [g5.1]) hic.symm g5.2.1 q4 1 np (Nat.le_refl _)
            cases h6 : procsW ws np { s5 with bc := bs.length } with
            | inl i => rw [h6] at r6; exact e14.trans (q2.trans r6)
            | inr p =>
              obtain ⟨ps, s6⟩ := p
              rw [h6] at r6
              obtain ⟨m, y1, y2⟩ := r6
              rw [Nat.sub_self] at y1
              have hl := (procsW_goes np (by exact g5.2.1) h6).2.2
              refine ⟨m, np, by omega, e14.trans (q2.trans y1), ?_⟩
              have e0 : ws = ws.drop 0 := rfl
              conv => lhs; rw [e0]
              rw [show ws.drop 0 = _ from r1.2, r2.2, show ws.drop s2.at_ = _ from r3.2, r4.2, show ws.drop s4.at_ = _ from q3, show ws.drop s5.at_ = _ from y2]
              unfold Cm.ws
              show _ = ([("room" : Str), numS rm, "procedures", numS ps.length] ++ ((bs.map bufWs).flatten ++ (ps.map procWs).flatten)) ++ _
              rw [hl]
              simp
theorem readC_rel {ws : List Str} {ni : Nat} : match readC ws ni with
    | .inl i => wrongA ws ni = some i
    | .inr c => wrongA ws ni = none ∧ c.ws = ws := by
  unfold readC
  have r := compW_rel (ws := ws) (ni := ni)
  cases h : compW ws ⟨0, ni, 0, 0, 0⟩ with
  | inl i => rw [h] at r; exact r
  | inr p =>
    obtain ⟨c, s⟩ := p
    rw [h] at r
    obtain ⟨m, np, h0, h1, h2⟩ := r
    dsimp only
    have hat := compW_goes (Nat.zero_le _) h
    by_cases q : s.at_ < ws.length
    · rw [if_pos q]
      have e := List.getElem?_eq_getElem q
      refine h1.trans (resAt_bad e ?_)
      rw [nx_head]
      unfold headA
      rw [if_neg fun y => by have := y.2.2; have : (0 : Nat) = np := this; omega, if_neg fun y => absurd y.2 (Nat.lt_irrefl 0)]
    · rw [if_neg q]
      have hd : ws.drop s.at_ = [] := List.drop_eq_nil_of_le (by omega)
      rw [hd, List.append_nil] at h2
      refine ⟨?_, h2.symm⟩
      rw [h1]
      unfold resAt
      rw [hd, resA, if_pos ⟨rfl, rfl⟩]

/-! ### what is read keeps the bounds -/
abbrev shR (s : Rst) : Sh := ⟨s.lc, s.bc, s.pc, s.ic⟩
theorem shR_goes {ws : List Str} {s s' : Rst} (g : Rst.goes ws s s') : shR s' = shR s := by rw [g.1]
theorem shR_keeps {ws : List Str} {s s' : Rst} (g : Rst.keeps ws s s') : shR s' = shR s := by rw [g.1]
theorem nameW_lt {ws : List Str} {c : Str} {m n : Nat} {s s' : Rst} (h : nameW ws c m s = .inr (n, s')) : n < m := by
  unfold nameW at h
  split at h
  · cases h
  · split at h
    · cases h
    · split at h
      · rename_i q
        cases h
        exact q
      · cases h
theorem expW_ok {ws : List Str} : ∀ (d : Nat) {e : Ex} {s s' : Rst}, expW ws d s = .inr (e, s') → e.okd (shR s) d
  | 0, e, s, s', h => by cases h
  | d + 1, e, s, s', h => by
    rw [expW] at h
    cases ez : ws[s.at_]? with
    | none => rw [ez] at h; cases h
    | some z =>
      rw [ez] at h
      dsimp only at h
      split at h
      · rename_i q
        obtain ⟨a, s1, h1, h2⟩ := bindR_inr h
        obtain ⟨b, s2, h3, h4⟩ := bindR_inr h2
        cases h4
        have o1 := expW_ok d h1
        have o2 := expW_ok d h3
        rw [shR_goes (expW_goes d h1)] at o2
        exact ⟨⟨q.2, o1.1, o2.1⟩, by rw [Ex.dep]; have := o1.2; have := o2.2; omega⟩
      · split at h
        · rename_i q
          obtain ⟨a, s1, h1, h2⟩ := bindR_inr h
          obtain ⟨b, s2, h3, h4⟩ := bindR_inr h2
          cases h4
          have o2 := expW_ok d h3
          rw [shR_goes (nameW_goes h1)] at o2
          exact ⟨⟨nameW_lt h1, o2.1⟩, by rw [Ex.dep]; have := o2.2; omega⟩
        · split at h
          · obtain ⟨a, s1, h1, h2⟩ := bindR_inr h
            cases h2
            exact ⟨nameW_lt h1, by rw [Ex.dep]; omega⟩
          · obtain ⟨a, s1, h1, h2⟩ := bindR_inr h
            cases h2
            exact ⟨by have := (numW_le h1).2; show a < 65536; omega, by rw [Ex.dep]; omega⟩
theorem callW_ok {ws : List Str} {c : Str} {m : Nat} {p : Nat × Nat × Ex} {s s' : Rst} (h : callW ws c m s = .inr (p, s')) : p.1 < s.lc ∧ p.2.1 < m ∧ p.2.2.okd (shR s) 4 := by
  obtain ⟨l, s1, h1, h2⟩ := bindR_inr h
  obtain ⟨n, s2, h3, h4⟩ := bindR_inr h2
  obtain ⟨e, s3, h5, h6⟩ := bindR_inr h4
  cases h6
  have o := expW_ok 4 h5
  rw [shR_goes (nameW_goes h3), shR_goes (nameW_goes h1)] at o
  exact ⟨nameW_lt h1, nameW_lt h3, o⟩
/-- the words of statements: at least two each -/
theorem St.ws_two (x : St) : 2 ≤ x.ws.length := by
  cases x with
  | ret e =>
    rw [St.ws, List.length_cons]
    have : 0 < e.ws.length := by cases e <;> simp [Ex.ws]
    omega
  | _ => rw [St.ws]; simp <;> omega
theorem stsWs_two : ∀ xs : List St, 2 * xs.length ≤ (stsWs xs).length
  | [] => Nat.le_refl _
  | x :: xs => by
    have h1 := x.ws_two
    have h2 := stsWs_two xs
    rw [stsWs, List.length_append, List.length_cons]
    omega
def BlkOk (ws : List Str) (n : Nat) (blk : Rst → Nat ⊕ (List St × Rst)) : Prop := ∀ s a s', s.at_ ≤ ws.length → blk s = .inr (a, s') → BkOk (shR s) n a
theorem stmtW_ok {ws : List Str} {n : Nat} (hb : ∀ m, n = m + 1 → BlkOk ws m (nestW ws n)) {s s' : Rst} {z : Str} {x : St} (hlt : s.at_ < ws.length) (hz : fitsW n s z = true) (h : stmtW ws (nestW ws n) z s.step = .inr (x, s')) : x.ok (shR s) n := by
  have deep : (z = "if" ∨ z = "while") → z ≠ "put" → z ≠ "use" → 0 < n := fun q h2 h4 => by
    unfold fitsW at hz
    have hm : z ∈ (["if", "while"] : List Str) := by rcases q with q | q <;> rw [q] <;> decide +kernel
    rw [if_neg h2, if_neg h4, if_pos hm] at hz
    exact of_decide_eq_true hz
  have e0 : shR s.step = shR s := rfl
  unfold stmtW at h
  split at h
  · obtain ⟨l, s1, h1, h2⟩ := bindR_inr h
    obtain ⟨e, s2, h3, h4⟩ := bindR_inr h2
    cases h4
    have o := expW_ok 4 h3
    rw [shR_goes (nameW_goes h1), e0] at o
    exact ⟨nameW_lt h1, o⟩
  · split at h
    · obtain ⟨l, s1, h1, h2⟩ := bindR_inr h
      obtain ⟨e, s2, h3, h4⟩ := bindR_inr h2
      obtain ⟨e2, s3, h5, h6⟩ := bindR_inr h4
      cases h6
      have o := expW_ok 4 h3
      have o2 := expW_ok 4 h5
      rw [shR_goes (expW_goes _ h3)] at o2
      rw [shR_goes (nameW_goes h1), e0] at o o2
      exact ⟨nameW_lt h1, o, o2⟩
    · rename_i h2n
      split at h
      · obtain ⟨p, s1, h1, h2⟩ := bindR_inr h
        cases h2
        exact callW_ok (s := s.step) h1
      · split at h
        · obtain ⟨p, s1, h1, h2⟩ := bindR_inr h
          cases h2
          exact callW_ok (s := s.step) h1
        · rename_i h4n
          split at h
          · rename_i h5
            have hn := deep (.inl h5) h2n h4n
            obtain ⟨m, rfl⟩ : ∃ m, n = m + 1 := ⟨n - 1, by omega⟩
            obtain ⟨t, s1, q1, q2⟩ := bindR_inr h
            obtain ⟨a, s2, q3, q4⟩ := bindR_inr q2
            have g1 := expW_goes _ q1
            have o1 := expW_ok 4 q1
            have k1 := nestW_keeps _ _ _ _ q3
            have o2 := hb m rfl _ _ _ g1.2.2 q3
            rw [shR_goes g1] at o2
            rw [e0] at o1 o2
            unfold elseW at q4
            split at q4
            · cases q4
            · split at q4
              · obtain ⟨b, s3, q5, q6⟩ := bindR_inr q4
                have o3 := hb m rfl _ _ _ (by show s2.at_ + 1 ≤ _; have := k1.2.2; omega) q5
                have e2 : shR s2.step = shR s := by show shR s2 = _; rw [shR_keeps k1, shR_goes g1, e0]
                rw [e2] at o3
                split at q6
                · cases q6
                · obtain ⟨u, s4, q7, q8⟩ := bindR_inr q6
                  cases q8
                  exact ⟨hn, o1, o2, o3⟩
              · obtain ⟨u, s4, q7, q8⟩ := bindR_inr q4
                cases q8
                exact ⟨hn, o1, o2, Nat.zero_le _, trivial⟩
          · split at h
            · rename_i h6
              have hn := deep (.inr h6) h2n h4n
              obtain ⟨m, rfl⟩ : ∃ m, n = m + 1 := ⟨n - 1, by omega⟩
              obtain ⟨t, s1, q1, q2⟩ := bindR_inr h
              obtain ⟨a, s2, q3, q4⟩ := bindR_inr q2
              obtain ⟨u, s4, q7, q8⟩ := bindR_inr q4
              have g1 := expW_goes _ q1
              have o1 := expW_ok 4 q1
              have o2 := hb m rfl _ _ _ g1.2.2 q3
              rw [shR_goes g1] at o2
              cases q8
              exact ⟨hn, o1, o2⟩
            · obtain ⟨e, s1, h1, h2⟩ := bindR_inr h
              cases h2
              exact expW_ok (s := s.step) 4 h1
theorem loopW_ok {ws : List Str} {n : Nat} (hb : ∀ m, n = m + 1 → BlkOk ws m (nestW ws n)) : ∀ (f : Nat) (acc : List St) (s : Rst) (a : List St) (s' : Rst), (∀ x ∈ acc, x.ok (shR s) n) → loopW ws n (nestW ws n) f acc s = .inr (a, s') → ∀ x ∈ a, x.ok (shR s) n
  | 0, acc, s, a, s', _, h => by cases h
  | f + 1, acc, s, a, s', ha, h => by
    rw [loopW] at h
    cases e : ws[s.at_]? with
    | none => rw [e] at h; cases h
    | some z =>
      rw [e] at h
      dsimp only at h
      cases hz : fitsW n s z with
      | false =>
        rw [hz, if_neg Bool.false_ne_true] at h
        cases h
        exact ha
      | true =>
        rw [hz, if_pos rfl] at h
        obtain ⟨x, s1, h1, h2⟩ := bindR_inr h
        have g := (stmtW_goes (nestW_keeps n) h1).step
        have o := stmtW_ok hb (get_lt e) hz h1
        have := loopW_ok hb f _ _ _ _ (fun y hy => by
          rw [shR_goes g]
          rcases List.mem_append.mp hy with q | q
          · exact ha y q
          · rw [List.mem_singleton.mp q]; exact o) h2
        rw [shR_goes g] at this
        exact this
theorem blockW_ok {ws : List Str} (hw : ws.length ≤ 4000) : ∀ n, BlkOk ws n (blockW ws n) := by
  have len : ∀ n s a s', s.at_ ≤ ws.length → blockW ws n s = .inr (a, s') → a.length ≤ 2000 := fun n s a s' h1 h => by
    have r := blockW_rel (ws := ws) n s [] .prc ⟨s.bc, s.pc, 0, s.lc, s.ic⟩ ⟨rfl, rfl, rfl, rfl⟩ h1
    rw [h] at r
    have := congrArg List.length r.2.1
    rw [List.length_append, List.length_drop] at this
    have := stsWs_two a
    omega
  intro n
  induction n with
  | zero =>
    intro s a s' h1 h
    refine ⟨len 0 s a s' h1 h, stsOk_iff.mpr ?_⟩
    rw [blockW_nest] at h
    exact loopW_ok (n := 0) (fun m q => absurd q (Nat.succ_ne_zero m).symm) _ _ _ _ _ (fun x hx => by cases hx) h
  | succ n ih =>
    intro s a s' h1 h
    refine ⟨len (n + 1) s a s' h1 h, stsOk_iff.mpr ?_⟩
    rw [blockW_nest] at h
    exact loopW_ok (n := n + 1) (fun m q => by injection q with q; subst q; exact ih) _ _ _ _ _ (fun x hx => by cases hx) h
theorem procW_ok {ws : List Str} (hw : ws.length ≤ 4000) {x : Nat × List St} {s s' : Rst} (h : procW ws s = .inr (x, s')) : (1 ≤ x.1 ∧ x.1 ≤ 16) ∧ BkOk ⟨x.1, s.bc, s.pc, s.ic⟩ 6 x.2 := by
  obtain ⟨u, s1, h1, h2⟩ := bindR_inr h
  obtain ⟨lc, s2, h3, h4⟩ := bindR_inr h2
  obtain ⟨b, s3, h5, h6⟩ := bindR_inr h4
  obtain ⟨u2, s4, h7, h8⟩ := bindR_inr h6
  cases h8
  have g1 := exactW_goes h1
  have g2 := numW_goes h3
  have o := blockW_ok hw 6 _ _ _ (by exact g2.2.2) h5
  refine ⟨numW_le h3, ?_⟩
  have e : shR { s2 with lc := lc } = ⟨lc, s.bc, s.pc, s.ic⟩ := by rw [g2.1, g1.1]
  rw [e] at o
  exact o
theorem procsW_ok {ws : List Str} (hw : ws.length ≤ 4000) : ∀ (n : Nat) {l : List (Nat × List St)} {s s' : Rst}, s.at_ ≤ ws.length → procsW ws n s = .inr (l, s') → ∀ x ∈ l, (1 ≤ x.1 ∧ x.1 ≤ 16) ∧ BkOk ⟨x.1, s.bc, s.pc, s.ic⟩ 6 x.2
  | 0, l, s, s', _, h => by cases h; exact fun x hx => by cases hx
  | n + 1, l, s, s', hat, h => by
    obtain ⟨a, s1, h1, h2⟩ := bindR_inr h
    obtain ⟨x, s2, h3, h4⟩ := bindR_inr h2
    cases h4
    have g := procsW_goes n hat h1
    intro y hy
    rcases List.mem_append.mp hy with q | q
    · exact procsW_ok hw n hat h1 y q
    · rw [List.mem_singleton.mp q]
      have o := procW_ok hw h3
      rw [g.1] at o
      exact o
theorem numsW_lt {ws : List Str} : ∀ (n : Nat) {l : List Nat} {s s' : Rst}, numsW ws n s = .inr (l, s') → ∀ x ∈ l, x < 65536
  | 0, l, s, s', h => by cases h; exact fun x hx => by cases hx
  | n + 1, l, s, s', h => by
    obtain ⟨a, s1, h1, h2⟩ := bindR_inr h
    obtain ⟨x, s2, h3, h4⟩ := bindR_inr h2
    cases h4
    intro y hy
    rcases List.mem_append.mp hy with q | q
    · exact numsW_lt n h1 y q
    · rw [List.mem_singleton.mp q]
      have := (numW_le h3).2
      omega
theorem bufW_ok {ws : List Str} {l : List Nat} {s s' : Rst} (h : bufW ws s = .inr (l, s')) : (1 ≤ l.length ∧ l.length ≤ 1000) ∧ ∀ x ∈ l, x < 65536 := by
  obtain ⟨u, s1, h1, h2⟩ := bindR_inr h
  obtain ⟨n, s2, h3, h4⟩ := bindR_inr h2
  have g := (exactW_goes h1).trans (numW_goes h3)
  have hl := (numsW_goes n g.2.2 h4).2.2
  exact ⟨by rw [hl]; exact numW_le h3, numsW_lt n h4⟩
theorem bufsW_ok {ws : List Str} : ∀ (n : Nat) {acc l : List (List Nat)} {s s' : Rst}, (∀ b ∈ acc, (1 ≤ b.length ∧ b.length ≤ 1000) ∧ ∀ x ∈ b, x < 65536) → bufsW ws n acc s = .inr (l, s') → ∀ b ∈ l, (1 ≤ b.length ∧ b.length ≤ 1000) ∧ ∀ x ∈ b, x < 65536
  | 0, acc, l, s, s', h, e => by cases e; exact h
  | n + 1, acc, l, s, s', h, e => by
    rw [bufsW] at e
    split at e
    · cases e
    · split at e
      · obtain ⟨b, s1, h1, h2⟩ := bindR_inr e
        refine bufsW_ok n (fun y hy => ?_) h2
        rcases List.mem_append.mp hy with q | q
        · exact h y q
        · rw [List.mem_singleton.mp q]; exact bufW_ok h1
      · cases e
        exact h
theorem compW_ok {ws : List Str} (hw : ws.length ≤ 4000) {ni : Nat} {c : Cm} {s : Rst} (h : compW ws ⟨0, ni, 0, 0, 0⟩ = .inr (c, s)) : c.ok 6 0 ni ∧ c.procs.length ≤ 8 := by
  obtain ⟨u, s1, h1, h⟩ := bindR_inr h
  obtain ⟨rm, s2, h2, h⟩ := bindR_inr h
  obtain ⟨u3, s3, h3, h⟩ := bindR_inr h
  obtain ⟨np, s4, h4, h⟩ := bindR_inr h
  obtain ⟨bs, s5, h5, h⟩ := bindR_inr h
  obtain ⟨ps, s6, h6, h⟩ := bindR_inr h
  cases h
  have g1 := exactW_goes h1
  have g2 := numW_goes h2
  have g3 := exactW_goes h3
  have g4 := numW_goes h4
  have g5 := bufsW_goes 8 (by exact g4.2.2) h5
  have g6 := procsW_goes np (by exact g5.2.1) h6
  have hnp := numW_le h4
  have hb := bufsW_ok 8 (fun b hb => by cases hb) h5
  have hp := procsW_ok hw np (by exact g5.2.1) h6
  have e1 : s5.pc = np := by rw [g5.1]
  have e2 : s5.ic = ni := by rw [g5.1]; show s4.ic = ni; rw [g4.1, g3.1, g2.1, g1.1]
  have hl := g6.2.2
  refine ⟨⟨(numW_le h2).2, ?_, hb, ⟨?_, Nat.zero_le _, ?_⟩, fun p hp' => ?_⟩, ?_⟩
  · have := g5.2.2; rw [List.length_nil] at this; show bs.length ≤ 8; omega
  · show 1 ≤ ps.length; omega
  · show ps.length ≤ 9; omega
  · have o := hp p hp'
    rw [show s5.pc = np from e1, show s5.ic = ni from e2] at o
    show _ ∧ BkOk ⟨p.1, bs.length, ps.length, ni⟩ 6 p.2
    rw [hl]
    exact o
  · show ps.length ≤ 8; omega
theorem readC_ok {ws : List Str} (hw : ws.length ≤ 4000) {ni : Nat} {c : Cm} (h : readC ws ni = .inr c) : c.ok 6 0 ni ∧ c.procs.length ≤ 8 := by
  unfold readC at h
  split at h
  · cases h
  · split at h
    · cases h
    · rename_i q _
      cases h
      exact compW_ok hw q


/-! frozen data -/
theorem exd_fz : ∀ {e : Ex} {d : Nat}, e.dep ≤ d → FzOk (d + 1) e.d
  | .num n, d + 1, _ => by
    rw [Ex.d, FzOk]
    exact ⟨by simp, fun x hx => by simp only [List.mem_cons, List.not_mem_nil, or_false] at hx; rcases hx with rfl | rfl <;> exact trivial⟩
  | .loc n, d + 1, _ => by
    rw [Ex.d, FzOk]
    exact ⟨by simp, fun x hx => by simp only [List.mem_cons, List.not_mem_nil, or_false] at hx; rcases hx with rfl | rfl <;> exact trivial⟩
  | .get b e, d + 1, h => by
    rw [Ex.d, FzOk]
    refine ⟨by simp, fun x hx => ?_⟩
    simp only [List.mem_cons, List.not_mem_nil, or_false] at hx
    rcases hx with rfl | rfl | rfl
    · exact trivial
    · exact trivial
    · exact exd_fz (by simp only [Ex.dep] at h; omega)
  | .op z a b, d + 1, h => by
    rw [Ex.d, FzOk]
    refine ⟨by simp, fun x hx => ?_⟩
    simp only [Ex.dep] at h
    simp only [List.mem_cons, List.not_mem_nil, or_false] at hx
    rcases hx with rfl | rfl | rfl
    · exact trivial
    · exact exd_fz (by omega)
    · exact exd_fz (by omega)
  | e, 0, h => by have := e.dep_pos; omega
theorem froz_list {n : Nat} {ds : List D} (h : ∀ d ∈ ds, froz n d = d) : froz (n + 1) (.tup ds) = .tup ds := by
  rw [froz]
  congr 1
  rw [List.map_congr_left h, List.map_id']
theorem exd_froz : ∀ {e : Ex} (n : Nat), froz n e.d = e.d
  | e, 0 => by cases e <;> rfl
  | .num _, n + 1 => froz_list fun d hd => by simp only [List.mem_cons, List.not_mem_nil, or_false] at hd; rcases hd with rfl | rfl <;> cases n <;> rfl
  | .loc _, n + 1 => froz_list fun d hd => by simp only [List.mem_cons, List.not_mem_nil, or_false] at hd; rcases hd with rfl | rfl <;> cases n <;> rfl
  | .get b e, n + 1 => froz_list fun d hd => by
    simp only [List.mem_cons, List.not_mem_nil, or_false] at hd
    rcases hd with rfl | rfl | rfl
    · cases n <;> rfl
    · cases n <;> rfl
    · exact exd_froz n
  | .op z a b, n + 1 => froz_list fun d hd => by
    simp only [List.mem_cons, List.not_mem_nil, or_false] at hd
    rcases hd with rfl | rfl | rfl
    · cases n <;> rfl
    · exact exd_froz n
    · exact exd_froz n
theorem fz_int {n : Nat} {i : Int} : FzOk (n + 1) (.int i) := trivial
theorem fzc_str {n : Nat} {z : Str} : FzOk (n + 1) (.str z) := trivial
theorem fr_int {n : Nat} {i : Int} : froz n (.int i) = .int i := by cases n <;> rfl
theorem fr_str {n : Nat} {z : Str} : froz n (.str z) = .str z := by cases n <;> rfl
/-- four parts at most -/
theorem fz_tup {n : Nat} {ds : List D} (hl : ds.length ≤ 1000000) (h : ∀ d ∈ ds, FzOk n d ∧ froz n d = d) : FzOk (n + 1) (.tup ds) ∧ froz (n + 1) (.tup ds) = .tup ds :=
  ⟨by rw [FzOk]; exact ⟨hl, fun d hd => (h d hd).1⟩, froz_list fun d hd => (h d hd).2⟩
theorem ex_fz {h : Sh} {e : Ex} {n d : Nat} (k : e.okd h d) (hn : d ≤ n) : FzOk (n + 1) e.d ∧ froz (n + 1) e.d = e.d := ⟨exd_fz (Nat.le_trans k.2 hn), exd_froz _⟩
mutual
theorem std_fz {h : Sh} : ∀ (x : St) (n : Nat), x.ok h n → ∀ m, 6 + 2 * n ≤ m → FzOk m x.d ∧ froz m x.d = x.d
  | .set l e, n, k, m + 1, hm => by
    rw [St.d]
    refine fz_tup (by simp) fun d hd => ?_
    obtain ⟨m, rfl⟩ : ∃ q, m = q + 1 := ⟨m - 1, by omega⟩
    simp only [List.mem_cons, List.not_mem_nil, or_false] at hd
    rcases hd with rfl | rfl | rfl
    · exact ⟨fz_str, fr_str⟩
    · exact ⟨fz_int, fr_int⟩
    · exact ex_fz k.2 (by omega)
  | .put b i e, n, k, m + 1, hm => by
    rw [St.d]
    refine fz_tup (by simp) fun d hd => ?_
    obtain ⟨m, rfl⟩ : ∃ q, m = q + 1 := ⟨m - 1, by omega⟩
    simp only [List.mem_cons, List.not_mem_nil, or_false] at hd
    rcases hd with rfl | rfl | rfl | rfl
    · exact ⟨fz_str, fr_str⟩
    · exact ⟨fz_int, fr_int⟩
    · exact ex_fz k.2.1 (by omega)
    · exact ex_fz k.2.2 (by omega)
  | .call l p e, n, k, m + 1, hm => by
    rw [St.d]
    refine fz_tup (by simp) fun d hd => ?_
    obtain ⟨m, rfl⟩ : ∃ q, m = q + 1 := ⟨m - 1, by omega⟩
    simp only [List.mem_cons, List.not_mem_nil, or_false] at hd
    rcases hd with rfl | rfl | rfl | rfl
    · exact ⟨fz_str, fr_str⟩
    · exact ⟨fz_int, fr_int⟩
    · exact ⟨fz_int, fr_int⟩
    · exact ex_fz k.2.2 (by omega)
  | .use l p e, n, k, m + 1, hm => by
    rw [St.d]
    refine fz_tup (by simp) fun d hd => ?_
    obtain ⟨m, rfl⟩ : ∃ q, m = q + 1 := ⟨m - 1, by omega⟩
    simp only [List.mem_cons, List.not_mem_nil, or_false] at hd
    rcases hd with rfl | rfl | rfl | rfl
    · exact ⟨fz_str, fr_str⟩
    · exact ⟨fz_int, fr_int⟩
    · exact ⟨fz_int, fr_int⟩
    · exact ex_fz k.2.2 (by omega)
  | .ifs t a b, n, k, m + 1, hm => by
    rw [St.ok] at k
    obtain ⟨hn, ht, ⟨hal, ha⟩, ⟨hbl, hb⟩⟩ := k
    rw [St.d]
    refine fz_tup (by simp) fun d hd => ?_
    obtain ⟨m, rfl⟩ : ∃ q, m = q + 1 := ⟨m - 1, by omega⟩
    simp only [List.mem_cons, List.not_mem_nil, or_false] at hd
    rcases hd with rfl | rfl | rfl | rfl
    · exact ⟨fz_str, fr_str⟩
    · exact ex_fz ht (by omega)
    · exact fz_tup (by rw [stsD_map, List.length_map]; omega) (stsd_fz a (n - 1) ha m (by omega))
    · exact fz_tup (by rw [stsD_map, List.length_map]; omega) (stsd_fz b (n - 1) hb m (by omega))
  | .wh t a, n, k, m + 1, hm => by
    rw [St.ok] at k
    obtain ⟨hn, ht, hal, ha⟩ := k
    rw [St.d]
    refine fz_tup (by simp) fun d hd => ?_
    obtain ⟨m, rfl⟩ : ∃ q, m = q + 1 := ⟨m - 1, by omega⟩
    simp only [List.mem_cons, List.not_mem_nil, or_false] at hd
    rcases hd with rfl | rfl | rfl
    · exact ⟨fz_str, fr_str⟩
    · exact ex_fz ht (by omega)
    · exact fz_tup (by rw [stsD_map, List.length_map]; omega) (stsd_fz a (n - 1) ha m (by omega))
  | .ret e, n, k, m + 1, hm => by
    rw [St.d]
    refine fz_tup (by simp) fun d hd => ?_
    obtain ⟨m, rfl⟩ : ∃ q, m = q + 1 := ⟨m - 1, by omega⟩
    simp only [List.mem_cons, List.not_mem_nil, or_false] at hd
    rcases hd with rfl | rfl
    · exact ⟨fz_str, fr_str⟩
    · exact ex_fz k (by omega)
  | _, n, _, 0, hm => by omega
theorem stsd_fz {h : Sh} : ∀ (xs : List St) (n : Nat), stsOk h xs n → ∀ m, 6 + 2 * n ≤ m → ∀ d ∈ stsD xs, FzOk m d ∧ froz m d = d
  | [], n, k, m, hm, d, hd => by rw [stsD] at hd; cases hd
  | x :: xs, n, k, m, hm, d, hd => by
    rw [stsOk] at k
    rw [stsD] at hd
    rcases List.mem_cons.mp hd with rfl | hd
    · exact std_fz x n k.1 m hm
    · exact stsd_fz xs n k.2 m hm d hd
end
theorem bufs_fz {c : Cm} {n ex ni m : Nat} (k : c.ok n ex ni) : FzOk (m + 3) (bufsD c.bufs) ∧ froz (m + 3) (bufsD c.bufs) = bufsD c.bufs := by
  refine fz_tup (by rw [List.length_map]; have := k.nb; omega) fun d hd => ?_
  obtain ⟨b, hb, rfl⟩ := List.mem_map.mp hd
  refine fz_tup (by rw [List.length_map]; have := (k.buf b hb).1; omega) fun d hd => ?_
  obtain ⟨x, _, rfl⟩ := List.mem_map.mp hd
  exact ⟨fz_int, fr_int⟩
theorem procs_fz {c : Cm} {n ex ni : Nat} (hn : n ≤ 6) (k : c.ok n ex ni) : FzOk 21 (procsD c.procs) ∧ froz 21 (procsD c.procs) = procsD c.procs := by
  refine fz_tup (by rw [List.length_map]; have := k.np; omega) fun d hd => ?_
  obtain ⟨p, hp, rfl⟩ := List.mem_map.mp hd
  have hk := k.proc p hp
  refine fz_tup (by simp) fun d hd => ?_
  simp only [List.mem_cons, List.not_mem_nil, or_false] at hd
  rcases hd with rfl | rfl
  · exact ⟨fz_int, fr_int⟩
  · refine fz_tup (by rw [List.length_map]; have := hk.2.1; omega) fun d hd => ?_
    rw [← stsD_map] at hd
    exact stsd_fz p.2 n hk.2.2 18 (by omega) d hd


local macro_rules | `(tactic| walk_at "b1") => `(tactic| first
  | ((with_reducible refine' AV.aStrB.int ?k1 ?_); (case k1 => first | assumption | exact G.log_ok (by omega) (by omega)))
  | with_reducible refine AV.aStrB.str ?_
  | ((with_reducible refine' AV.aSplitO.d ?k1 ?k2 ?_); (case k1 => rfl); (case k2 => walk_at "sz")))

local macro_rules | `(tactic| walk_at "dsp_nE") => `(tactic| first
  | ((with_reducible refine' AV.s_fldex ?k1 ?k2 ?k3 ?k4 ?_); (case k1 => walk_at "ins"); (case k2 => first | assumption | walk_at "cls"); (case k3 => first | assumption | walk_at "cls"); (case k4 => walk_at "lk"))
  | ((with_reducible refine' AV.s_insex ?k1 ?k2 ?_); (case k1 => walk_at "ins"); (case k2 => walk_at "lk"))
  | with_reducible refine AV.s_exbl ?_
  | ((with_reducible refine' AV.s_fldSex ?k1 ?k2 ?k3 ?k4 ?k5 ?_); (case k1 => walk_at "at"); (case k2 => first | assumption | walk_at "cls"); (case k3 => first | assumption | walk_at "cls"); (case k4 => walk_at "sz"); (case k5 => walk_at "putr"))
  | with_reducible refine AV.s_exint ?_
  | ((with_reducible refine' AV.x_hasL ?k1 ?_); (case k1 => walk_at "at"))
  | ((with_reducible refine' AV.x_kd ?k1 ?_); (case k1 => rfl))
  | with_reducible refine AV.x_kin ?_
  | ((with_reducible refine' AV.x_dix ?k1 ?k2 ?_); (case k1 => walk_at "at"); (case k2 => walk_at "lk"))
  | ((with_reducible refine' AV.x_augS ?k1 ?k2 ?_); (case k1 => walk_at "at"); (case k2 => first | rfl | assumption))
  | ((with_reducible refine' AV.x_unl ?k1 ?k2 ?_); (case k1 => walk_at "ls"); (case k2 => rfl))
  | ((with_reducible refine' AV.x_star ?k1 ?_); (case k1 => walk_at "sq"))
  | with_reducible refine AV.x_wkz ?_
  | with_reducible refine AV.x_tz ?_
  | with_reducible refine AV.s_ent ?_
  | with_reducible refine AV.s_enl ?_
  | ((with_reducible refine' AV.s_fldAex1 ?k1 ?k2 ?k3 ?k4 ?_); (case k1 => walk_at "ins"); (case k2 => first | assumption | walk_at "cls"); (case k3 => first | assumption | walk_at "cls"); (case k4 => walk_at "lk"))
  | ((with_reducible refine' AV.s_fldAex2 ?k1 ?k4 ?k5 ?_); (case k1 => walk_at "at"); (case k4 => walk_at "sz"); (case k5 => walk_at "putr"))
  | ((with_reducible refine' AV.x_aug ?k1 ?_); (case k1 => rfl))
  | with_reducible refine AV.s_tbl ?_
  | with_reducible refine AV.s_tnon ?_
  | with_reducible refine AV.s_tint ?_
  | ((with_reducible refine' AV.s_tstr ?k1 ?_); (case k1 => walk_at "sz"))
  | with_reducible refine AV.s_tlst ?_
  | with_reducible refine AV.s_ttup ?_
  | ((with_reducible refine' AV.s_to ?k1 ?_); (case k1 => walk_at "at"))
  | with_reducible refine AV.s_itl ?_
  | with_reducible refine AV.s_itt ?_
  | with_reducible refine AV.s_its ?_
  | with_reducible refine AV.s_itc ?_
  | ((with_reducible refine' AV.s_r1x ?k1 ?_); (case k1 => first | assumption | omega | (simp only [List.length_map]; omega)))
  | ((with_reducible refine' AV.s_r2x ?k1 ?_); (case k1 => first | assumption | omega | (simp only [List.length_map]; omega)))
  | with_reducible refine AV.s_zipL ?_
  | with_reducible refine AV.s_zipT ?_
  | ((with_reducible refine' AV.s_raiseX ?k1 ?_); (case k1 => first | assumption | exact G.log_ok (by omega) (by omega)))
  | ((with_reducible refine' AV.s_jx ?k1 ?_); (case k1 => walk_at "sz"))
  | ((with_reducible refine' AV.x_gtup ?k1 ?_); (case k1 => rfl))
  | with_reducible refine AV.x_gcons ?_
  | ((with_reducible refine' AV.v_rev ?k1 ?_); (case k1 => walk_at "ls")))
local macro_rules | `(tactic| walk_at "dsp_nA") => `(tactic| first
  | ((with_reducible refine' AV.s_size ?k1 ?_); (case k1 => walk_at "sz"))
  | ((with_reducible refine' AV.s_isKL ?k1 ?_); (case k1 => walk_at "at"))
  | with_reducible refine AV.s_isKD ?_
  | with_reducible refine AV.s_isKS ?_
  | with_reducible refine AV.x_gnil ?_)
local macro_rules | `(tactic| walk_at "dsp_nQ") => `(tactic| first
  | with_reducible refine AV.aEq.int ?_
  | with_reducible refine AV.aEq.str ?_
  | with_reducible refine AV.aEq.bl ?_
  | with_reducible refine AV.aEq.nn ?_
  | with_reducible refine AV.aEq.ni ?_
  | with_reducible refine AV.aEq.in_ ?_
  | with_reducible refine AV.aEq.is_ ?_
  | with_reducible refine AV.aEq.si ?_)
local macro_rules | `(tactic| walk_at "dsp_nN") => `(tactic| first
  | with_reducible refine AV.aNe.int ?_
  | with_reducible refine AV.aNe.str ?_
  | with_reducible refine AV.aNe.bl ?_
  | with_reducible refine AV.aNe.nn ?_
  | with_reducible refine AV.aNe.ni ?_
  | with_reducible refine AV.aNe.in_ ?_)
local macro_rules | `(tactic| walk_at "dsp_nS") => `(tactic| first
  | with_reducible refine AV.aIs.nn ?_
  | with_reducible refine AV.aIs.int ?_
  | with_reducible refine AV.aIs.str ?_
  | with_reducible refine AV.aIs.bl ?_
  | with_reducible refine AV.aIs.r ?_
  | with_reducible refine AV.aIs.tup ?_
  | with_reducible refine AV.aIs.lst ?_
  | with_reducible refine AV.aIs.ins ?_)
local macro_rules | `(tactic| walk_at "dsp_nI") => `(tactic| walk_at "i1")
local macro_rules | `(tactic| walk_at "dsp_m1") => `(tactic| first
  | ((with_reducible refine' AV.aIx.seq ?k1 ?k2 ?_); (case k1 => walk_at "sq"); (case k2 => first | rfl | assumption))
  | ((with_reducible refine AV.Nx.of ?_); (try walk_at "st"))
  | with_reducible refine AV.NxV.of ?_
  | walk_at "dsp_nI"
  | ((with_reducible refine (?_ : And _ _)); walk_at "dsp_nA")
  | ((with_reducible refine' AV.v_i2 ?k1 ?_); (case k1 => first | exact trivial | decide | omega | exact Or.inr (by decide) | exact Or.inl (by decide) | exact ⟨by decide, by decide⟩ | exact ⟨by omega, by omega⟩ | exact ⟨by decide, by decide, by decide⟩ | (unfold L2.CMul; omega)))
  | ((with_reducible refine (?_ : AV.aEq _ _ _ _)); walk_at "dsp_nQ")
  | ((with_reducible refine' AV.aApp.mk ?k1 ?k2 ?_); (case k1 => walk_at "at"); (case k2 => walk_at "sz"))
  | with_reducible refine AV.aAdd.int ?_
  | ((with_reducible refine' AV.aLen.seq ?k1 ?_); (case k1 => walk_at "sq"))
  | ((with_reducible refine' AV.aLen.str ?k1 ?_); (case k1 => walk_at "sz"))
  | ((with_reducible refine' AV.s_set ?k1 ?k2 ?_); (case k1 => walk_at "at"); (case k2 => first | rfl | assumption))
  | ((with_reducible refine' AV.aIsi.kd ?k1 ?k2 ?_); (case k1 => walk_at "kd"); (case k2 => walk_at "kit"))
  | ((with_reducible refine' AV.aIsi.own ?k1 ?k2 ?_); (case k1 => walk_at "ins"); (case k2 => first | assumption | walk_at "cls"))
  | ((with_reducible refine (?_ : AV.aNe _ _ _ _)); walk_at "dsp_nN")
  | ((with_reducible refine (?_ : AV.aIs _ _ _ _)); walk_at "dsp_nS")
  | ((with_reducible refine' AV.aTupZ.mk ?k1 ?_); (case k1 => walk_at "ls"))
  | ((with_reducible refine' AV.aStrB.int ?k1 ?_); (case k1 => first | assumption | exact G.log_ok (by omega) (by omega)))
  | with_reducible refine AV.aStrB.str ?_
  | ((with_reducible refine' AV.aSplitO.d ?k1 ?k2 ?_); (case k1 => rfl); (case k2 => walk_at "sz"))
  | ((with_reducible refine' AV.x_dput ?k1 ?k2 ?k3 ?_); (case k1 => walk_at "at"); (case k2 => walk_at "sz"); (case k3 => walk_at "putr"))
  | ((with_reducible refine' AV.v_rep1 ?k1 ?_); (case k1 => exact ⟨by omega, by omega⟩))
  | ((with_reducible refine' AV.v_repO1 ?k1 ?_); (case k1 => exact ⟨by omega, by omega⟩))
  | with_reducible refine AV.s_jnil ?_
  | with_reducible refine AV.s_jcons ?_
  | with_reducible refine AV.v_isnot ?_
  | with_reducible refine AV.v_notin ?_
  | with_reducible refine AV.v_neg ?_
  | with_reducible refine AV.aMin.mk ?_
  | with_reducible refine AV.aMax.mk ?_
  | with_reducible refine AV.aIntC.int ?_
  | with_reducible refine AV.aIntC.bl ?_
  | ((with_reducible refine' AV.aIntC.str ?k1 ?k2 ?_); (case k1 => assumption); (case k2 => walk_at "sz"))
  | ((with_reducible refine' AV.aStrC.int ?k1 ?_); (case k1 => first | assumption | exact G.log_ok (by omega) (by omega)))
  | ((with_reducible refine' AV.aListC.d ?k1 ?_); (case k1 => walk_at "sq"))
  | ((with_reducible refine' AV.aListO.mk ?k1 ?_); (case k1 => walk_at "sq"))
  | ((with_reducible refine' AV.aTupC.mk ?k1 ?_); (case k1 => walk_at "sq"))
  | ((with_reducible refine' AV.aPop.mk ?k1 ?k2 ?_); (case k1 => walk_at "at"); (case k2 => first | rfl | assumption))
  | with_reducible refine AV.aStarts.mk ?_
  | ((with_reducible refine' AV.aAdd.str ?k1 ?_); (case k1 => walk_at "sz"))
  | ((with_reducible refine' AV.aAdd.lst ?k1 ?k2 ?k3 ?_); (case k1 => walk_at "ls"); (case k2 => walk_at "ls"); (case k3 => walk_at "sz"))
  | ((with_reducible refine' AV.aAddO.mk ?k1 ?k2 ?k3 ?_); (case k1 => walk_at "ls"); (case k2 => walk_at "ls"); (case k3 => walk_at "sz"))
  | ((with_reducible refine' AV.aAdd.tup ?k1 ?_); (case k1 => walk_at "sz"))
  | ((with_reducible refine' AV.aCutR.lst ?k1 ?_); (case k1 => walk_at "ls"))
  | ((with_reducible refine' AV.aCutO.mk ?k1 ?_); (case k1 => walk_at "ls"))
  | with_reducible refine AV.aCutR.tup ?_
  | ((with_reducible refine' AV.aCutR.str ?k1 ?_); (case k1 => walk_at "sz"))
  | with_reducible refine AV.aIn.sign ?_
  | ((with_reducible refine' AV.aIx.str ?k1 ?k2 ?_); (case k1 => walk_at "sz"); (case k2 => first | rfl | assumption))
  | ((with_reducible refine' AV.aSplit.d ?k1 ?k2 ?_); (case k1 => rfl); (case k2 => walk_at "sz"))
  | ((with_reducible refine' AV.s_fmtI ?k1 ?_); (case k1 => first | assumption | exact G.log_ok (by omega) (by omega)))
  | ((with_reducible refine' AV.s_fmtS ?k1 ?_); (case k1 => walk_at "sz"))
  | with_reducible refine AV.s_zm ?_)
local macro_rules | `(tactic| walk_at "dsp_m0") => `(tactic| first
  | ((with_reducible refine' AV.aIx.seq ?k1 ?k2 ?_); (case k1 => walk_at "sq"); (case k2 => first | rfl | assumption))
  | walk_at "dsp_nI"
  | ((with_reducible refine (?_ : And _ _)); walk_at "dsp_nA")
  | ((with_reducible refine' AV.v_i2 ?k1 ?_); (case k1 => first | exact trivial | decide | omega | exact Or.inr (by decide) | exact Or.inl (by decide) | exact ⟨by decide, by decide⟩ | exact ⟨by omega, by omega⟩ | exact ⟨by decide, by decide, by decide⟩ | (unfold L2.CMul; omega)))
  | ((with_reducible refine (?_ : AV.aEq _ _ _ _)); walk_at "dsp_nQ")
  | ((with_reducible refine' AV.aApp.mk ?k1 ?k2 ?_); (case k1 => walk_at "at"); (case k2 => walk_at "sz"))
  | with_reducible refine AV.aAdd.int ?_
  | ((with_reducible refine' AV.aLen.seq ?k1 ?_); (case k1 => walk_at "sq"))
  | ((with_reducible refine' AV.aLen.str ?k1 ?_); (case k1 => walk_at "sz"))
  | ((with_reducible refine' AV.s_set ?k1 ?k2 ?_); (case k1 => walk_at "at"); (case k2 => first | rfl | assumption))
  | ((with_reducible refine' AV.aIsi.kd ?k1 ?k2 ?_); (case k1 => walk_at "kd"); (case k2 => walk_at "kit"))
  | ((with_reducible refine' AV.aIsi.own ?k1 ?k2 ?_); (case k1 => walk_at "ins"); (case k2 => first | assumption | walk_at "cls"))
  | ((with_reducible refine (?_ : AV.aNe _ _ _ _)); walk_at "dsp_nN")
  | ((with_reducible refine (?_ : AV.aIs _ _ _ _)); walk_at "dsp_nS")
  | ((with_reducible refine' AV.aTupZ.mk ?k1 ?_); (case k1 => walk_at "ls"))
  | ((with_reducible refine' AV.aStrB.int ?k1 ?_); (case k1 => first | assumption | exact G.log_ok (by omega) (by omega)))
  | with_reducible refine AV.aStrB.str ?_
  | ((with_reducible refine' AV.aSplitO.d ?k1 ?k2 ?_); (case k1 => rfl); (case k2 => walk_at "sz"))
  | ((with_reducible refine' AV.x_dput ?k1 ?k2 ?k3 ?_); (case k1 => walk_at "at"); (case k2 => walk_at "sz"); (case k3 => walk_at "putr"))
  | ((with_reducible refine' AV.v_rep1 ?k1 ?_); (case k1 => exact ⟨by omega, by omega⟩))
  | ((with_reducible refine' AV.v_repO1 ?k1 ?_); (case k1 => exact ⟨by omega, by omega⟩))
  | with_reducible refine AV.s_jnil ?_
  | with_reducible refine AV.s_jcons ?_
  | with_reducible refine AV.v_isnot ?_
  | with_reducible refine AV.v_notin ?_
  | with_reducible refine AV.v_neg ?_
  | with_reducible refine AV.aMin.mk ?_
  | with_reducible refine AV.aMax.mk ?_
  | with_reducible refine AV.aIntC.int ?_
  | with_reducible refine AV.aIntC.bl ?_
  | ((with_reducible refine' AV.aIntC.str ?k1 ?k2 ?_); (case k1 => assumption); (case k2 => walk_at "sz"))
  | ((with_reducible refine' AV.aStrC.int ?k1 ?_); (case k1 => first | assumption | exact G.log_ok (by omega) (by omega)))
  | ((with_reducible refine' AV.aListC.d ?k1 ?_); (case k1 => walk_at "sq"))
  | ((with_reducible refine' AV.aListO.mk ?k1 ?_); (case k1 => walk_at "sq"))
  | ((with_reducible refine' AV.aTupC.mk ?k1 ?_); (case k1 => walk_at "sq"))
  | ((with_reducible refine' AV.aPop.mk ?k1 ?k2 ?_); (case k1 => walk_at "at"); (case k2 => first | rfl | assumption))
  | with_reducible refine AV.aStarts.mk ?_
  | ((with_reducible refine' AV.aAdd.str ?k1 ?_); (case k1 => walk_at "sz"))
  | ((with_reducible refine' AV.aAdd.lst ?k1 ?k2 ?k3 ?_); (case k1 => walk_at "ls"); (case k2 => walk_at "ls"); (case k3 => walk_at "sz"))
  | ((with_reducible refine' AV.aAddO.mk ?k1 ?k2 ?k3 ?_); (case k1 => walk_at "ls"); (case k2 => walk_at "ls"); (case k3 => walk_at "sz"))
  | ((with_reducible refine' AV.aAdd.tup ?k1 ?_); (case k1 => walk_at "sz"))
  | ((with_reducible refine' AV.aCutR.lst ?k1 ?_); (case k1 => walk_at "ls"))
  | ((with_reducible refine' AV.aCutO.mk ?k1 ?_); (case k1 => walk_at "ls"))
  | with_reducible refine AV.aCutR.tup ?_
  | ((with_reducible refine' AV.aCutR.str ?k1 ?_); (case k1 => walk_at "sz"))
  | with_reducible refine AV.aIn.sign ?_
  | ((with_reducible refine' AV.aIx.str ?k1 ?k2 ?_); (case k1 => walk_at "sz"); (case k2 => first | rfl | assumption))
  | ((with_reducible refine' AV.aSplit.d ?k1 ?k2 ?_); (case k1 => rfl); (case k2 => walk_at "sz"))
  | ((with_reducible refine' AV.s_fmtI ?k1 ?_); (case k1 => first | assumption | exact G.log_ok (by omega) (by omega)))
  | ((with_reducible refine' AV.s_fmtS ?k1 ?_); (case k1 => walk_at "sz"))
  | with_reducible refine AV.s_zm ?_)
local macro_rules | `(tactic| walk_at "dsp_n1") => `(tactic| first
  | ((with_reducible refine' AV.x_var ?k1 ?_); (case k1 => rfl))
  | ((with_reducible refine (?_ : Exists _)); walk_at "dsp_nE")
  | ((fail_if_success (with_reducible refine (?_ : Exists _))); walk_at "dsp_m1"))
local macro_rules | `(tactic| walk_at "dsp_n0") => `(tactic| first
  | ((with_reducible refine' AV.x_var ?k1 ?_); (case k1 => rfl))
  | ((with_reducible refine (?_ : Exists _)); walk_at "dsp_nE")
  | ((fail_if_success (with_reducible refine (?_ : Exists _))); walk_at "dsp_m0"))
local macro_rules | `(tactic| walk_at "rd") => `(tactic| (walk_at "wh"; repeat (walk_at "dsp_n1"; walk_at "wh")))
local macro_rules | `(tactic| walk_at "r0") => `(tactic| (walk_at "wh"; repeat (walk_at "dsp_n0"; walk_at "wh")))
local macro_rules | `(tactic| walk_at "re") => `(tactic| (walk_at "wh"; repeat ((first | walk_at "dsp_n0" | ((with_reducible refine AV.Nx.of ?_); (try walk_at "st"))); walk_at "wh")))

/-! ### lists of words, read and written again -/
theorem join_len1 : ∀ ws : List Str, (Str.join " " ws).length ≤ (ws.map (·.length)).sum + ws.length
  | [] => Nat.zero_le _
  | [x] => by show x.length ≤ _; simp
  | x :: y :: r => by
    have ih := join_len1 (y :: r)
    have e : Str.join " " (x :: y :: r) = x ++ " " ++ Str.join " " (y :: r) := rfl
    have e1 : (" " : Str).length = 1 := by decide +kernel
    rw [e, G.slen_app, G.slen_app, e1]
    simp only [List.map_cons, List.sum_cons, List.length_cons] at ih ⊢
    omega
theorem split_ws {ws : List Str} (h0 : ws ≠ []) (h : ∀ z ∈ ws, 32 ∉ tl z) : Txt.split (Txt.join " " ws) " " = ws := split_join (y := " ") (show tl (" " : Str) = 32 :: [] by decide +kernel) (by decide +kernel) h0 h
theorem parts_join {ws : List Str} (h : ∀ z ∈ ws, 32 ∉ tl z) (h1 : ws ≠ [("" : Str)]) : parts (Txt.join " " ws) = ws := by
  by_cases h0 : ws = []
  · subst h0
    unfold parts
    rw [if_pos (by decide +kernel)]
  have e := split_ws h0 h
  unfold parts
  rw [if_neg fun q => ?_, e]
  rw [q] at e
  have : Txt.split ("" : Str) " " = [("" : Str)] := by decide +kernel
  rw [this] at e
  exact h1 e.symm
/-- words of a text -/
def LWs (ws : List Str) : Prop := ws.length ≤ 4000 ∧ (∀ z ∈ ws, z.length ≤ 100 ∧ 32 ∉ tl z) ∧ ws ≠ [("" : Str)]
theorem LWs.sum {ws : List Str} (h : LWs ws) : (ws.map (·.length)).sum ≤ 400000 := by
  have h2 : ∀ l : List Str, (∀ z ∈ l, z.length ≤ 100) → (l.map (·.length)).sum ≤ 100 * l.length := fun l => by
    induction l with
    | nil => intro _; exact Nat.le_refl _
    | cons z l ih =>
      intro h
      rw [List.map_cons, List.sum_cons, List.length_cons]
      have := h z List.mem_cons_self
      have := ih fun y hy => h y (List.mem_cons_of_mem _ hy)
      omega
  have := h2 ws fun z hz => (h.2.1 z hz).1
  have := h.1
  omega
theorem LWs.join {ws : List Str} (h : LWs ws) : (Txt.join " " ws).length ≤ 10000000 := by
  rw [join_eq]
  have := join_len1 ws
  have := h.sum
  have := h.1
  omega
theorem LWs.joinz {ws : List Str} (h : LWs ws) : (ws.map (·.length)).sum + ws.length * (" " : Str).length ≤ 16777216 := by
  have e1 : (" " : Str).length = 1 := by decide +kernel
  rw [e1]
  have := h.sum
  have := h.1
  omega
theorem LWs.parts {ws : List Str} (h : LWs ws) : L.parts (Txt.join " " ws) = ws := parts_join (fun z hz => (h.2.1 z hz).2) h.2.2
theorem LWs.ok {ws : List Str} (h : LWs ws) : WsOk ws := ⟨by have := h.1; omega, fun z hz => Nat.le_trans (h.2.1 z hz).1 (by decide)⟩
/-- a component as read is a component -/
theorem cmD_eq (C : Cs) {c : Cm} {e ni : Nat} (k : c.ok 6 e ni) : cmD C c = .ins C.Component [("room", natD c.room), ("buffers", bufsD c.bufs), ("procedures", procsD c.procs)] := by
  have hp : c.procs.map procR = c.procs.map procD := by
    refine List.map_congr_left fun p _ => ?_
    show D.tup [natD p.1, .tup (stsD p.2)] = D.tup [natD p.1, .tup (p.2.map St.d)]
    rw [stsD_map]
  have h2 : froz 21 (.lst (c.procs.map procR)) = procsD c.procs := by
    rw [hp]
    exact (procs_fz (by decide) k).2
  have h1 : froz 21 (bufsL c.bufs) = bufsD c.bufs := by
    show D.tup ((c.bufs.map bufL).map (froz 20)) = .tup (c.bufs.map bufD)
    congr 1
    rw [List.map_map]
    refine List.map_congr_left fun b _ => ?_
    show D.tup ((b.map natD).map (froz 19)) = .tup (b.map natD)
    congr 1
    rw [List.map_map]
    refine List.map_congr_left fun n _ => ?_
    exact fr_int
  show D.ins C.Component [("room", natD c.room), ("buffers", froz 21 (bufsL c.bufs)), ("procedures", froz 21 (.lst (c.procs.map procR)))] = _
  rw [h1, h2]
/-- what the law's reading tells -/
def lrD (ws : List Str) (ni : Nat) : D := match wrongA ws ni with
  | none => .tup [.str "read", .str (Txt.join " " ws)]
  | some i => .tup [.str "refused", natD i, .bl true]
def sp_lread : ASp := fun ds M Q _ => ∃ (ws : List Str) (ni : Nat), ds = [.lst (ws.map D.str), natD ni] ∧ LWs ws ∧ ni ≤ 1000 ∧ Q (lrD ws ni) M
section
variable {P : Program} {w : World} {K : PySem.W.Frag} {mg : Str → Option Value} {base : Heap} {C : Cs}
theorem ok_l_read (T : Top K mg) (Z : Txt K mg C) : Cal P w K mg base CX0 35 "_law_read" ["words", "imports"] (conSp K sp_lread) := by
  refine def_A T.f_l_read sc_l_read (fun _ _ _ _ _ _ us hl => match us, hl with | [_, _], _ => rfl) (fun ds M Q E h => ?_) (fun f cdv Ar outer s H E ds M Q EX hr h => ?_)
  · obtain ⟨ws, ni, rfl, _⟩ := h
    rfl
  · obtain ⟨ws, ni, rfl, hw, hni, k⟩ := h
    refine ⟨_, (as_one (as_tryG (K := K) (i := 2) rfl rfl sc_l_read.nd rfl rfl ⟨rfl, by decide, Or.inl Z.n_BadText⟩ takesN
  (fun W A pn xe tk _ =>
  (as_one (as_ret (ps_ret (a_tup (aa_cons a_str (aa_cons (a_call (g_call (ok_component_text T Z) (hr.mono (by decide)) (by rfl) pass0 (aa_cons (a_callX (g_callX (ok_read_component T Z) (hr.mono (by decide)) (by rfl) tk (aa_cons (a_bm o_join (pe_bm PySem.F.plainAttrs_str PySem.F.slot_str_join PySem.F.type_str_join (g_join (K := K)) a_str (aa_cons (a_var (pv 0)) aa_nil))) (aa_cons (a_var (pv 1)) aa_nil)))) aa_nil))) aa_nil)))))))
  (fun a oe CC dd pn hz hf =>
  (as_one (as_ret (ps_ret (a_tup (aa_cons a_str (aa_cons (a_xf (pe_xfE (L2N.Zn.zc hz) hf rfl (a_var (pv 2)))) (aa_cons (a_callB ⟨call_isE' (L2N.Zn.zc hz) hf rfl, isE_op⟩ (by rfl) T.b_isinstance (by decide +kernel) (aa_cons (a_var (pv 2)) (aa_cons (a_c (pe_glob (v := .ref C.BlameError) rfl Z.n_BlameError rfl) (fun _ => .r _)) aa_nil))) aa_nil)))))))))), ?_⟩
    have hp := hw.parts
    have rr := readC_rel (ws := ws) (ni := ni)
    unfold lrD at k
    cases hF : readC ws ni with
    | inl i =>
      rw [hF] at rr
      rw [show wrongA ws ni = some i from rr] at k
      refine s_try ?_
      walk_at "rd"
      refine aJoin.mk .d hw.joinz ?_
      walk_at "rd"
      refine ⟨_, _, rfl, hw.join, by rw [hp]; exact hw.ok, fun j hj M' hg => ?_, fun c hc => (by rw [hp, hF] at hc; cases hc)⟩
      rw [hp, hF] at hj
      cases hj
      refine s_caught Z.x_BadText_BadText fun a dd => ?_
      have ek := Z.e_BadText
      walk_at "rd"
      refine ⟨_, _, _, rfl, Z.e_BadText, Z.a_BadText_at, .hd, rfl, ?_⟩
      walk_at "rd"
      refine v_isEown Z.q_BadText_BlameError Z.e_BadText .hd ?_
      walk_at "re"
      exact .fz (Gone.hd hg _) k
    | inr c =>
      rw [hF] at rr
      rw [show wrongA ws ni = none from rr.1] at k
      obtain ⟨ok, _⟩ := readC_ok hw.1 hF
      refine s_try ?_
      walk_at "rd"
      refine aJoin.mk .d hw.joinz ?_
      walk_at "rd"
      refine ⟨_, _, rfl, hw.join, by rw [hp]; exact hw.ok, fun j hj M' _ => (by rw [hp, hF] at hj; cases hj), fun c2 hc => ?_⟩
      rw [hp, hF] at hc
      cases hc
      rw [cmD_eq C ok]
      walk_at "rd"
      refine ⟨c, 0, ni, rfl, ok, hni, by rw [rr.2]; have := hw.1; omega, by rw [rr.2]; exact hw.joinz, ?_⟩
      rw [rr.2]
      walk_at "rd"
      exact k
end


/-! ### feeding words -/
def feed : List Str → List It → Sc → Option (List It × Sc)
  | [], σ, sc => some (σ, sc)
  | _ :: _, [], _ => none
  | z :: zs, t :: σ, sc => match nextA sc z t with
    | none => none
    | some (l, sc') => feed zs (l ++ σ) sc'
theorem feed_app : ∀ {a b : List Str} {σ σ' : List It} {sc sc' : Sc}, feed a σ sc = some (σ', sc') → feed (a ++ b) σ sc = feed b σ' sc'
  | [], b, σ, σ', sc, sc', h => by cases h; rfl
  | z :: a, b, [], σ', sc, sc', h => by cases h
  | z :: a, b, t :: σ, σ', sc, sc', h => by
    rw [feed] at h
    rw [List.cons_append, feed]
    cases e : nextA sc z t with
    | none => rw [e] at h; cases h
    | some p =>
      obtain ⟨l, s2⟩ := p
      rw [e] at h
      exact feed_app h
theorem resA_app : ∀ {a b : List Str} {i : Nat} {σ σ' : List It} {sc sc' : Sc}, feed a σ sc = some (σ', sc') → resA (a ++ b) i σ sc = resA b (i + a.length) σ' sc'
  | [], b, i, σ, σ', sc, sc', h => by cases h; rfl
  | z :: a, b, i, [], σ', sc, sc', h => by cases h
  | z :: a, b, i, t :: σ, σ', sc, sc', h => by
    rw [feed] at h
    rw [List.cons_append, resA]
    cases e : nextA sc z t with
    | none => rw [e] at h; cases h
    | some p =>
      obtain ⟨l, s2⟩ := p
      rw [e] at h
      dsimp only
      rw [resA_app h, List.length_cons]
      congr 1
      omega
theorem resA_bad {zs : List Str} {z : Str} {i : Nat} {t : It} {σ : List It} {sc : Sc} (e : nextA sc z t = none) : resA (z :: zs) i (t :: σ) sc = some i := by
  rw [resA, e]
theorem resA_end {i : Nat} {sc : Sc} (h : sc.left = 0) : resA [] i [.head] sc = none := by
  rw [resA, if_pos ⟨rfl, h⟩]
/-- a frame below -/
theorem feed_on : ∀ {a : List Str} {σ σ' ρ : List It} {sc sc' : Sc}, feed a σ sc = some (σ', sc') → feed a (σ ++ ρ) sc = some (σ' ++ ρ, sc')
  | [], σ, σ', ρ, sc, sc', h => by cases h; rfl
  | z :: a, [], σ', ρ, sc, sc', h => by cases h
  | z :: a, t :: σ, σ', ρ, sc, sc', h => by
    rw [feed] at h
    rw [List.cons_append, feed]
    cases e : nextA sc z t with
    | none => rw [e] at h; cases h
    | some p =>
      obtain ⟨l, s2⟩ := p
      rw [e] at h
      dsimp only
      rw [← List.append_assoc]
      exact feed_on h
theorem resA_feed {ws : List Str} {i : Nat} {σ : List It} {sc sc' : Sc} (h : feed ws σ sc = some ([.head], sc')) (h0 : sc'.left = 0) : resA ws i σ sc = none := by
  have := resA_app (b := []) (i := i) h
  rw [List.append_nil] at this
  rw [this, resA_end h0]
/-- a number as written is read -/
theorem numL_digs : ∀ n : Nat, NumText.AllDigits (numL n) ∧ NumText.digitsVal (numL n) = n := by
  intro n
  induction n using Nat.strongRecOn with
  | _ n ih =>
    by_cases h : n < 10
    · rw [numL_lt h]
      refine ⟨fun d hd => ?_, ?_⟩
      · rw [List.mem_singleton.mp hd]; omega
      · show 0 * 10 + (48 + n - 48) = n
        omega
    · rw [numL_step (by omega)]
      obtain ⟨h1, h2⟩ := ih (n / 10) (by omega)
      refine ⟨fun d hd => ?_, ?_⟩
      · rcases List.mem_append.mp hd with q | q
        · exact h1 d q
        · rw [List.mem_singleton.mp q]; omega
      · rw [val_snoc, h2]
        omega
theorem nof_num {n : Nat} (h : n < 65536) : nof (numS n) = some n := by
  have e : tl (numS n) = numL n := tl_num n
  obtain ⟨h1, h2⟩ := numL_digs n
  unfold nof
  rw [e, h2, if_pos ⟨(digs_iff _).mpr h1, rfl, by omega⟩]
theorem inN_num {n lo hi : Nat} (h : n < 65536) : inN (numS n) lo hi = if lo ≤ n ∧ n ≤ hi then some n else none := by
  unfold inN
  rw [nof_num h]
theorem nof_lit {z : Str} {n : Nat} (e : z = numS n) (h : n < 65536) : nof z = some n := by rw [e, nof_num h]

/-! ### weights of texts -/
def Ex.wt : Ex → Nat
  | .num _ => 0
  | .loc _ => 0
  | .get _ e => 1 + e.wt
  | .op _ a b => 1 + a.wt + b.wt
mutual
def St.wt : St → Nat
  | .set _ e => 1 + e.wt
  | .put _ i e => 1 + i.wt + e.wt
  | .call _ _ e => 1 + e.wt
  | .use _ _ e => 1 + e.wt
  | .ifs t a b => 1 + t.wt + stsWt a + stsWt b
  | .wh t a => 1 + t.wt + stsWt a
  | .ret e => 1 + e.wt
def stsWt : List St → Nat
  | [] => 0
  | x :: xs => x.wt + stsWt xs
end
theorem stsWt_app {ys : List St} : ∀ xs : List St, stsWt (xs ++ ys) = stsWt xs + stsWt ys
  | [] => by simp [stsWt]
  | x :: xs => by rw [List.cons_append, stsWt, stsWt, stsWt_app xs]; omega

/-! ### what is written is read -/
def Rst.adv (s : Rst) (k : Nat) : Rst := { s with at_ := s.at_ + k }
theorem adv_adv {s : Rst} {a b : Nat} : (s.adv a).adv b = s.adv (a + b) := by
  unfold Rst.adv
  dsimp only
  rw [Nat.add_assoc]
theorem adv_zero {s : Rst} : s.adv 0 = s := rfl
theorem shR_adv {s : Rst} {k : Nat} : shR (s.adv k) = shR s := rfl
theorem drop_cons {ws r : List Str} {i : Nat} {z : Str} (h : ws.drop i = z :: r) : ws[i]? = some z ∧ ws.drop (i + 1) = r := by
  have hi : i < ws.length := by
    by_cases q : i < ws.length
    · exact q
    · rw [List.drop_eq_nil_of_le (by omega)] at h; cases h
  rw [List.drop_eq_getElem_cons hi] at h
  injection h with h1 h2
  exact ⟨by rw [List.getElem?_eq_getElem hi, h1], h2⟩
theorem drop_app {ws a r : List Str} {i : Nat} (h : ws.drop i = a ++ r) : ws.drop (i + a.length) = r := by
  rw [← List.drop_drop, h, List.drop_left]
theorem empty_str {x : Str} : Str.empty ++ x = x := ext_tl (by rw [tl_append]; rfl)
theorem numL_head (n : Nat) : ∃ c r, numL n = c :: r ∧ 48 ≤ c ∧ c ≤ 57 := by
  have h := (numL_digs n).1
  cases e : numL n with
  | nil => exact absurd e (numL_ne _)
  | cons c r => exact ⟨c, r, rfl, h c (by rw [e]; exact List.mem_cons_self)⟩
theorem num_head48 {n : Nat} : ∃ c r, tl (numS n) = c :: r ∧ 48 ≤ c ∧ c ≤ 57 := by
  obtain ⟨c, r, h1, h2⟩ := numL_head n
  exact ⟨c, r, (tl_num n).trans h1, h2⟩
theorem head_op {z : Str} (h : z ∈ opsL) : ∀ c r, tl z = c :: r → ¬ (48 ≤ c ∧ c ≤ 57) ∧ c ≠ 108 := by
  simp only [opsL, List.mem_cons, List.not_mem_nil, or_false] at h
  intro c r hz
  have : ∀ z ∈ opsL, ∀ c ∈ (tl z).head?, ¬ (48 ≤ c ∧ c ≤ 57) ∧ c ≠ 108 := by decide +kernel
  refine this z ?_ c ?_
  · simp only [opsL, List.mem_cons, List.not_mem_nil, or_false]; exact h
  · rw [hz]; rfl
theorem num_no {n : Nat} : numS n ∉ opsL ∧ numS n ≠ "get" ∧ Txt.startswith (numS n) "l" = false := by
  obtain ⟨c, r, h1, h2, h3⟩ := num_head48 (n := n)
  refine ⟨fun h => (head_op h c r h1).1 ⟨h2, h3⟩, fun h => ?_, ?_⟩
  · rw [h] at h1
    have : tl ("get" : Str) = [103, 101, 116] := by decide +kernel
    rw [this] at h1
    injection h1 with h1
    omega
  · cases q : Txt.startswith (numS n) "l" with
    | false => rfl
    | true =>
      obtain ⟨r2, hr⟩ := starts_tl q
      have : tl ("l" : Str) = [108] := by decide +kernel
      rw [this, h1] at hr
      injection hr with hr
      omega
theorem letS_eq {c : Str} {n : Nat} : letS c n = c ++ numS n := by
  unfold letS
  rw [empty_str]
  rfl
theorem starts_let {c : Str} {n : Nat} : Txt.startswith (letS c n) c = true := by
  rw [letS_eq]
  unfold PySem.Txt.startswith
  have e : (c ++ numS n).cps.toList = tl c ++ tl (numS n) := tl_append c (numS n)
  have lc : c.cps.toList.length = c.length := Array.length_toList
  rw [StrLaws.subAt_eq, List.drop_zero, e, List.take_append_of_le_length (by show _ ≤ c.cps.toList.length; omega), List.take_of_length_le (by show c.cps.toList.length ≤ _; omega), Bool.and_eq_true]
  refine ⟨decide_eq_true ?_, beq_self_eq_true _⟩
  rw [G.slen_app]
  omega
theorem nameOf_let {c : Str} {n : Nat} (hc : One c) (h : n < 65536) : nameOf c (letS c n) = some n := by
  obtain ⟨k, hk⟩ := hc
  unfold nameOf
  rw [if_pos starts_let]
  have e : cutS (letS c n) (some 1) none = numS n := ext_tl (by rw [cut_one, letS_eq, tl_append, hk]; rfl)
  rw [e, nof_num h]
theorem let_no {n : Nat} : letS "l" n ∉ opsL ∧ letS "l" n ≠ "get" := by
  have h1 : tl (letS "l" n) = 108 :: tl (numS n) := by rw [letS_eq, tl_append]; rfl
  refine ⟨fun h => (head_op h 108 _ h1).2 rfl, fun h => ?_⟩
  rw [h] at h1
  have : tl ("get" : Str) = [103, 101, 116] := by decide +kernel
  rw [this] at h1
  injection h1 with h1
  omega
theorem op_no {z : Str} (h : z ∈ opsL) : z ≠ "get" := by
  have : ∀ z ∈ opsL, z ≠ ("get" : Str) := by decide +kernel
  exact this z h
theorem nameW_read {ws r : List Str} {c : Str} {m n : Nat} {s : Rst} (hc : One c) (hn : n < 65536) (hm : n < m) (h : ws.drop s.at_ = letS c n :: r) : nameW ws c m s = .inr (n, s.adv 1) := by
  obtain ⟨h1, h2⟩ := drop_cons h
  unfold nameW
  rw [h1]
  dsimp only
  rw [nameOf_let hc hn]
  dsimp only
  rw [if_pos hm]
  rfl
theorem numW_read {ws r : List Str} {lo hi n : Nat} {s : Rst} (hn : n < 65536) (hm : lo ≤ n ∧ n ≤ hi) (h : ws.drop s.at_ = numS n :: r) : numW ws lo hi s = .inr (n, s.adv 1) := by
  obtain ⟨h1, h2⟩ := drop_cons h
  unfold numW numW.numAt'
  rw [h1]
  dsimp only
  rw [nof_num hn]
  dsimp only
  rw [if_pos hm]
  rfl
theorem exactW_read {ws r : List Str} {y : Str} {s : Rst} (h : ws.drop s.at_ = y :: r) : exactW ws y s = .inr ((), s.adv 1) := by
  obtain ⟨h1, h2⟩ := drop_cons h
  unfold exactW
  rw [h1, if_pos rfl]
  rfl
/-- the counts are small -/
def Sml (h : Sh) : Prop := h.nl ≤ 60000 ∧ h.nb ≤ 60000 ∧ h.np ≤ 60000 ∧ h.ni ≤ 60000
theorem expW_read {ws : List Str} : ∀ (e : Ex) (d : Nat) (s : Rst) (r : List Str), Sml (shR s) → e.okd (shR s) d → ws.drop s.at_ = e.ws ++ r → expW ws d s = .inr (e, s.adv e.ws.length)
  | e, 0, s, r, _, ok, _ => by have := ok.2; have := e.dep_pos; omega
  | .num n, d + 1, s, r, hs, ok, h => by
    have hn : n < 65536 := ok.1
    rw [Ex.ws] at h
    obtain ⟨h1, h2⟩ := drop_cons h
    obtain ⟨n1, n2, n3⟩ := num_no (n := n)
    rw [expW, h1]
    dsimp only
    rw [if_neg fun q => n1 q.2, if_neg fun q => n2 q.2.1, if_neg (by rw [n3]; decide), numW_read hn ⟨by omega, by omega⟩ h]
    rfl
  | .loc n, d + 1, s, r, hs, ok, h => by
    have hn : n < s.lc := ok.1
    have hl : s.lc ≤ 60000 := hs.1
    rw [Ex.ws] at h
    obtain ⟨h1, h2⟩ := drop_cons h
    obtain ⟨n1, n2⟩ := let_no (n := n)
    rw [expW, h1]
    dsimp only
    rw [if_neg fun q => n1 q.2, if_neg fun q => n2 q.2.1, if_pos starts_let, nameW_read one_l (by omega) hn h]
    rfl
  | .get b e, d + 1, s, r, hs, ok, h => by
    have hb : b < s.bc := ok.1.1
    have hl : s.bc ≤ 60000 := hs.2.1
    have hd : e.dep ≤ d := by have := ok.2; rw [Ex.dep] at this; omega
    have hp := e.dep_pos
    rw [Ex.ws] at h ⊢
    obtain ⟨h1, h2⟩ := drop_cons h
    have h3 := drop_cons h2
    rw [expW, h1]
    dsimp only
    rw [if_neg fun q => op_no q.2 rfl, if_pos ⟨by omega, rfl, by omega⟩, nameW_read (s := s.step) one_b (by omega) hb h2, bindR_go, expW_read e d ((s.step).adv 1) r hs ⟨ok.1.2, hd⟩ h3.2]
    show Sum.inr (Ex.get b e, _) = Sum.inr (Ex.get b e, _)
    rw [List.length_cons, List.length_cons]
    congr 2
    unfold Rst.adv Rst.step
    simp only [Rst.mk.injEq, and_true, true_and]
    omega
  | .op z a b, d + 1, s, r, hs, ok, h => by
    have hd : max a.dep b.dep + 1 ≤ d + 1 := ok.2
    have hp := a.dep_pos
    rw [Ex.ws] at h ⊢
    have h : ws.drop s.at_ = z :: (a.ws ++ (b.ws ++ r)) := by rw [h]; simp
    obtain ⟨h1, h2⟩ := drop_cons h
    have h3 := drop_app h2
    rw [expW, h1]
    dsimp only
    rw [if_pos ⟨by omega, ok.1.1⟩, expW_read a d s.step _ hs ⟨ok.1.2.1, by omega⟩ h2, bindR_go, expW_read b d ((s.step).adv a.ws.length) r hs ⟨ok.1.2.2, by omega⟩ h3]
    show Sum.inr (Ex.op z a b, _) = Sum.inr (Ex.op z a b, _)
    rw [List.length_cons, List.length_append]
    congr 2
    unfold Rst.adv Rst.step
    simp only [Rst.mk.injEq, and_true, true_and]
    omega
theorem St.ws_head (x : St) : ∃ z r, x.ws = z :: r ∧ z ∈ ([("set" : Str), "put", "call", "use", "if", "while", "return"] : List Str) := by
  cases x <;> (rw [St.ws]; exact ⟨_, _, rfl, by decide +kernel⟩)
/-- a reader of blocks that reads what is written -/
def BlkRead (ws : List Str) (n : Nat) (blk : Rst → Nat ⊕ (List St × Rst)) : Prop := ∀ (xs : List St) (s : Rst) (z : Str) (r : List Str), Sml (shR s) → stsOk (shR s) xs n → ws.drop s.at_ = stsWs xs ++ z :: r → (z = "end" ∨ z = "else") → blk s = .inr (xs, s.adv (stsWs xs).length)
theorem callW_read {ws r : List Str} {c : Str} {m l n : Nat} {e : Ex} {s : Rst} (hs : Sml (shR s)) (hc : One c) (hl : l < s.lc) (hn : n < m) (hm : m ≤ 60000) (he : e.okd (shR s) 4) (h : ws.drop s.at_ = letS "l" l :: letS c n :: (e.ws ++ r)) : callW ws c m s = .inr ((l, n, e), s.adv (2 + e.ws.length)) := by
  have hl2 : s.lc ≤ 60000 := hs.1
  have h2 := (drop_cons h).2
  have h3 := (drop_cons h2).2
  unfold callW
  rw [nameW_read one_l (by omega) hl h, bindR_go, nameW_read (s := s.adv 1) hc (by omega) hn h2, bindR_go, adv_adv, expW_read e 4 (s.adv 2) r hs he h3, bindR_go, adv_adv]
theorem end_fits {n : Nat} {s : Rst} {z : Str} (h : z = "end" ∨ z = "else") : fitsW n s z = false := by
  cases q : fitsW n s z with
  | false => rfl
  | true =>
    obtain ⟨a, b⟩ := fits_no q
    rcases h with h | h
    · exact absurd h a
    · exact absurd h b
theorem adv_succ {s : Rst} {k : Nat} : s.step.adv k = s.adv (k + 1) := by
  unfold Rst.adv Rst.step
  simp only [Rst.mk.injEq, and_true, true_and]
  omega
theorem stmtW_read {ws : List Str} {n : Nat} (hb : ∀ m, n = m + 1 → BlkRead ws m (nestW ws n)) (x : St) (s : Rst) (r : List Str) (hs : Sml (shR s)) (ok : x.ok (shR s) n) (h : ws.drop s.at_ = x.ws ++ r) :
    ∃ z, ws[s.at_]? = some z ∧ fitsW n s z = true ∧ stmtW ws (nestW ws n) z s.step = .inr (x, s.adv x.ws.length) := by
  have hlc : s.step.lc ≤ 60000 := hs.1
  have hbc : s.step.bc ≤ 60000 := hs.2.1
  have hpc : s.step.pc ≤ 60000 := hs.2.2.1
  have hic : s.step.ic ≤ 60000 := hs.2.2.2
  cases x with
  | set l e =>
    have o1 : l < s.step.lc := ok.1
    have o2 := ok.2
    rw [St.ws] at h ⊢
    obtain ⟨h1, h2⟩ := drop_cons h
    have h3 := (drop_cons h2).2
    refine ⟨_, h1, by unfold fitsW; rw [if_neg (by decide +kernel), if_neg (by decide +kernel), if_neg (by decide +kernel)]; decide +kernel, ?_⟩
    unfold stmtW
    rw [if_pos rfl, nameW_read (s := s.step) one_l (by omega) o1 h2, bindR_go, expW_read e 4 (s.step.adv 1) r hs o2 h3, bindR_go, adv_adv, adv_succ, List.length_cons, List.length_cons]
    congr 3
    omega
  | put b i e =>
    have o1 : b < s.step.bc := ok.1
    rw [St.ws] at h ⊢
    have h : ws.drop s.at_ = ("put" : Str) :: letS "b" b :: (i.ws ++ (e.ws ++ r)) := by rw [h]; simp
    obtain ⟨h1, h2⟩ := drop_cons h
    have h3 := (drop_cons h2).2
    have h4 := drop_app h3
    refine ⟨_, h1, by unfold fitsW; rw [if_pos rfl]; exact decide_eq_true (Nat.lt_of_le_of_lt (Nat.zero_le b) o1), ?_⟩
    unfold stmtW
    rw [if_neg (by decide +kernel), if_pos rfl, nameW_read (s := s.step) one_b (by omega) o1 h2, bindR_go, expW_read i 4 (s.step.adv 1) _ hs ok.2.1 h3, bindR_go, expW_read e 4 ((s.step.adv 1).adv i.ws.length) r hs ok.2.2 h4, bindR_go, adv_adv, adv_adv, adv_succ, List.length_cons, List.length_cons, List.length_append]
    congr 3
    omega
  | call l p e =>
    rw [St.ws] at h ⊢
    obtain ⟨h1, h2⟩ := drop_cons h
    refine ⟨_, h1, by unfold fitsW; rw [if_neg (by decide +kernel), if_neg (by decide +kernel), if_neg (by decide +kernel)]; decide +kernel, ?_⟩
    unfold stmtW
    rw [if_neg (by decide +kernel), if_neg (by decide +kernel), if_pos rfl, callW_read (m := s.step.pc) (s := s.step) hs one_p ok.1 ok.2.1 hpc ok.2.2 h2, bindR_go, adv_succ, List.length_cons, List.length_cons, List.length_cons]
    congr 3
    omega
  | use l i e =>
    have o2 : i < s.step.ic := ok.2.1
    rw [St.ws] at h ⊢
    obtain ⟨h1, h2⟩ := drop_cons h
    refine ⟨_, h1, by unfold fitsW; rw [if_neg (by decide +kernel), if_pos rfl]; exact decide_eq_true (Nat.lt_of_le_of_lt (Nat.zero_le i) o2), ?_⟩
    unfold stmtW
    rw [if_neg (by decide +kernel), if_neg (by decide +kernel), if_neg (by decide +kernel), if_pos rfl, callW_read (m := s.step.ic) (s := s.step) hs one_i ok.1 ok.2.1 hic ok.2.2 h2, bindR_go, adv_succ, List.length_cons, List.length_cons, List.length_cons]
    congr 3
    omega
  | ifs t a b =>
    obtain ⟨o0, o1, o2, o3⟩ := ok
    obtain ⟨m, rfl⟩ : ∃ m, n = m + 1 := ⟨n - 1, by omega⟩
    have hbm := hb m rfl
    rw [St.ws] at h ⊢
    generalize hel : (if b.isEmpty = true then ([] : List Str) else ("else" : Str) :: stsWs b) = el at h ⊢
    have h : ws.drop s.at_ = ("if" : Str) :: (t.ws ++ (stsWs a ++ (el ++ (("end" : Str) :: r)))) := by rw [h]; simp
    obtain ⟨h1, h2⟩ := drop_cons h
    have h3 := drop_app h2
    refine ⟨_, h1, ?_, ?_⟩
    · unfold fitsW
      have hm : ("if" : Str) ∈ (["if", "while"] : List Str) := by decide +kernel
      rw [if_neg (by decide +kernel), if_neg (by decide +kernel), if_pos hm, decide_eq_true (by omega)]
    · unfold stmtW
      rw [if_neg (by decide +kernel), if_neg (by decide +kernel), if_neg (by decide +kernel), if_neg (by decide +kernel), if_pos rfl]
      unfold ifW
      rw [expW_read t 4 s.step _ hs o1 h2, bindR_go]
      cases b with
      | nil =>
        rw [if_pos (show ([] : List St).isEmpty = true from rfl)] at hel
        subst hel
        rw [List.nil_append] at h3
        rw [hbm a (s.step.adv t.ws.length) "end" r hs o2.2 h3 (.inl rfl), bindR_go]
        have h4 := drop_app h3
        unfold elseW
        rw [show ws[((s.step.adv t.ws.length).adv (stsWs a).length).at_]? = some ("end" : Str) from (drop_cons h4).1]
        dsimp only
        rw [if_neg (by decide +kernel), exactW_read (s := (s.step.adv t.ws.length).adv (stsWs a).length) h4, bindR_go, adv_adv, adv_adv, adv_succ]
        simp only [List.length_cons, List.length_append, List.length_nil]
        congr 3
      | cons y ys =>
        rw [if_neg (show ¬ (y :: ys).isEmpty = true by simp)] at hel
        subst hel
        rw [List.cons_append] at h3
        rw [hbm a (s.step.adv t.ws.length) "else" _ hs o2.2 h3 (.inr rfl), bindR_go]
        have h4 := drop_app h3
        have h5 := (drop_cons h4).2
        unfold elseW
        rw [show ws[((s.step.adv t.ws.length).adv (stsWs a).length).at_]? = some ("else" : Str) from (drop_cons h4).1]
        dsimp only
        rw [if_pos rfl, hbm (y :: ys) ((s.step.adv t.ws.length).adv (stsWs a).length).step "end" r hs o3.2 h5 (.inl rfl), bindR_go, if_neg nofun]
        have h6 := drop_app h5
        rw [exactW_read (s := (((s.step.adv t.ws.length).adv (stsWs a).length).step.adv (stsWs (y :: ys)).length)) h6, bindR_go, adv_adv, adv_adv, adv_succ, adv_succ, adv_adv]
        simp only [List.length_cons, List.length_append, List.length_nil]
        congr 3
        omega
  | wh t a =>
    obtain ⟨o0, o1, o2⟩ := ok
    obtain ⟨m, rfl⟩ : ∃ m, n = m + 1 := ⟨n - 1, by omega⟩
    have hbm := hb m rfl
    rw [St.ws] at h ⊢
    have h : ws.drop s.at_ = ("while" : Str) :: (t.ws ++ (stsWs a ++ (("end" : Str) :: r))) := by rw [h]; simp
    obtain ⟨h1, h2⟩ := drop_cons h
    have h3 := drop_app h2
    refine ⟨_, h1, ?_, ?_⟩
    · unfold fitsW
      have hm : ("while" : Str) ∈ (["if", "while"] : List Str) := by decide +kernel
      rw [if_neg (by decide +kernel), if_neg (by decide +kernel), if_pos hm, decide_eq_true (by omega)]
    · unfold stmtW
      rw [if_neg (by decide +kernel), if_neg (by decide +kernel), if_neg (by decide +kernel), if_neg (by decide +kernel), if_neg (by decide +kernel), if_pos rfl]
      unfold whW
      rw [expW_read t 4 s.step _ hs o1 h2, bindR_go, hbm a (s.step.adv t.ws.length) "end" r hs o2.2 h3 (.inl rfl), bindR_go]
      have h4 := drop_app h3
      rw [exactW_read (s := (s.step.adv t.ws.length).adv (stsWs a).length) h4, bindR_go, adv_adv, adv_adv, adv_succ]
      simp only [List.length_cons, List.length_append, List.length_nil]
      congr 3
  | ret e =>
    rw [St.ws] at h ⊢
    obtain ⟨h1, h2⟩ := drop_cons h
    refine ⟨_, h1, by unfold fitsW; rw [if_neg (by decide +kernel), if_neg (by decide +kernel), if_neg (by decide +kernel)]; decide +kernel, ?_⟩
    unfold stmtW
    rw [if_neg (by decide +kernel), if_neg (by decide +kernel), if_neg (by decide +kernel), if_neg (by decide +kernel), if_neg (by decide +kernel), if_neg (by decide +kernel), expW_read e 4 s.step r hs ok h2, bindR_go, adv_succ, List.length_cons]
theorem loopW_read {ws : List Str} {n : Nat} (hb : ∀ m, n = m + 1 → BlkRead ws m (nestW ws n)) : ∀ (xs acc : List St) (f : Nat) (s : Rst) (z : Str) (r : List Str), Sml (shR s) → stsOk (shR s) xs n → ws.drop s.at_ = stsWs xs ++ z :: r → (z = "end" ∨ z = "else") → ws.length < s.at_ + f →
    loopW ws n (nestW ws n) f acc s = .inr (acc ++ xs, s.adv (stsWs xs).length)
  | xs, acc, 0, s, z, r, _, _, h, _, hf => by
    have : s.at_ < ws.length := by
      by_cases q : s.at_ < ws.length
      · exact q
      · rw [List.drop_eq_nil_of_le (by omega)] at h
        have := congrArg List.length h
        simp at this
    omega
  | [], acc, f + 1, s, z, r, hs, ok, h, hz, hf => by
    rw [stsWs, List.nil_append] at h
    rw [loopW, (drop_cons h).1]
    dsimp only
    rw [end_fits hz, if_neg Bool.false_ne_true, stsWs, List.append_nil]
    rfl
  | x :: xs, acc, f + 1, s, z, r, hs, ok, h, hz, hf => by
    rw [stsOk] at ok
    rw [stsWs, List.append_assoc] at h
    obtain ⟨y, h1, h2, h3⟩ := stmtW_read hb x s _ hs ok.1 h
    have h4 := drop_app h
    have h5 := x.ws_two
    rw [loopW, h1]
    dsimp only
    rw [h2, if_pos rfl, h3, bindR_go, loopW_read hb xs (acc ++ [x]) f (s.adv x.ws.length) z r hs ok.2 h4 hz (by show _ < s.at_ + x.ws.length + f; omega), adv_adv, stsWs, List.length_append, List.append_assoc]
    rfl
theorem blockW_read {ws : List Str} : ∀ n, BlkRead ws n (blockW ws n)
  | 0 => fun xs s z r hs ok h hz => by
    rw [blockW_nest, loopW_read (n := 0) (fun m q => absurd q (Nat.succ_ne_zero m).symm) xs [] _ s z r hs ok h hz (by omega)]
    rfl
  | n + 1 => fun xs s z r hs ok h hz => by
    rw [blockW_nest, loopW_read (n := n + 1) (fun m q => by injection q with q; subst q; exact blockW_read n) xs [] _ s z r hs ok h hz (by omega)]
    rfl
theorem snoc_ind {α : Type} {R : List α → Prop} (h0 : R []) (h1 : ∀ l x, R l → R (l ++ [x])) (l : List α) : R l := by
  have h : ∀ l : List α, R l.reverse := fun l => by
    induction l with
    | nil => exact h0
    | cons x l ih => rw [List.reverse_cons]; exact h1 _ x ih
  have := h l.reverse
  rwa [List.reverse_reverse] at this
theorem numsW_snoc {ws : List Str} : ∀ (l : List Nat) (s : Rst) (r : List Str), (∀ x ∈ l, x < 65536) → ws.drop s.at_ = (l.map fun n : Nat => numS n) ++ r → numsW ws l.length s = .inr (l, s.adv l.length) := by
  refine snoc_ind (fun s r _ _ => rfl) fun l x ih => ?_
  · intro s r hl h
    rw [List.map_append, List.append_assoc] at h
    have h2 := drop_app h
    rw [List.length_map] at h2
    rw [List.length_append, List.length_singleton, numsW, ih s _ (fun y hy => hl y (by simp [hy])) h, bindR_go, numW_read (s := s.adv l.length) (hl x (by simp)) ⟨by omega, by have := hl x (by simp); omega⟩ h2, bindR_go, adv_adv]
theorem bufW_read {ws r : List Str} {b : List Nat} {s : Rst} (hb : (1 ≤ b.length ∧ b.length ≤ 1000) ∧ ∀ x ∈ b, x < 65536) (h : ws.drop s.at_ = bufWs b ++ r) : bufW ws s = .inr (b, s.adv (bufWs b).length) := by
  unfold bufWs at h ⊢
  have h2 := (drop_cons h).2
  have h3 := (drop_cons h2).2
  unfold bufW
  rw [exactW_read h, bindR_go, numW_read (s := s.adv 1) (by omega) hb.1 h2, bindR_go, adv_adv, numsW_snoc b (s.adv 2) r hb.2 h3, adv_adv, List.length_cons, List.length_cons, List.length_map]
  congr 3
  omega
theorem bufsW_read {ws : List Str} : ∀ (bs acc : List (List Nat)) (f : Nat) (s : Rst) (z : Str) (r : List Str), (∀ b ∈ bs, (1 ≤ b.length ∧ b.length ≤ 1000) ∧ ∀ x ∈ b, x < 65536) → bs.length ≤ f → ws.drop s.at_ = (bs.map bufWs).flatten ++ z :: r → z ≠ "buffer" → bufsW ws f acc s = .inr (acc ++ bs, s.adv ((bs.map bufWs).flatten).length)
  | [], acc, 0, s, z, r, _, _, _, _ => by rw [bufsW, List.append_nil]; rfl
  | [], acc, f + 1, s, z, r, _, _, h, hz => by
    have h : ws.drop s.at_ = z :: r := h
    rw [bufsW, (drop_cons h).1]
    dsimp only
    rw [if_neg hz, List.append_nil]
    rfl
  | b :: bs, acc, 0, s, z, r, _, hf, _, _ => by rw [List.length_cons] at hf; omega
  | b :: bs, acc, f + 1, s, z, r, hb, hf, h, hz => by
    rw [List.map_cons, List.flatten_cons, List.append_assoc] at h
    have h1 : ws[s.at_]? = some ("buffer" : Str) := (drop_cons (show ws.drop s.at_ = ("buffer" : Str) :: _ from h)).1
    have h2 := drop_app h
    rw [List.length_cons] at hf
    rw [bufsW, h1]
    dsimp only
    rw [if_pos rfl, bufW_read (hb b List.mem_cons_self) h, bindR_go, bufsW_read bs (acc ++ [b]) f _ z r (fun y hy => hb y (List.mem_cons_of_mem _ hy)) (by omega) h2 hz, adv_adv, List.map_cons, List.flatten_cons, List.length_append, List.append_assoc]
    rfl
theorem procW_read {ws r : List Str} {p : Nat × List St} {s : Rst} (hs : s.bc ≤ 60000 ∧ s.pc ≤ 60000 ∧ s.ic ≤ 60000) (h1 : 1 ≤ p.1 ∧ p.1 ≤ 16) (ok : stsOk ⟨p.1, s.bc, s.pc, s.ic⟩ p.2 6) (h : ws.drop s.at_ = procWs p ++ r) : procW ws s = .inr (p, { s.adv (procWs p).length with lc := p.1 }) := by
  have e0 : procWs p = ("procedure" : Str) :: numS p.1 :: (stsWs p.2 ++ [("end" : Str)]) := rfl
  rw [e0] at h
  have h : ws.drop s.at_ = ("procedure" : Str) :: numS p.1 :: (stsWs p.2 ++ (("end" : Str) :: r)) := by rw [h]; simp
  have h2 := (drop_cons h).2
  have h3 := (drop_cons h2).2
  have h4 := drop_app h3
  unfold procW
  rw [exactW_read h, bindR_go, numW_read (s := s.adv 1) (by omega) h1 h2, bindR_go]
  have hb := blockW_read (ws := ws) 6 p.2 { (s.adv 1).adv 1 with lc := p.1 } "end" r ⟨by show p.1 ≤ _; omega, hs⟩ ok h3 (.inl rfl)
  rw [hb, bindR_go, exactW_read (s := Rst.adv { (s.adv 1).adv 1 with lc := p.1 } (stsWs p.2).length) h4, bindR_go]
  rw [e0]
  simp only [List.length_cons, List.length_append, List.length_nil]
  congr 2
  unfold Rst.adv
  simp only [Rst.mk.injEq, and_true, true_and]
  omega
theorem procsW_read {ws : List Str} : ∀ (ps : List (Nat × List St)) (s : Rst) (r : List Str), s.bc ≤ 60000 ∧ s.pc ≤ 60000 ∧ s.ic ≤ 60000 → (∀ p ∈ ps, (1 ≤ p.1 ∧ p.1 ≤ 16) ∧ stsOk ⟨p.1, s.bc, s.pc, s.ic⟩ p.2 6) → ws.drop s.at_ = (ps.map procWs).flatten ++ r → ∃ l, procsW ws ps.length s = .inr (ps, { s.adv ((ps.map procWs).flatten).length with lc := l }) := by
  refine snoc_ind (fun s r _ _ _ => ⟨s.lc, rfl⟩) fun ps p ih => ?_
  · intro s r hs hp h
    rw [List.map_append, List.flatten_append, List.append_assoc] at h
    obtain ⟨l, e⟩ := ih s _ hs (fun q hq => hp q (by simp [hq])) h
    have h2 := drop_app h
    have hpp := hp p (by simp)
    have h2 : ws.drop (s.at_ + ((ps.map procWs).flatten).length) = procWs p ++ r := by rw [h2]; simp
    have e2 := procW_read (ws := ws) (r := r) (p := p) (s := { s.adv ((ps.map procWs).flatten).length with lc := l }) hs hpp.1 hpp.2 h2
    refine ⟨p.1, ?_⟩
    rw [List.length_append, List.length_singleton, procsW, e, bindR_go, e2, bindR_go]
    congr 2
    unfold Rst.adv
    simp only [Rst.mk.injEq, and_true, true_and, List.map_append, List.flatten_append, List.length_append, List.map_cons, List.map_nil, List.flatten_cons, List.flatten_nil, List.append_nil]
    omega
theorem readC_read {c : Cm} {e ni : Nat} (ok : c.ok 6 e ni) (h8 : c.procs.length ≤ 8) (hni : ni ≤ 60000) : readC c.ws ni = .inr c := by
  obtain ⟨p0, ps, ep⟩ : ∃ p0 ps, c.procs = p0 :: ps := by
    cases q : c.procs with
    | nil => have := ok.np.1; rw [q] at this; exact absurd this (by decide)
    | cons a b => exact ⟨a, b, rfl⟩
  have hnp := ok.np
  have hnb := ok.nb
  have hrm := ok.room
  have hps : (c.procs.map procWs).flatten = ("procedure" : Str) :: (numS p0.1 :: (stsWs p0.2 ++ [("end" : Str)]) ++ (ps.map procWs).flatten) := by
    rw [ep, List.map_cons, List.flatten_cons]
    rfl
  generalize hW : c.ws = ws
  have d0 : ws.drop 0 = ("room" : Str) :: numS c.room :: "procedures" :: numS c.procs.length :: ((c.bufs.map bufWs).flatten ++ (c.procs.map procWs).flatten) := by rw [← hW]; rfl
  have d1 := (drop_cons d0).2
  have d2 := (drop_cons d1).2
  have d3 := (drop_cons d2).2
  have d4 := (drop_cons d3).2
  have d5 := d4
  rw [hps] at d5
  have d6 := drop_app d4
  have hb := bufsW_read (ws := ws) c.bufs [] 8 { (Rst.mk 0 ni 0 0 0).adv 4 with pc := c.procs.length } _ _ ok.buf hnb d5 (by decide +kernel)
  obtain ⟨l, hp⟩ := procsW_read (ws := ws) c.procs { Rst.adv { (Rst.mk 0 ni 0 0 0).adv 4 with pc := c.procs.length } ((c.bufs.map bufWs).flatten).length with bc := c.bufs.length } [] ⟨by show c.bufs.length ≤ _; omega, by show c.procs.length ≤ _; omega, hni⟩ (fun p hp => by
    have := ok.proc p hp
    exact ⟨this.1, this.2.2⟩) (by rw [List.append_nil]; exact d6)
  have e4 : ((((Rst.mk 0 ni 0 0 0).adv 1).adv 1).adv 1).adv 1 = (Rst.mk 0 ni 0 0 0).adv 4 := rfl
  have hc : ∃ s : Rst, compW ws ⟨0, ni, 0, 0, 0⟩ = .inr (c, s) ∧ s.at_ = ws.length := by
    refine ⟨{ Rst.adv { Rst.adv { (Rst.mk 0 ni 0 0 0).adv 4 with pc := c.procs.length } ((c.bufs.map bufWs).flatten).length with bc := c.bufs.length } ((c.procs.map procWs).flatten).length with lc := l }, ?_, ?_⟩
    · unfold compW
      rw [exactW_read (s := Rst.mk 0 ni 0 0 0) d0, bindR_go, numW_read (s := (Rst.mk 0 ni 0 0 0).adv 1) (by omega) ⟨Nat.zero_le _, hrm⟩ d1, bindR_go, exactW_read (s := ((Rst.mk 0 ni 0 0 0).adv 1).adv 1) d2, bindR_go, numW_read (s := (((Rst.mk 0 ni 0 0 0).adv 1).adv 1).adv 1) (by omega) ⟨hnp.1, h8⟩ d3, bindR_go, e4, hb, bindR_go]
      rw [List.nil_append, hp, bindR_go]
    · show 0 + 4 + _ + _ = ws.length
      have := congrArg List.length d0
      simp only [List.length_cons, List.length_append, List.drop_zero] at this
      omega
  obtain ⟨s, e1, e2⟩ := hc
  unfold readC
  rw [e1]
  dsimp only
  rw [if_neg (by omega)]




/-! ### drawn texts, their weight bound by what is spent -/
abbrev shD (h : Sh) (sizes : List Nat) : D := .lst [natD h.nl, .lst (sizes.map natD), natD h.np, natD h.ni]
structure ShOk (h : Sh) (sizes : List Nat) : Prop where
  nl : 1 ≤ h.nl ∧ h.nl ≤ 100
  nb : sizes.length = h.nb ∧ h.nb ≤ 100
  sz : ∀ x ∈ sizes, 1 ≤ x ∧ x ≤ 1000
  np : 1 ≤ h.np ∧ h.np ≤ 100
  ni : h.ni ≤ 100
def sp_l_expr (d : Nat) : ASp := fun ds M Q _ => ∃ (p : Addr) (s : PoolS) (u : Ob → Mem) (h : Sh) (sizes : List Nat) (deep : Nat), ds = [.r p, shD h sizes, natD deep] ∧ At M p s.ob u ∧ ShOk h sizes ∧ (1 ≤ deep ∧ deep ≤ d ∧ d ≤ 100) ∧ ∀ (s' : PoolS) (e : Ex), e.okd h deep → e.wt + 2 * s'.e.toNat ≤ 2 * s.e.toNat → Q e.d (u s'.ob)
def sp_l_index (d : Nat) : ASp := fun ds M Q _ => ∃ (p : Addr) (s : PoolS) (u : Ob → Mem) (h : Sh) (sizes : List Nat) (b deep : Nat), ds = [.r p, shD h sizes, natD b, natD deep] ∧ At M p s.ob u ∧ ShOk h sizes ∧ b < h.nb ∧ (1 ≤ deep ∧ deep ≤ d ∧ d ≤ 100) ∧ ∀ (s' : PoolS) (e : Ex), e.okd h (max deep 1) → e.wt + 2 * s'.e.toNat ≤ 2 * s.e.toNat + 1 → Q e.d (u s'.ob)
theorem nat_of {i : Int} (h : 0 ≤ i) : ∃ n : Nat, i = (n : Int) := ⟨i.toNat, (Int.toNat_of_nonneg h).symm⟩
theorem sizes_at {sizes : List Nat} {b : Nat} (h : b < sizes.length) : atI (sizes.map natD) (b : Int) = some (natD sizes[b]) := atI_nat (by rw [List.getElem?_map, List.getElem?_eq_getElem h]; rfl)
theorem Ex.okd.mono {h : Sh} {d d' : Nat} {e : Ex} (k : e.okd h d) (hd : d ≤ d') : e.okd h d' := ⟨k.1, Nat.le_trans k.2 hd⟩
section
variable {P : Program} {w : World} {K : PySem.W.Frag} {mg : Str → Option Value} {base : Heap}
theorem ok_l_index_of (T : Top K mg) (d : Nat) (IH : Cal P w K mg base CX0 (2 * d + 3) "_law_expression" ["pool", "shape", "deep"] (conSp K (sp_l_expr d))) : Cal P w K mg base CX0 (2 * d + 4) "_law_index" ["pool", "shape", "buffer", "deep"] (conSp K (sp_l_index d)) := by
  refine def_A (k := 2 * d + 3) T.f_l_index sc_l_index (fun _ _ _ _ _ _ us hl => match us, hl with | [_, _, _, _], _ => rfl) (fun ds M Q E h => ?_) (fun f cdv Ar outer s H E ds M Q EX hr h => ?_)
  · obtain ⟨p, s, u, h, sizes, b, deep, rfl, _⟩ := h
    rfl
  · obtain ⟨p, s, u, h, sizes, b, deep, rfl, hp, hs, hb, ⟨hd1, hd2, hd3⟩, k⟩ := h
    refine ⟨_, (as_cons (as_set (ps_set (i := 4) sc_l_index.nd rfl (by first | exact Or.inl rfl | exact Or.inr rfl) (a_call (g_call (ok_l_drawE T) (hr.mono (by omega)) (by rfl) pass0 (aa_cons (a_var (pv 0)) (aa_cons a_int aa_nil))))))
  (as_cons (as_if (a_tcmp o_lt (a_var (pv 4)) a_int (nomark _))
  (as_one (as_ret (ps_ret (a_tup (aa_cons a_str (aa_cons (a_call (g_call (ok_l_drawE T) (hr.mono (by omega)) (by rfl) pass0 (aa_cons (a_var (pv 0)) (aa_cons (a_ix (o_ix (K := K)) (a_ix (o_ix (K := K)) (a_var (pv 1)) a_int (fun _ _ => rfl)) (a_var (pv 2)) (fun _ _ => rfl)) aa_nil)))) aa_nil))))))
  as_nil)
  (as_cut (as_if (PW.pt (a_and (a_tcmp o_lt (a_var (pv 4)) a_int (nomark _)) (pw_and1 (a_tcmp o_gt (a_var (pv 3)) a_int (nomark _)))))
  (as_one (as_ret (ps_ret (a_tup (aa_cons a_str (aa_cons (a_call (g_call IH (hr.mono (by omega)) (by rfl) pass0 (aa_cons (a_var (pv 0)) (aa_cons (a_var (pv 1)) (aa_cons (a_op o_sub (a_var (pv 3)) a_int) aa_nil))))) (aa_cons (a_tup (aa_cons a_str (aa_cons (a_ix (o_ix (K := K)) (a_ix (o_ix (K := K)) (a_var (pv 1)) a_int (fun _ _ => rfl)) (a_var (pv 2)) (fun _ _ => rfl)) aa_nil))) aa_nil)))))))
  as_nil)
  (as_cons (as_if (a_tcmp (o_eq (K := K) (un64 hr)) (a_var (pv 4)) a_int (nomark _))
  (as_one (as_ret (ps_ret (a_tup (aa_cons a_str (aa_cons (a_op (o_add (K := K)) (a_ix (o_ix (K := K)) (a_ix (o_ix (K := K)) (a_var (pv 1)) a_int (fun _ _ => rfl)) (a_var (pv 2)) (fun _ _ => rfl)) (a_call (g_call (ok_l_drawE T) (hr.mono (by omega)) (by rfl) pass0 (aa_cons (a_var (pv 0)) (aa_cons a_int aa_nil))))) aa_nil))))))
  as_nil)
  (as_one (as_ret (ps_ret (a_call (g_call IH (hr.mono (by omega)) (by rfl) pass0 (aa_cons (a_var (pv 0)) (aa_cons (a_var (pv 1)) (aa_cons (a_var (pv 3)) aa_nil)))))))))))), ?_⟩
    have hbl : b < sizes.length := by rw [hs.nb.1]; exact hb
    have ab := sizes_at hbl
    have hsz := hs.sz _ (List.getElem_mem hbl)
    walk_at "rd"
    walk_at "dr"
    intro kd s1 k0 k1 f1
    walk_at "rd"
    refine G.i_d (fun h1 => ?_) (fun h1 => ?_)
    · walk_at "rd"
      refine ⟨p, s1, _, _, rfl, hp.put, by omega, fun v s2 v0 v1 f2 => ?_⟩
      obtain ⟨n, rfl⟩ := nat_of v0
      walk_at "rd"
      exact k s2 (.num n) ⟨by show n < 65536; omega, by show 1 ≤ _; omega⟩ (by simp only [Ex.wt]; omega)
    · walk_at "rd"
      refine s_cut (fun xs M' => xs = [some (.r p), some (shD h sizes), some (natD b), some (natD deep), some (.int kd)] ∧ M' = u s1.ob) ?_ ?_
      · walk_at "rd"
        refine G.i_d (fun h2 => ?_) (fun h2 => ?_)
        · walk_at "rd"
          refine G.i_d (fun h3 => ?_) (fun h3 => ?_)
          · walk_at "rd"
            refine ⟨p, s1, _, h, sizes, deep - 1, by rw [show ((deep : Int) - 1) = ((deep - 1 : Nat) : Int) by omega], hp.put, hs, by omega, fun s2 e he f2 => ?_⟩
            walk_at "rd"
            exact k s2 (.op "mod" e (.num sizes[b])) ⟨⟨by simp [opsL], he.1, by show _ < 65536; omega⟩, by show max _ 1 + 1 ≤ _; have := he.2; omega⟩ (by simp only [Ex.wt]; omega)
          · walk_at "rd"
            exact ⟨rfl, rfl⟩
        · walk_at "rd"
          exact ⟨rfl, rfl⟩
      · rintro xs M' ⟨rfl, rfl⟩
        walk_at "rd"
        refine G.i_d (fun h2 => ?_) (fun h2 => ?_)
        · walk_at "rd"
          refine ⟨p, s1, _, _, rfl, hp.put, by omega, fun v s2 v0 v1 f2 => ?_⟩
          obtain ⟨n, rfl⟩ := nat_of v0
          walk_at "rd"
          have kk := k s2 (.num (sizes[b] + n)) ⟨by show _ < 65536; omega, by show 1 ≤ _; omega⟩ (by simp only [Ex.wt]; omega)
          unfold Ex.d natD at kk
          rw [show ((sizes[b] + n : Nat) : Int) = (sizes[b] : Int) + n by omega] at kk
          exact kk
        · walk_at "rd"
          exact ⟨p, s1, _, h, sizes, deep, rfl, hp.put, hs, by omega, fun s2 e he f2 => .of (k s2 e (he.mono (by omega)) (by omega))⟩
theorem ok_l_expression (T : Top K mg) : ∀ d, Cal P w K mg base CX0 (2 * d + 3) "_law_expression" ["pool", "shape", "deep"] (conSp K (sp_l_expr d))
  | 0 => def_A (k := 2) T.f_l_expression sc_l_expression (fun _ _ _ _ _ _ us hl => match us, hl with | [_, _, _], _ => rfl) (fun ds M Q E h => by obtain ⟨_, _, _, _, _, _, _, _, _, h, _⟩ := h; omega) (fun f cdv Ar outer s H E ds M Q EX hr h => by obtain ⟨_, _, _, _, _, _, _, _, _, h, _⟩ := h; omega)
  | d + 1 => by
    have IH := ok_l_expression T d
    have IX := ok_l_index_of T d IH
    refine def_A (k := 2 * d + 4) T.f_l_expression sc_l_expression (fun _ _ _ _ _ _ us hl => match us, hl with | [_, _, _], _ => rfl) (fun ds M Q E h => ?_) (fun f cdv Ar outer s H E ds M Q EX hr h => ?_)
    · obtain ⟨p, s, u, h, sizes, deep, rfl, _⟩ := h
      rfl
    · obtain ⟨p, s, u, h, sizes, deep, rfl, hp, hs, ⟨hd1, hd2, hd3⟩, k⟩ := h
      refine ⟨_, (as_cons (as_set (ps_set (i := 3) sc_l_expression.nd rfl (by first | exact Or.inl rfl | exact Or.inr rfl) (a_call (g_call (ok_l_drawE T) (hr.mono (by omega)) (by rfl) pass0 (aa_cons (a_var (pv 0)) (aa_cons a_int aa_nil))))))
  (as_cut (as_if (PW.pt (a_and (a_tcmp o_gt (a_var (pv 2)) a_int (nomark _)) (a_and (a_tcmp o_lt (a_var (pv 3)) a_int (nomark _)) (pw_and1 (a_truth (K := K) (a_call (g_call (ok_l_spendE T) (hr.mono (by omega)) (by rfl) pass0 (aa_cons (a_var (pv 0)) aa_nil))) (by intro _; rfl))))))
  (as_cons (as_set (ps_set (i := 4) sc_l_expression.nd rfl (by first | exact Or.inl rfl | exact Or.inr rfl) (a_ix (o_ix (K := K)) (a_tup (aa_cons a_str (aa_cons a_str (aa_cons a_str (aa_cons a_str (aa_cons a_str (aa_cons a_str (aa_cons a_str aa_nil)))))))) (a_call (g_call (ok_l_drawE T) (hr.mono (by omega)) (by rfl) pass0 (aa_cons (a_var (pv 0)) (aa_cons a_int aa_nil)))) (fun _ _ => rfl))))
    (as_cons (as_set (ps_set (i := 5) sc_l_expression.nd rfl (by first | exact Or.inl rfl | exact Or.inr rfl) (a_call (g_call IH (hr.mono (by omega)) (by rfl) pass0 (aa_cons (a_var (pv 0)) (aa_cons (a_var (pv 1)) (aa_cons (a_op o_sub (a_var (pv 2)) a_int) aa_nil)))))))
    (as_one (as_ret (ps_ret (a_tup (aa_cons (a_var (pv 4)) (aa_cons (a_var (pv 5)) (aa_cons (a_call (g_call IH (hr.mono (by omega)) (by rfl) pass0 (aa_cons (a_var (pv 0)) (aa_cons (a_var (pv 1)) (aa_cons (a_op o_sub (a_var (pv 2)) a_int) aa_nil))))) aa_nil)))))))))
  as_nil)
  (as_cut (as_if (PW.pt (a_and (a_tcmp o_gt (a_var (pv 2)) a_int (nomark _)) (a_and (a_tcmp o_lt (a_var (pv 3)) a_int (nomark _)) (a_and (a_tcmp o_gt (a_callB (o_len (K := K)) (by rfl) T.b_len PySem.boot_len (aa_cons (a_ix (o_ix (K := K)) (a_var (pv 1)) a_int (fun _ _ => rfl)) aa_nil)) a_int (nomark _)) (pw_and1 (a_truth (K := K) (a_call (g_call (ok_l_spendE T) (hr.mono (by omega)) (by rfl) pass0 (aa_cons (a_var (pv 0)) aa_nil))) (by intro _; rfl)))))))
  (as_cons (as_set (ps_set (i := 6) sc_l_expression.nd rfl (by first | exact Or.inl rfl | exact Or.inr rfl) (a_call (g_call (ok_l_drawE T) (hr.mono (by omega)) (by rfl) pass0 (aa_cons (a_var (pv 0)) (aa_cons (a_callB (o_len (K := K)) (by rfl) T.b_len PySem.boot_len (aa_cons (a_ix (o_ix (K := K)) (a_var (pv 1)) a_int (fun _ _ => rfl)) aa_nil)) aa_nil))))))
    (as_one (as_ret (ps_ret (a_tup (aa_cons a_str (aa_cons (a_var (pv 6)) (aa_cons (a_call (g_call IX (hr.mono (by omega)) (by rfl) pass0 (aa_cons (a_var (pv 0)) (aa_cons (a_var (pv 1)) (aa_cons (a_var (pv 6)) (aa_cons (a_op o_sub (a_var (pv 2)) a_int) aa_nil)))))) aa_nil))))))))
  as_nil)
  (as_cons (as_if (a_tcmp o_lt (a_var (pv 3)) a_int (nomark _))
  (as_one (as_ret (ps_ret (a_tup (aa_cons a_str (aa_cons (a_call (g_call (ok_l_drawE T) (hr.mono (by omega)) (by rfl) pass0 (aa_cons (a_var (pv 0)) (aa_cons (a_ix (o_ix (K := K)) (a_var (pv 1)) a_int (fun _ _ => rfl)) aa_nil)))) aa_nil))))))
  as_nil)
  (as_one (as_ret (ps_ret (a_tup (aa_cons a_str (aa_cons (a_call (g_call (ok_l_numberE T) (hr.mono (by omega)) (by rfl) pass0 (aa_cons (a_var (pv 0)) aa_nil))) aa_nil)))))))))), ?_⟩
      have hnl := hs.nl
      have hnb := hs.nb
      have hx : (((deep : Nat) : Int) - 1) = ((deep - 1 : Nat) : Int) := by omega
      walk_at "rd"
      walk_at "dr"
      intro kd s1 k0 k1 f1
      walk_at "rd"
      refine s_cut (fun xs M' => ∃ v5 v6 v7 s2, xs = [some (.r p), some (shD h sizes), some (natD deep), some (.int kd), v5, v6, v7] ∧ M' = u (PoolS.ob s2) ∧ s2.e.toNat ≤ s.e.toNat) ?_ ?_
      · walk_at "rd"
        refine G.i_d (fun h1 => ?_) (fun h1 => ?_)
        · walk_at "rd"
          refine G.i_d (fun h2 => ?_) (fun h2 => ?_)
          · walk_at "rd"
            refine ⟨p, s1, _, rfl, hp.put, fun s2 f2 => ?_⟩
            walk_at "rd"
            refine G.i_d (fun hb => ?_) (fun hb => ?_)
            · walk_at "rd"
              refine ⟨p, s2, _, _, rfl, hp.put, by decide, fun j s3 j0 j1 f3 => ?_⟩
              obtain ⟨z, az, zk⟩ : ∃ z : Str, atI (opsL.map D.str) j = some (.str z) ∧ z ∈ opsL := by
                obtain ⟨z, hz, _, hz2⟩ := at_mem (fn := D.str) (l := opsL) j0 (by simpa [opsL] using j1)
                exact ⟨z, hz2, hz⟩
              walk_at "rd"
              rw [hx]
              refine ⟨p, s3, _, h, sizes, deep - 1, rfl, hp.put, hs, by omega, fun s4 a ha f4 => ?_⟩
              walk_at "rd"
              rw [hx]
              refine ⟨p, s4, _, h, sizes, deep - 1, rfl, hp.put, hs, by omega, fun s5 b hb f5 => ?_⟩
              walk_at "rd"
              exact k s5 (.op z a b) ⟨⟨zk, ha.1, hb.1⟩, by show max _ _ + 1 ≤ _; have := ha.2; have := hb.2; omega⟩ (by simp only [Ex.wt]; omega)
            · walk_at "rd"
              exact ⟨_, _, _, s2, rfl, rfl, by omega⟩
          · walk_at "rd"
            exact ⟨_, _, _, s1, rfl, rfl, by omega⟩
        · walk_at "rd"
          exact ⟨_, _, _, s1, rfl, rfl, by omega⟩
      · rintro xs M' ⟨v5, v6, v7, s2, rfl, rfl, g2⟩
        refine s_cut (fun xs M' => ∃ v5 v6 v7 s2, xs = [some (.r p), some (shD h sizes), some (natD deep), some (.int kd), v5, v6, v7] ∧ M' = u (PoolS.ob s2) ∧ s2.e.toNat ≤ s.e.toNat) ?_ ?_
        · walk_at "rd"
          refine G.i_d (fun h1 => ?_) (fun h1 => ?_)
          · walk_at "rd"
            refine G.i_d (fun h2 => ?_) (fun h2 => ?_)
            · walk_at "rd"
              rw [List.length_map]
              refine G.i_d (fun h3 => ?_) (fun h3 => ?_)
              · walk_at "rd"
                refine ⟨p, s2, _, rfl, hp.put, fun s3 f3 => ?_⟩
                walk_at "rd"
                refine G.i_d (fun hb => ?_) (fun hb => ?_)
                · walk_at "rd"
                  rw [List.length_map]
                  refine ⟨p, s3, _, _, rfl, hp.put, by omega, fun j s4 j0 j1 f4 => ?_⟩
                  obtain ⟨b, rfl⟩ := nat_of j0
                  walk_at "rd"
                  rw [hx]
                  refine ⟨p, s4, _, h, sizes, b, deep - 1, rfl, hp.put, hs, by omega, by omega, fun s5 e he f5 => ?_⟩
                  walk_at "rd"
                  exact k s5 (.get b e) ⟨⟨by omega, he.1⟩, by show e.dep + 1 ≤ _; have := he.2; omega⟩ (by simp only [Ex.wt]; omega)
                · walk_at "rd"
                  exact ⟨_, _, _, s3, rfl, rfl, by omega⟩
              · walk_at "rd"
                exact ⟨_, _, _, s2, rfl, rfl, by omega⟩
            · walk_at "rd"
              exact ⟨_, _, _, s2, rfl, rfl, by omega⟩
          · walk_at "rd"
            exact ⟨_, _, _, s2, rfl, rfl, by omega⟩
        · rintro xs M' ⟨v5, v6, v7, s3, rfl, rfl, g3⟩
          walk_at "rd"
          refine G.i_d (fun h1 => ?_) (fun h1 => ?_)
          · walk_at "rd"
            refine ⟨p, s3, _, _, rfl, hp.put, by omega, fun j s4 j0 j1 f4 => ?_⟩
            obtain ⟨n, rfl⟩ := nat_of j0
            walk_at "rd"
            exact k s4 (.loc n) ⟨by show n < h.nl; omega, by show 1 ≤ _; omega⟩ (by simp only [Ex.wt]; omega)
          · walk_at "rd"
            refine ⟨p, s3, _, rfl, hp.put, fun v s4 v0 v1 f4 => ?_⟩
            obtain ⟨n, rfl⟩ := nat_of v0
            walk_at "rd"
            exact k s4 (.num n) ⟨by show n < 65536; omega, by show 1 ≤ _; omega⟩ (by simp only [Ex.wt]; omega)
end




/-! ### blocks, statements: their weight -/
def sp_l_block (n : Nat) : ASp := fun ds M Q _ => ∃ (p : Addr) (s : PoolS) (u : Ob → Mem) (h : Sh) (sizes : List Nat) (deep most : Nat), ds = [.r p, shD h sizes, natD deep, natD most] ∧ At M p s.ob u ∧ ShOk h sizes ∧ (deep < n ∧ n ≤ 100) ∧ most ≤ 100 ∧
  ∀ (s' : PoolS) (xs : List St), stsOk h xs deep → xs.length ≤ most → stsWt xs + 3 * s'.e.toNat ≤ 3 * s.e.toNat → Q (.tup (xs.map St.d)) (u s'.ob)
def sp_l_stmt (n : Nat) : ASp := fun ds M Q _ => ∃ (p : Addr) (s : PoolS) (u : Ob → Mem) (h : Sh) (sizes : List Nat) (deep : Nat), ds = [.r p, shD h sizes, natD deep] ∧ At M p s.ob u ∧ ShOk h sizes ∧ (deep < n ∧ n ≤ 100) ∧ ∀ (s' : PoolS) (x : St), x.ok h deep → x.wt + 3 * s'.e.toNat ≤ 3 * s.e.toNat + 3 → Q x.d (u s'.ob)
section
variable {P : Program} {w : World} {K : PySem.W.Frag} {mg : Str → Option Value} {base : Heap}
theorem ok_l_index (T : Top K mg) (d : Nat) : Cal P w K mg base CX0 (2 * d + 4) "_law_index" ["pool", "shape", "buffer", "deep"] (conSp K (sp_l_index d)) := ok_l_index_of T d (ok_l_expression T d)
theorem ok_l_block_of (T : Top K mg) (n : Nat) (IS : Cal P w K mg base CX0 (2 * n + 13) "_law_statement" ["pool", "shape", "deep"] (conSp K (sp_l_stmt n))) : Cal P w K mg base CX0 (2 * n + 14) "_law_block" ["pool", "shape", "deep", "most"] (conSp K (sp_l_block n)) := by
  refine def_A (k := 2 * n + 13) T.f_l_block sc_l_block (fun _ _ _ _ _ _ us hl => match us, hl with | [_, _, _, _], _ => rfl) (fun ds M Q E h => ?_) (fun f cdv Ar outer s H E ds M Q EX hr h => ?_)
  · obtain ⟨p, s, u, h, sizes, deep, most, rfl, _⟩ := h
    rfl
  · obtain ⟨p, s, u, h, sizes, deep, most, rfl, hp, hs, hd, hm, k⟩ := h
    refine ⟨_, (as_cons (as_set (ps_set (i := 4) sc_l_block.nd rfl (by first | exact Or.inl rfl | exact Or.inr rfl) (a_lstO aa_nil)))
  (as_cons (as_for (ps_for PassesOwn.never rfl (ai_r1 (pi_range1 rfl T.b_range (aa_cons (a_call (g_call (ok_l_drawE T) (hr.mono (by omega)) (by rfl) pass0 (aa_cons (a_var (pv 0)) (aa_cons (a_op (o_add (K := K)) (a_var (pv 3)) a_int) aa_nil)))) aa_nil))) (ag_name (pg_name (i := 5) sc_l_block.nd rfl (by first | exact Or.inl rfl | exact Or.inr rfl)))
  (as_one (as_if (a_truth (K := K) (a_call (g_call (ok_l_spendE T) (hr.mono (by omega)) (by rfl) pass0 (aa_cons (a_var (pv 0)) aa_nil))) (by intro _; rfl))
    (as_one (as_drop (ps_expr (a_bm o_app (pe_bm PySem.F.plainAttrs_list PySem.F.slot_list_append PySem.F.type_list_append mt_append (a_var (pv 4)) (aa_cons (a_call (g_call IS (hr.mono (by omega)) (by rfl) pass0 (aa_cons (a_var (pv 0)) (aa_cons (a_var (pv 1)) (aa_cons (a_var (pv 2)) aa_nil))))) aa_nil))))))
    as_nil))))
  (as_one (as_ret (ps_ret (a_callTy (o_tup (K := K)) (by rfl) T.b_tuple (by decide +kernel) (aa_cons (a_var (pv 4)) aa_nil))))))), ?_⟩
    walk_at "rd"
    intro B
    walk_at "rd"
    refine ⟨p, s, _, _, rfl, .tl hp, by omega, fun c s1 c0 c1 f1 => ?_⟩
    walk_at "rd"
    refine f_rng (fun i xs M' => ∃ (v5 : Option D) (l : List St) (s2 : PoolS), xs = [some (.r p), some (shD h sizes), some (natD deep), some (natD most), some (.r B), v5] ∧ M' = (B, .lst (l.map St.d)) :: u (PoolS.ob s2) ∧ l.length ≤ i ∧ stsOk h l deep ∧ stsWt l + 3 * s2.e.toNat ≤ 3 * s.e.toNat) ⟨_, [], s1, rfl, rfl, Nat.le_refl _, trivial, by simp only [stsWt]; omega⟩ ?_ ?_
    · rintro i xs M' hi ⟨v5, l, s2, rfl, rfl, hl, hok, hcn⟩
      walk_at "rd"
      refine ⟨p, s2, _, rfl, .tl hp.put, fun s3 f3 => ?_⟩
      walk_at "rd"
      refine G.i_d (fun hb => ?_) (fun hb => ?_)
      · walk_at "rd"
        refine ⟨p, s3, _, h, sizes, deep, rfl, .tl hp.put, hs, hd, fun s4 x hx hxc => ?_⟩
        walk_at "rd"
        refine ⟨_, l ++ [x], s4, rfl, by rw [List.map_append]; rfl, by rw [List.length_append, List.length_singleton]; omega, ?_, by rw [stsWt_app]; simp only [stsWt]; omega⟩
        rw [stsOk_iff] at hok ⊢
        intro y hy
        rcases List.mem_append.mp hy with q | q
        · exact hok y q
        · rw [List.mem_singleton.mp q]; exact hx
      · walk_at "rd"
        exact ⟨_, l, s3, rfl, rfl, by omega, hok, by omega⟩
    · rintro xs M' ⟨v5, l, s2, rfl, rfl, hl, hok, hcn⟩
      walk_at "re"
      exact .fz (FzV.drop .hd) (k s2 l hok (by omega) hcn)
theorem ok_l_statement (T : Top K mg) : ∀ n, Cal P w K mg base CX0 (2 * n + 13) "_law_statement" ["pool", "shape", "deep"] (conSp K (sp_l_stmt n))
  | 0 => def_A (k := 12) T.f_l_statement sc_l_statement (fun _ _ _ _ _ _ us hl => match us, hl with | [_, _, _], _ => rfl) (fun ds M Q E h => by obtain ⟨_, _, _, _, _, _, _, _, _, h, _⟩ := h; omega) (fun f cdv Ar outer s H E ds M Q EX hr h => by obtain ⟨_, _, _, _, _, _, _, _, _, h, _⟩ := h; omega)
  | n + 1 => by
    have IB := ok_l_block_of T n (ok_l_statement T n)
    refine def_A (k := 2 * n + 14) T.f_l_statement sc_l_statement (fun _ _ _ _ _ _ us hl => match us, hl with | [_, _, _], _ => rfl) (fun ds M Q E h => ?_) (fun f cdv Ar outer s H E ds M Q EX hr h => ?_)
    · obtain ⟨p, s, u, h, sizes, deep, rfl, _⟩ := h
      rfl
    · obtain ⟨p, s, u, h, sizes, deep, rfl, hp, hs, hd, k⟩ := h
      refine ⟨_, (as_cons (as_set (ps_set (i := 3) sc_l_statement.nd rfl (by first | exact Or.inl rfl | exact Or.inr rfl) (a_call (g_call (ok_l_drawE T) (hr.mono (by omega)) (by rfl) pass0 (aa_cons (a_var (pv 0)) (aa_cons a_int aa_nil))))))
  (as_cons (as_set (ps_set (i := 4) sc_l_statement.nd rfl (by first | exact Or.inl rfl | exact Or.inr rfl) (a_call (g_call (ok_l_drawE T) (hr.mono (by omega)) (by rfl) pass0 (aa_cons (a_var (pv 0)) (aa_cons (a_ix (o_ix (K := K)) (a_var (pv 1)) a_int (fun _ _ => rfl)) aa_nil))))))
  (as_cut (as_if (PW.pt (a_and (a_tcmp o_lt (a_var (pv 3)) a_int (nomark _)) (pw_and1 (a_tcmp o_gt (a_var (pv 2)) a_int (nomark _)))))
  (as_cons (as_set (ps_set (i := 5) sc_l_statement.nd rfl (by first | exact Or.inl rfl | exact Or.inr rfl) (a_call (g_call (ok_l_expression T 4) (hr.mono (by omega)) (by rfl) pass0 (aa_cons (a_var (pv 0)) (aa_cons (a_var (pv 1)) (aa_cons a_int aa_nil)))))))
    (as_cons (as_set (ps_set (i := 6) sc_l_statement.nd rfl (by first | exact Or.inl rfl | exact Or.inr rfl) (a_call (g_call IB (hr.mono (by omega)) (by rfl) pass0 (aa_cons (a_var (pv 0)) (aa_cons (a_var (pv 1)) (aa_cons (a_op o_sub (a_var (pv 2)) a_int) (aa_cons a_int aa_nil))))))))
    (as_one (as_ret (ps_ret (a_tup (aa_cons a_str (aa_cons (a_var (pv 5)) (aa_cons (a_var (pv 6)) (aa_cons (a_call (g_call IB (hr.mono (by omega)) (by rfl) pass0 (aa_cons (a_var (pv 0)) (aa_cons (a_var (pv 1)) (aa_cons (a_op o_sub (a_var (pv 2)) a_int) (aa_cons a_int aa_nil)))))) aa_nil))))))))))
  as_nil)
  (as_cut (as_if (PW.pt (a_and (a_tcmp (o_eq (K := K) (un64 hr)) (a_var (pv 3)) a_int (nomark _)) (pw_and1 (a_tcmp o_gt (a_var (pv 2)) a_int (nomark _)))))
  (as_cons (as_set (ps_set (i := 5) sc_l_statement.nd rfl (by first | exact Or.inl rfl | exact Or.inr rfl) (a_call (g_call (ok_l_expression T 4) (hr.mono (by omega)) (by rfl) pass0 (aa_cons (a_var (pv 0)) (aa_cons (a_var (pv 1)) (aa_cons a_int aa_nil)))))))
    (as_cons (as_set (ps_set (i := 7) sc_l_statement.nd rfl (by first | exact Or.inl rfl | exact Or.inr rfl) (a_call (g_call IB (hr.mono (by omega)) (by rfl) pass0 (aa_cons (a_var (pv 0)) (aa_cons (a_var (pv 1)) (aa_cons (a_op o_sub (a_var (pv 2)) a_int) (aa_cons a_int aa_nil))))))))
    (as_one (as_ret (ps_ret (a_tup (aa_cons a_str (aa_cons (a_var (pv 5)) (aa_cons (a_op (o_add (K := K)) (a_var (pv 7)) (a_tup (aa_cons (a_tup (aa_cons a_str (aa_cons (a_var (pv 4)) (aa_cons (a_tup (aa_cons a_str (aa_cons (a_tup (aa_cons a_str (aa_cons (a_var (pv 4)) aa_nil))) (aa_cons (a_tup (aa_cons a_str (aa_cons a_int aa_nil))) aa_nil)))) aa_nil)))) aa_nil))) aa_nil)))))))))
  as_nil)
  (as_cut (as_if (PW.pt (a_and (a_tcmp o_lt (a_var (pv 3)) a_int (nomark _)) (pw_and1 (a_tcmp o_gt (a_ix (o_ix (K := K)) (a_var (pv 1)) a_int (fun _ _ => rfl)) a_int (nomark _)))))
  (as_one (as_ret (ps_ret (a_tup (aa_cons a_str (aa_cons (a_var (pv 4)) (aa_cons (a_call (g_call (ok_l_drawE T) (hr.mono (by omega)) (by rfl) pass0 (aa_cons (a_var (pv 0)) (aa_cons (a_ix (o_ix (K := K)) (a_var (pv 1)) a_int (fun _ _ => rfl)) aa_nil)))) (aa_cons (a_call (g_call (ok_l_expression T 4) (hr.mono (by omega)) (by rfl) pass0 (aa_cons (a_var (pv 0)) (aa_cons (a_var (pv 1)) (aa_cons a_int aa_nil))))) aa_nil))))))))
  as_nil)
  (as_cons (as_if (a_tcmp (o_eq (K := K) (un64 hr)) (a_var (pv 3)) a_int (nomark _))
  (as_one (as_ret (ps_ret (a_tup (aa_cons a_str (aa_cons (a_var (pv 4)) (aa_cons (a_call (g_call (ok_l_drawE T) (hr.mono (by omega)) (by rfl) pass0 (aa_cons (a_var (pv 0)) (aa_cons (a_ix (o_ix (K := K)) (a_var (pv 1)) a_int (fun _ _ => rfl)) aa_nil)))) (aa_cons (a_call (g_call (ok_l_expression T 4) (hr.mono (by omega)) (by rfl) pass0 (aa_cons (a_var (pv 0)) (aa_cons (a_var (pv 1)) (aa_cons a_int aa_nil))))) aa_nil))))))))
  as_nil)
  (as_cut (as_if (PW.pt (a_and (a_tcmp o_lt (a_var (pv 3)) a_int (nomark _)) (pw_and1 (a_tcmp o_gt (a_callB (o_len (K := K)) (by rfl) T.b_len PySem.boot_len (aa_cons (a_ix (o_ix (K := K)) (a_var (pv 1)) a_int (fun _ _ => rfl)) aa_nil)) a_int (nomark _)))))
  (as_cons (as_set (ps_set (i := 8) sc_l_statement.nd rfl (by first | exact Or.inl rfl | exact Or.inr rfl) (a_call (g_call (ok_l_drawE T) (hr.mono (by omega)) (by rfl) pass0 (aa_cons (a_var (pv 0)) (aa_cons (a_callB (o_len (K := K)) (by rfl) T.b_len PySem.boot_len (aa_cons (a_ix (o_ix (K := K)) (a_var (pv 1)) a_int (fun _ _ => rfl)) aa_nil)) aa_nil))))))
    (as_one (as_ret (ps_ret (a_tup (aa_cons a_str (aa_cons (a_var (pv 8)) (aa_cons (a_call (g_call (ok_l_index T 4) (hr.mono (by omega)) (by rfl) pass0 (aa_cons (a_var (pv 0)) (aa_cons (a_var (pv 1)) (aa_cons (a_var (pv 8)) (aa_cons a_int aa_nil)))))) (aa_cons (a_call (g_call (ok_l_expression T 4) (hr.mono (by omega)) (by rfl) pass0 (aa_cons (a_var (pv 0)) (aa_cons (a_var (pv 1)) (aa_cons a_int aa_nil))))) aa_nil)))))))))
  as_nil)
  (as_cons (as_if (a_tcmp (o_eq (K := K) (un64 hr)) (a_var (pv 3)) a_int (nomark _))
  (as_one (as_ret (ps_ret (a_tup (aa_cons a_str (aa_cons (a_call (g_call (ok_l_expression T 4) (hr.mono (by omega)) (by rfl) pass0 (aa_cons (a_var (pv 0)) (aa_cons (a_var (pv 1)) (aa_cons a_int aa_nil))))) aa_nil))))))
  as_nil)
  (as_one (as_ret (ps_ret (a_tup (aa_cons a_str (aa_cons (a_var (pv 4)) (aa_cons (a_call (g_call (ok_l_expression T 4) (hr.mono (by omega)) (by rfl) pass0 (aa_cons (a_var (pv 0)) (aa_cons (a_var (pv 1)) (aa_cons a_int aa_nil))))) aa_nil))))))))))))))), ?_⟩
      have hnl := hs.nl
      have hnb := hs.nb
      have hnp := hs.np
      have hni := hs.ni
      walk_at "rd"
      walk_at "dr"
      intro kd s1 k0 k1 f1
      walk_at "rd"
      refine ⟨p, s1, _, _, rfl, hp.put, by omega, fun lo s2 l0 l1 f2 => ?_⟩
      obtain ⟨l, rfl⟩ := nat_of l0
      walk_at "rd"
      refine s_cut (fun xs M' => ∃ v5 v6 v7 v8 s3, xs = [some (.r p), some (shD h sizes), some (natD deep), some (.int kd), some (natD l), v5, v6, v7, v8] ∧ M' = u (PoolS.ob s3) ∧ s3.e.toNat ≤ s.e.toNat) ?_ ?_
      · walk_at "rd"
        refine G.i_d (fun h1 => ?_) (fun h1 => ?_)
        · walk_at "rd"
          refine G.i_d (fun h2 => ?_) (fun h2 => ?_)
          · have hx : (((deep : Nat) : Int) - 1) = ((deep - 1 : Nat) : Int) := by omega
            walk_at "rd"
            refine ⟨p, s2, _, h, sizes, 3, rfl, hp.put, hs, by omega, fun s3 t ht ws3 => ?_⟩
            walk_at "rd"
            rw [hx]
            refine ⟨p, s3, _, h, sizes, deep - 1, 3, rfl, hp.put, hs, by omega, by omega, fun s4 a ha hal hac => ?_⟩
            walk_at "rd"
            rw [hx]
            refine ⟨p, s4, _, h, sizes, deep - 1, 2, rfl, hp.put, hs, by omega, by omega, fun s5 b hb hbl hbc => ?_⟩
            walk_at "rd"
            have kk := k s5 (.ifs t a b) ⟨by omega, ht.mono (by omega), ⟨by omega, ha⟩, ⟨by omega, hb⟩⟩ (by simp only [St.wt, stsWt_app, stsWt, Ex.wt]; omega)
            rw [St.d, stsD_map, stsD_map] at kk
            exact kk
          · walk_at "rd"
            exact ⟨_, _, _, _, s2, rfl, rfl, by omega⟩
        · walk_at "rd"
          exact ⟨_, _, _, _, s2, rfl, rfl, by omega⟩
      · rintro xs M' ⟨v5, v6, v7, v8, s3, rfl, rfl, gs3⟩
        refine s_cut (fun xs M' => ∃ v5 v6 v7 v8 s3, xs = [some (.r p), some (shD h sizes), some (natD deep), some (.int kd), some (natD l), v5, v6, v7, v8] ∧ M' = u (PoolS.ob s3) ∧ s3.e.toNat ≤ s.e.toNat) ?_ ?_
        · walk_at "rd"
          refine G.i_d (fun h1 => ?_) (fun h1 => ?_)
          · walk_at "rd"
            refine G.i_d (fun h2 => ?_) (fun h2 => ?_)
            · have hx : (((deep : Nat) : Int) - 1) = ((deep - 1 : Nat) : Int) := by omega
              walk_at "rd"
              refine ⟨p, s3, _, h, sizes, 2, rfl, hp.put, hs, by omega, fun s4 t ht ws4 => ?_⟩
              walk_at "rd"
              rw [hx]
              refine ⟨p, s4, _, h, sizes, deep - 1, 3, rfl, hp.put, hs, by omega, by omega, fun s5 a ha hal hac => ?_⟩
              walk_at "rd"
              have kk := k s5 (.wh t (a ++ [.set l (.op "/" (.loc l) (.num 2))])) ⟨by omega, ht.mono (by omega), by rw [List.length_append, List.length_singleton]; omega, by
                rw [stsOk_iff] at ha ⊢
                intro y hy
                rcases List.mem_append.mp hy with q | q
                · exact ha y q
                · rw [List.mem_singleton.mp q]
                  exact ⟨by omega, ⟨by simp [opsL], by show l < h.nl; omega, by show 2 < 65536; omega⟩, by simp [Ex.dep]⟩⟩ (by simp only [St.wt, stsWt_app, stsWt, Ex.wt]; omega)
              rw [St.d, stsD_map, List.map_append] at kk
              exact kk
            · walk_at "rd"
              exact ⟨_, _, _, _, s3, rfl, rfl, by omega⟩
          · walk_at "rd"
            exact ⟨_, _, _, _, s3, rfl, rfl, by omega⟩
        · rintro xs M' ⟨v5, v6, v7, v8, s4, rfl, rfl, gs4⟩
          refine s_cut (fun xs M' => ∃ v5 v6 v7 v8 s3, xs = [some (.r p), some (shD h sizes), some (natD deep), some (.int kd), some (natD l), v5, v6, v7, v8] ∧ M' = u (PoolS.ob s3) ∧ s3.e.toNat ≤ s.e.toNat) ?_ ?_
          · walk_at "rd"
            refine G.i_d (fun h1 => ?_) (fun h1 => ?_)
            · walk_at "rd"
              refine G.i_d (fun h2 => ?_) (fun h2 => ?_)
              · walk_at "rd"
                refine ⟨p, s4, _, _, rfl, hp.put, by omega, fun i s5 i0 i1 ws5 => ?_⟩
                obtain ⟨i, rfl⟩ := nat_of i0
                walk_at "rd"
                refine ⟨p, s5, _, h, sizes, 3, rfl, hp.put, hs, by omega, fun s6 e he ws6 => ?_⟩
                walk_at "rd"
                exact k s6 (.use l i e) ⟨by omega, by omega, he.mono (by omega)⟩ (by simp only [St.wt]; omega)
              · walk_at "rd"
                exact ⟨_, _, _, _, s4, rfl, rfl, by omega⟩
            · walk_at "rd"
              exact ⟨_, _, _, _, s4, rfl, rfl, by omega⟩
          · rintro xs M' ⟨v5, v6, v7, v8, s5, rfl, rfl, gs5⟩
            walk_at "rd"
            refine G.i_d (fun h1 => ?_) (fun h1 => ?_)
            · walk_at "rd"
              refine ⟨p, s5, _, _, rfl, hp.put, by omega, fun i s6 i0 i1 ws6 => ?_⟩
              obtain ⟨i, rfl⟩ := nat_of i0
              walk_at "rd"
              refine ⟨p, s6, _, h, sizes, 2, rfl, hp.put, hs, by omega, fun s7 e he ws7 => ?_⟩
              walk_at "rd"
              exact k s7 (.call l i e) ⟨by omega, by omega, he.mono (by omega)⟩ (by simp only [St.wt]; omega)
            · walk_at "rd"
              refine s_cut (fun xs M' => ∃ v5 v6 v7 v8 s3, xs = [some (.r p), some (shD h sizes), some (natD deep), some (.int kd), some (natD l), v5, v6, v7, v8] ∧ M' = u (PoolS.ob s3) ∧ s3.e.toNat ≤ s.e.toNat) ?_ ?_
              · walk_at "rd"
                refine G.i_d (fun h2 => ?_) (fun h2 => ?_)
                · walk_at "rd"
                  rw [List.length_map]
                  refine G.i_d (fun h3 => ?_) (fun h3 => ?_)
                  · walk_at "rd"
                    rw [List.length_map]
                    refine ⟨p, s5, _, _, rfl, hp.put, by omega, fun i s6 i0 i1 ws6 => ?_⟩
                    obtain ⟨b, rfl⟩ := nat_of i0
                    walk_at "rd"
                    refine ⟨p, s6, _, h, sizes, b, 3, rfl, hp.put, hs, by omega, by omega, fun s7 e he ws7 => ?_⟩
                    walk_at "rd"
                    refine ⟨p, s7, _, h, sizes, 3, rfl, hp.put, hs, by omega, fun s8 e2 he2 ws8 => ?_⟩
                    walk_at "rd"
                    exact k s8 (.put b e e2) ⟨by omega, he.mono (by decide), he2.mono (by omega)⟩ (by simp only [St.wt]; omega)
                  · walk_at "rd"
                    exact ⟨_, _, _, _, s5, rfl, rfl, by omega⟩
                · walk_at "rd"
                  exact ⟨_, _, _, _, s5, rfl, rfl, by omega⟩
              · rintro xs M' ⟨v5, v6, v7, v8, s6, rfl, rfl, gs6⟩
                walk_at "rd"
                refine G.i_d (fun h2 => ?_) (fun h2 => ?_)
                · walk_at "rd"
                  refine ⟨p, s6, _, h, sizes, 3, rfl, hp.put, hs, by omega, fun s7 e he ws7 => ?_⟩
                  walk_at "rd"
                  exact k s7 (.ret e) (he.mono (by omega)) (by simp only [St.wt]; omega)
                · walk_at "rd"
                  refine ⟨p, s6, _, h, sizes, 4, rfl, hp.put, hs, by omega, fun s7 e he ws7 => ?_⟩
                  walk_at "rd"
                  exact k s7 (.set l e) ⟨by omega, he⟩ (by simp only [St.wt]; omega)
end




/-! ### wide components -/
def sp_l_wide : ASp := fun ds M Q _ => ∃ (p : Addr) (s : PoolS) (u : Ob → Mem) (ni : Nat), ds = [.r p, natD ni] ∧ At M p s.ob u ∧ ni ≤ 100 ∧ ∀ (s' : PoolS) (c : Cm), (1 ≤ c.procs.length ∧ c.procs.length ≤ 8) → c.ok 6 c.procs.length ni → ((∀ q ∈ c.procs, stsWt q.2 ≤ 75) ∧ ∀ b ∈ c.bufs, b.length ≤ 5) → Q c.row (u s'.ob)
theorem pool_e {p : Addr} {u : Ob → Mem} {s : PoolS} {M : Mem} {b : Int} {Q : Mem → Prop} (h : At M p (PoolS.ob s) u) (k : ∀ s' : PoolS, s'.e = b → Q (u s'.ob)) : aSet (.r p) (.int 5) (.int b) M Q := by
  obtain ⟨a, b', c, d, e, ns, h0⟩ := s
  exact ⟨p, _, 5, 5, u, rfl, rfl, h, rfl, k ⟨a, b', c, d, b, ns, h0⟩ rfl⟩
section
variable {P : Program} {w : World} {K : PySem.W.Frag} {mg : Str → Option Value} {base : Heap} {C : Cs}
theorem ok_l_wide (T : Top K mg) : Cal P w K mg base CX0 32 "_law_wide" ["pool", "imports"] (conSp K sp_l_wide) := by
  refine def_A T.f_l_wide sc_l_wide (fun _ _ _ _ _ _ us hl => match us, hl with | [_, _], _ => rfl) (fun ds M Q E h => ?_) (fun f cdv Ar outer s H E ds M Q EX hr h => ?_)
  · obtain ⟨p, s, u, ni, rfl, _⟩ := h
    rfl
  · obtain ⟨p, s, u, ni, rfl, hp, hni, k⟩ := h
    refine ⟨_, (as_cons (as_setLc finD_ok (ps_setLc (i := 2) (own := [("k", 3)]) rfl sc_l_wide.nd rfl rfl (sw_true rfl rfl rfl (by decide +kernel)) (ai_r1 (pi_range1 rfl T.b_range (aa_cons (a_call (g_call (ok_l_few T) (hr.mono (by decide)) (by rfl) pass0 (aa_cons (a_var (pv 0)) (aa_cons a_int aa_nil)))) aa_nil))) (blkOk_by (own := [("k", 3)]) (N := ["pool", "imports", "sizes", "k", "buffers", "size", "count", "procedures", "cells"]) (sc := defScope s_l_wide) (by decide +kernel)) (fun _ _ _ _ _ => (ag_name (pg_name (i := 3) sc_l_wide.nd rfl (Or.inl rfl)))) (fun _ _ _ _ _ => ats_nil) (fun _ _ _ _ _ => (a_op (o_add (K := K)) a_int (a_call (g_call (ok_l_draw T) (hr.mono (by decide)) (by rfl) pass0 (aa_cons (a_var (pv 0)) (aa_cons a_int aa_nil))))))))
  (as_cons (as_set (ps_set (i := 4) sc_l_wide.nd rfl (by first | exact Or.inl rfl | exact Or.inr rfl) (a_callTy (o_tup (K := K)) (by rfl) T.b_tuple (by decide +kernel) (aa_cons (a_lc finD_ok (pe_lc (own := [("size", 5)]) rfl sc_l_wide.nd (ai_of (g_it (K := K) (a_var (pv 2)))) (blkOk_by (own := [("size", 5)]) (N := ["pool", "imports", "sizes", "k", "buffers", "size", "count", "procedures", "cells"]) (sc := defScope s_l_wide) (by decide +kernel)) (fun _ _ _ _ _ => (ag_name (pg_name (i := 5) sc_l_wide.nd rfl (Or.inl rfl)))) (fun _ _ _ _ _ => ats_nil) (fun _ _ _ _ _ => (a_callTy (o_tup (K := K)) (by rfl) T.b_tuple (by decide +kernel) (aa_cons (a_lc finD_ok (pe_lc (own := [("k", 3)]) rfl sc_l_wide.nd (ai_r1 (pi_range1 rfl T.b_range (aa_cons (a_var (pv 5)) aa_nil))) (blkOk_by (own := [("k", 3)]) (by kernel_rfl)) (fun _ _ _ _ _ => (ag_name (pg_name (i := 3) sc_l_wide.nd rfl (Or.inl rfl)))) (fun _ _ _ _ _ => ats_nil) (fun _ _ _ _ _ => (a_call (g_call (ok_l_number T) (hr.mono (by decide)) (by rfl) pass0 (aa_cons (a_var (pv 0)) aa_nil)))))) aa_nil))))) aa_nil))))
  (as_cons (as_set (ps_set (i := 6) sc_l_wide.nd rfl (by first | exact Or.inl rfl | exact Or.inr rfl) (a_op (o_add (K := K)) a_int (a_call (g_call (ok_l_draw T) (hr.mono (by decide)) (by rfl) pass0 (aa_cons (a_var (pv 0)) (aa_cons a_int aa_nil)))))))
  (as_cons (as_set (ps_set (i := 7) sc_l_wide.nd rfl (by first | exact Or.inl rfl | exact Or.inr rfl) (a_lstO aa_nil)))
  (as_cons (as_for (ps_for PassesOwn.never rfl (ai_r1 (pi_range1 rfl T.b_range (aa_cons (a_var (pv 6)) aa_nil))) (ag_name (pg_name (i := 3) sc_l_wide.nd rfl (by first | exact Or.inl rfl | exact Or.inr rfl)))
  (as_cons (as_set (ps_set (i := 8) sc_l_wide.nd rfl (by first | exact Or.inl rfl | exact Or.inr rfl) (a_op (o_add (K := K)) a_int (a_call (g_call (ok_l_draw T) (hr.mono (by decide)) (by rfl) pass0 (aa_cons (a_var (pv 0)) (aa_cons a_int aa_nil)))))))
    (as_cons (as_asg (ps_asg a_int (ag_sub (pg_sub (a_var (pv 0)) a_int set_list))))
    (as_one (as_drop (ps_expr (a_bm o_app (pe_bm PySem.F.plainAttrs_list PySem.F.slot_list_append PySem.F.type_list_append mt_append (a_var (pv 7)) (aa_cons (a_tup (aa_cons (a_var (pv 8)) (aa_cons (a_call (g_call (ok_l_block_of T 7 (ok_l_statement T 7)) (hr.mono (by decide)) (by rfl) pass0 (aa_cons (a_var (pv 0)) (aa_cons (a_lst (aa_cons (a_var (pv 8)) (aa_cons (a_var (pv 2)) (aa_cons (a_var (pv 6)) (aa_cons (a_var (pv 1)) aa_nil))))) (aa_cons a_int (aa_cons a_int aa_nil)))))) aa_nil))) aa_nil))))))))))
  (as_one (as_ret (ps_ret (a_tup (aa_cons (a_call (g_call (ok_l_draw T) (hr.mono (by decide)) (by rfl) pass0 (aa_cons (a_var (pv 0)) (aa_cons a_int aa_nil)))) (aa_cons (a_var (pv 4)) (aa_cons (a_callTy (o_tup (K := K)) (by rfl) T.b_tuple (by decide +kernel) (aa_cons (a_var (pv 7)) aa_nil)) aa_nil)))))))))))), ?_⟩
    walk_at "rd"
    refine ⟨p, s, _, _, rfl, hp, by decide, fun c s1 c0 c1 => ?_⟩
    walk_at "rd"
    intro A1
    refine c_inv (fun i acc M' => ∃ (sz : List Nat) (s' : PoolS), acc = sz.map natD ∧ sz.length = i ∧ (∀ x ∈ sz, 1 ≤ x ∧ x ≤ 5) ∧ M' = u s'.ob) ⟨[], s1, rfl, rfl, by simp, rfl⟩ ?_ ?_
    · rintro i d acc M' hd hal ⟨sz, s2, rfl, hl, hsz, rfl⟩
      obtain ⟨hi, rfl⟩ := rng_get hd
      walk_at "rd"
      refine ⟨p, s2, _, _, rfl, .tl hp.put, by decide, fun v s3 v0 v1 => ?_⟩
      obtain ⟨v, rfl⟩ := nat_of v0
      walk_at "rd"
      refine .mk hal (by rw [line_val]; omega) ⟨sz ++ [1 + v], s3, by rw [List.map_append]; simp, by rw [List.length_append, hl]; rfl, fun x hx => ?_, rfl⟩
      rcases List.mem_append.mp hx with q | q
      · exact hsz x q
      · rw [List.mem_singleton.mp q]; omega
    · rintro acc M' hal ⟨sz, s2, rfl, hl, hsz, rfl⟩
      have hsl : sz.length ≤ 8 := by rw [List.length_map, List.length_range] at hl; omega
      refine fin_d ?_
      walk_at "rd"
      intro A2
      refine c_inv (fun i acc M' => ∃ (bs : List (List Nat)) (s' : PoolS), acc = bs.map bufD ∧ bs.length = i ∧ (∀ x ∈ bs, (1 ≤ x.length ∧ x.length ≤ 5) ∧ ∀ y ∈ x, y < 65536) ∧ M' = u s'.ob) ⟨[], s2, rfl, rfl, by simp, rfl⟩ ?_ ?_
      · rintro i d acc M' hd hal ⟨bs, s3, rfl, hl2, hbs, rfl⟩
        obtain ⟨z, hz, rfl⟩ := map_get hd
        have hzi := (List.getElem?_eq_some_iff.mp hz).1
        have hzz := hsz z (List.mem_of_getElem? hz)
        walk_at "rd"
        intro A3
        refine c_inv (fun j acc M' => ∃ (ws : List Nat) (s' : PoolS), acc = ws.map natD ∧ ws.length = j ∧ (∀ y ∈ ws, y < 65536) ∧ M' = (A2, .lst (bs.map bufD)) :: u s'.ob) ⟨[], s3, rfl, rfl, by simp, rfl⟩ ?_ ?_
        · rintro j d acc M' hd hal2 ⟨ws, s4, rfl, hl3, hws, rfl⟩
          obtain ⟨hj, rfl⟩ := rng_get hd
          walk_at "rd"
          refine ⟨p, s4, _, rfl, .tl (.tl hp.put), fun v s5 v0 v1 => ?_⟩
          obtain ⟨v, rfl⟩ := nat_of v0
          walk_at "rd"
          refine .mk hal2 (by rw [line_val]; omega) ⟨ws ++ [v], s5, by rw [List.map_append]; rfl, by rw [List.length_append, hl3]; rfl, fun x hx => ?_, rfl⟩
          rcases List.mem_append.mp hx with q | q
          · exact hws x q
          · rw [List.mem_singleton.mp q]; omega
        · rintro acc M' hal2 ⟨ws, s4, rfl, hl3, hws, rfl⟩
          rw [List.length_map, List.length_range] at hl3
          refine fin_d ?_
          walk_at "rd"
          refine .mk hal (by rw [line_val]; omega) ⟨bs ++ [ws], s4, by rw [List.map_append]; rfl, by rw [List.length_append, hl2]; rfl, fun x hx => ?_, rfl⟩
          rcases List.mem_append.mp hx with q | q
          · exact hbs x q
          · rw [List.mem_singleton.mp q]; exact ⟨by omega, hws⟩
      · rintro acc M' hal ⟨bs, s3, rfl, hl2, hbs, rfl⟩
        rw [List.length_map] at hl2
        refine fin_d ?_
        walk_at "rd"
        refine ⟨p, s3, _, _, rfl, hp.put, by decide, fun v s4 v0 v1 => ?_⟩
        obtain ⟨v, rfl⟩ := nat_of v0
        walk_at "rd"
        intro R
        walk_at "rd"
        refine f_rng (fun i xs M' => ∃ (v5 v10 : Option D) (ps : List (Nat × List St)) (s' : PoolS), xs = [some (.r p), some (natD ni), some (.lst (sz.map natD)), v5, some (.tup (bs.map bufD)), none, some (.int (1 + (v : Int))), some (.r R), v10] ∧ M' = (R, .lst (ps.map procD)) :: u s'.ob ∧ ps.length = i ∧
          ∀ q ∈ ps, ((1 ≤ q.1 ∧ q.1 ≤ 16) ∧ BkOk ⟨q.1, bs.length, 1 + v, ni⟩ 6 q.2) ∧ stsWt q.2 ≤ 75) ⟨_, _, [], s4, rfl, rfl, rfl, by simp⟩ ?_ ?_
        · rintro i xs M' hi ⟨v5, v10, ps, s5, rfl, rfl, hpl, hps⟩
          walk_at "rd"
          refine ⟨p, s5, _, _, rfl, .tl hp.put, by decide, fun c s6 c0 c1 => ?_⟩
          obtain ⟨c, rfl⟩ := nat_of c0
          walk_at "rd"
          refine pool_e (.tl hp.put) fun s7 e7 => ?_
          walk_at "rd"
          refine ⟨p, s7, _, ⟨1 + c, bs.length, 1 + v, ni⟩, sz, 6, 5, by simp [shD], .tl hp.put, ⟨by show 1 ≤ 1 + c ∧ 1 + c ≤ 100; omega, ⟨by show sz.length = bs.length; omega, by show bs.length ≤ 100; omega⟩, fun x hx => by have := hsz x hx; omega, by show 1 ≤ 1 + v ∧ 1 + v ≤ 100; omega, hni⟩, by decide, by decide, fun s8 xs hxs hxl hxc => ?_⟩
          walk_at "rd"
          refine ⟨_, _, ps ++ [(1 + c, xs)], s8, rfl, by rw [List.map_append]; simp, by rw [List.length_append, hpl]; rfl, fun q hq => ?_⟩
          rcases List.mem_append.mp hq with z | z
          · exact hps q z
          · rw [List.mem_singleton.mp z]; exact ⟨⟨⟨by show 1 ≤ 1 + c; omega, by show 1 + c ≤ 16; omega⟩, by show xs.length ≤ 2000; omega, hxs⟩, by show stsWt xs ≤ _; rw [e7] at hxc; omega⟩
        · rintro xs M' ⟨v5, v10, ps, s5, rfl, rfl, hpl, hps⟩
          walk_at "rd"
          refine ⟨p, s5, _, _, rfl, .tl hp.put, by decide, fun r s6 r0 r1 => ?_⟩
          obtain ⟨rm, rfl⟩ := nat_of r0
          walk_at "re"
          have hpl' : ps.length = 1 + v := by omega
          refine .fz (FzV.drop .hd) (k s6 ⟨rm, bs, ps⟩ ⟨by show 1 ≤ ps.length; omega, by show ps.length ≤ 8; omega⟩ ⟨by show rm ≤ 20000; omega, by show bs.length ≤ 8; omega, fun b' hb' => ⟨by have := (hbs b' hb').1; omega, (hbs b' hb').2⟩, by show 1 ≤ ps.length ∧ ps.length ≤ ps.length ∧ ps.length ≤ 9; omega, fun q hq => ?_⟩ ⟨fun q hq => (hps q hq).2, fun b' hb' => (hbs b' hb').1.2⟩)
          have := (hps q hq).1
          rw [← hpl'] at this
          exact this
end




/-! ### the law's own words of a component -/
theorem add_len {c : Str} {n : Nat} (hc : c.length ≤ 10) (hn : n < 65536) : c.length + (Str.ofString (toString (n : Int))).length ≤ sizeLine := by
  have := num_len hn
  rw [line_val]
  omega
theorem letS_add {c : Str} {n : Nat} : letS c n = c ++ Str.ofString (toString (n : Int)) := letS_eq
theorem one_len {c : Str} (h : One c) : c.length ≤ 10 := by
  obtain ⟨k, hk⟩ := h
  rw [len_tl, hk]
  exact Nat.le_of_ble_eq_true rfl
def sp_lexws (d : Nat) : ASp := fun ds M Q _ => ∃ (e : Ex) (h : Sh), ds = [e.d] ∧ e.ok h ∧ (h.nl ≤ 1000 ∧ h.nb ≤ 1000) ∧ e.dep ≤ d ∧ d ≤ 8 ∧ Q (.lst (e.ws.map D.str)) M
def sp_lblws (n : Nat) : ASp := fun ds M Q _ => ∃ (xs : List St) (h : Sh) (m : Nat), ds = [.tup (xs.map St.d)] ∧ m < n ∧ stsOk h xs m ∧ (h.nl ≤ 1000 ∧ h.nb ≤ 1000 ∧ h.np ≤ 1000 ∧ h.ni ≤ 1000) ∧ (stsWs xs).length ≤ 1000000 ∧ Q (.lst ((stsWs xs).map D.str)) M
def sp_lwords : ASp := fun ds M Q _ => ∃ (c : Cm) (e ni : Nat), ds = [c.row] ∧ c.ok 6 e ni ∧ ni ≤ 1000 ∧ c.ws.length ≤ 1000000 ∧ Q (.lst (c.ws.map D.str)) M
section
variable {P : Program} {w : World} {K : PySem.W.Frag} {mg : Str → Option Value} {base : Heap} {C : Cs}
theorem ok_l_expression_words (T : Top K mg) : ∀ d, Cal P w K mg base CX0 (d + 1) "_law_expression_words" ["due"] (conSp K (sp_lexws d))
  | 0 => by
    refine def_A T.f_l_expression_words sc_l_expression_words (fun _ _ _ _ _ _ us hl => match us, hl with | [_], _ => rfl) (fun ds M Q E h => ?_) (fun f cdv Ar outer s H E ds M Q EX hr h => ?_)
    · obtain ⟨e, h, rfl, _⟩ := h
      rfl
    · obtain ⟨e, h, rfl, _, _, hd, _⟩ := h
      exact absurd e.dep_pos (by omega)
  | d + 1 => by
    refine def_A (k := d + 1) T.f_l_expression_words sc_l_expression_words (fun _ _ _ _ _ _ us hl => match us, hl with | [_], _ => rfl) (fun ds M Q E h => ?_) (fun f cdv Ar outer s H E ds M Q EX hr h => ?_)
    · obtain ⟨e, h, rfl, _⟩ := h
      rfl
    · obtain ⟨e, h, rfl, ok, hsh, hd, hd8, k⟩ := h
      refine ⟨_, (as_cons (as_if (a_tcmp (o_eq (K := K) (un64 hr)) (a_ix (o_ix (K := K)) (a_var (pv 0)) a_int (fun _ _ => rfl)) a_str (nomark _))
  (as_one (as_ret (ps_ret (a_lst (aa_cons (a_callTy o_str (by rfl) T.b_str (by decide +kernel) (aa_cons (a_ix (o_ix (K := K)) (a_var (pv 0)) a_int (fun _ _ => rfl)) aa_nil)) aa_nil)))))
  as_nil)
  (as_cons (as_if (a_tcmp (o_eq (K := K) (un64 hr)) (a_ix (o_ix (K := K)) (a_var (pv 0)) a_int (fun _ _ => rfl)) a_str (nomark _))
  (as_one (as_ret (ps_ret (a_lst (aa_cons (a_op (o_add (K := K)) a_str (a_callTy o_str (by rfl) T.b_str (by decide +kernel) (aa_cons (a_ix (o_ix (K := K)) (a_var (pv 0)) a_int (fun _ _ => rfl)) aa_nil))) aa_nil)))))
  as_nil)
  (as_cons (as_if (a_tcmp (o_eq (K := K) (un64 hr)) (a_ix (o_ix (K := K)) (a_var (pv 0)) a_int (fun _ _ => rfl)) a_str (nomark _))
  (as_one (as_ret (ps_ret (a_op (o_add (K := K)) (a_lst (aa_cons a_str (aa_cons (a_op (o_add (K := K)) a_str (a_callTy o_str (by rfl) T.b_str (by decide +kernel) (aa_cons (a_ix (o_ix (K := K)) (a_var (pv 0)) a_int (fun _ _ => rfl)) aa_nil))) aa_nil))) (a_call (g_call (ok_l_expression_words T d) (hr.mono (by omega)) (by rfl) pass0 (aa_cons (a_ix (o_ix (K := K)) (a_var (pv 0)) a_int (fun _ _ => rfl)) aa_nil)))))))
  as_nil)
  (as_one (as_ret (ps_ret (a_op (o_add (K := K)) (a_op (o_add (K := K)) (a_lst (aa_cons (a_ix (o_ix (K := K)) (a_var (pv 0)) a_int (fun _ _ => rfl)) aa_nil)) (a_call (g_call (ok_l_expression_words T d) (hr.mono (by omega)) (by rfl) pass0 (aa_cons (a_ix (o_ix (K := K)) (a_var (pv 0)) a_int (fun _ _ => rfl)) aa_nil)))) (a_call (g_call (ok_l_expression_words T d) (hr.mono (by omega)) (by rfl) pass0 (aa_cons (a_ix (o_ix (K := K)) (a_var (pv 0)) a_int (fun _ _ => rfl)) aa_nil)))))))))), ?_⟩
      cases e with
      | num n =>
        have hn : n < 65536 := ok
        rw [Ex.d]
        walk_at "rd"
        exact k
      | loc n =>
        have hn : n < h.nl := ok
        have hz := add_len (c := "l") (n := n) (by decide +kernel) (by omega)
        rw [Ex.ws, letS_add] at k
        rw [Ex.d]
        walk_at "rd"
        exact k
      | get b e =>
        have hb : b < h.nb := ok.1
        have hz := add_len (c := "b") (n := b) (by decide +kernel) (by omega)
        have hde : e.dep ≤ d := by rw [Ex.dep] at hd; omega
        have hwl := Ex.ws_le hde (by omega)
        rw [Ex.ws, letS_add] at k
        rw [Ex.d]
        walk_at "rd"
        refine ⟨e, h, rfl, ok.2, hsh, hde, by omega, ?_⟩
        walk_at "rd"
        exact k
      | op z a b =>
        obtain ⟨hz, ha, hb⟩ := ok
        have hda : a.dep ≤ d := by rw [Ex.dep] at hd; omega
        have hdb : b.dep ≤ d := by rw [Ex.dep] at hd; omega
        have hwa := Ex.ws_le hda (by omega)
        have hwb := Ex.ws_le hdb (by omega)
        obtain ⟨o1, o2, o3⟩ := ops_no hz
        rw [Ex.d]
        walk_at "rd"
        refine ⟨a, h, rfl, ha, hsh, hda, by omega, ?_⟩
        walk_at "rd"
        refine ⟨b, h, rfl, hb, hsh, hdb, by omega, ?_⟩
        walk_at "rd"
        rw [Ex.ws, List.map_cons, List.map_append] at k
        exact k
theorem ok_l_block_words (T : Top K mg) : ∀ n, Cal P w K mg base CX0 (n + 7) "_law_block_words" ["block"] (conSp K (sp_lblws n))
  | 0 => by
    refine def_A (k := 6) T.f_l_block_words sc_l_block_words (fun _ _ _ _ _ _ us hl => match us, hl with | [_], _ => rfl) (fun ds M Q E h => ?_) (fun f cdv Ar outer s H E ds M Q EX hr h => ?_)
    · obtain ⟨x, h, m, rfl, _⟩ := h
      rfl
    · obtain ⟨x, h, m, _, hm, _⟩ := h
      exact absurd hm (Nat.not_lt_zero _)
  | n + 1 => by
    refine def_A (k := n + 7) T.f_l_block_words sc_l_block_words (fun _ _ _ _ _ _ us hl => match us, hl with | [_], _ => rfl) (fun ds M Q E h => ?_) (fun f cdv Ar outer s H E ds M Q EX hr h => ?_)
    · obtain ⟨xs, h, m, rfl, _⟩ := h
      rfl
    · obtain ⟨xs, h, m, rfl, hm, ok, hsh, hw, k⟩ := h
      refine ⟨_, (as_cons (as_set (ps_set (i := 1) sc_l_block_words.nd rfl (by first | exact Or.inl rfl | exact Or.inr rfl) (a_lst aa_nil)))
  (as_cons (as_for (ps_for PassesOwn.never rfl (ai_of (g_it (K := K) (a_var (pv 0)))) (ag_name (pg_name (i := 2) sc_l_block_words.nd rfl (by first | exact Or.inl rfl | exact Or.inr rfl)))
  (as_one (as_if (a_tcmp (o_eq (K := K) (un64 hr)) (a_ix (o_ix (K := K)) (a_var (pv 2)) a_int (fun _ _ => rfl)) a_str (nomark _))
    (as_one (as_set (ps_set (i := 1) sc_l_block_words.nd rfl (by first | exact Or.inl rfl | exact Or.inr rfl) (a_op (o_add (K := K)) (a_op (o_add (K := K)) (a_var (pv 1)) (a_lst (aa_cons a_str aa_nil))) (a_call (g_call (ok_l_expression_words T 4) (hr.mono (by omega)) (by rfl) pass0 (aa_cons (a_ix (o_ix (K := K)) (a_var (pv 2)) a_int (fun _ _ => rfl)) aa_nil)))))))
    (as_one (as_if (a_tcmp (o_eq (K := K) (un64 hr)) (a_ix (o_ix (K := K)) (a_var (pv 2)) a_int (fun _ _ => rfl)) a_str (nomark _))
      (as_one (as_set (ps_set (i := 1) sc_l_block_words.nd rfl (by first | exact Or.inl rfl | exact Or.inr rfl) (a_op (o_add (K := K)) (a_op (o_add (K := K)) (a_var (pv 1)) (a_lst (aa_cons a_str (aa_cons (a_op (o_add (K := K)) a_str (a_callTy o_str (by rfl) T.b_str (by decide +kernel) (aa_cons (a_ix (o_ix (K := K)) (a_var (pv 2)) a_int (fun _ _ => rfl)) aa_nil))) aa_nil)))) (a_call (g_call (ok_l_expression_words T 4) (hr.mono (by omega)) (by rfl) pass0 (aa_cons (a_ix (o_ix (K := K)) (a_var (pv 2)) a_int (fun _ _ => rfl)) aa_nil)))))))
      (as_one (as_if (a_tcmp (o_eq (K := K) (un64 hr)) (a_ix (o_ix (K := K)) (a_var (pv 2)) a_int (fun _ _ => rfl)) a_str (nomark _))
        (as_one (as_set (ps_set (i := 1) sc_l_block_words.nd rfl (by first | exact Or.inl rfl | exact Or.inr rfl) (a_op (o_add (K := K)) (a_op (o_add (K := K)) (a_op (o_add (K := K)) (a_var (pv 1)) (a_lst (aa_cons a_str (aa_cons (a_op (o_add (K := K)) a_str (a_callTy o_str (by rfl) T.b_str (by decide +kernel) (aa_cons (a_ix (o_ix (K := K)) (a_var (pv 2)) a_int (fun _ _ => rfl)) aa_nil))) aa_nil)))) (a_call (g_call (ok_l_expression_words T 4) (hr.mono (by omega)) (by rfl) pass0 (aa_cons (a_ix (o_ix (K := K)) (a_var (pv 2)) a_int (fun _ _ => rfl)) aa_nil)))) (a_call (g_call (ok_l_expression_words T 4) (hr.mono (by omega)) (by rfl) pass0 (aa_cons (a_ix (o_ix (K := K)) (a_var (pv 2)) a_int (fun _ _ => rfl)) aa_nil)))))))
        (as_one (as_if (a_tcmp (o_eq (K := K) (un64 hr)) (a_ix (o_ix (K := K)) (a_var (pv 2)) a_int (fun _ _ => rfl)) a_str (nomark _))
          (as_one (as_set (ps_set (i := 1) sc_l_block_words.nd rfl (by first | exact Or.inl rfl | exact Or.inr rfl) (a_op (o_add (K := K)) (a_op (o_add (K := K)) (a_var (pv 1)) (a_lst (aa_cons a_str (aa_cons (a_op (o_add (K := K)) a_str (a_callTy o_str (by rfl) T.b_str (by decide +kernel) (aa_cons (a_ix (o_ix (K := K)) (a_var (pv 2)) a_int (fun _ _ => rfl)) aa_nil))) (aa_cons (a_op (o_add (K := K)) a_str (a_callTy o_str (by rfl) T.b_str (by decide +kernel) (aa_cons (a_ix (o_ix (K := K)) (a_var (pv 2)) a_int (fun _ _ => rfl)) aa_nil))) aa_nil))))) (a_call (g_call (ok_l_expression_words T 4) (hr.mono (by omega)) (by rfl) pass0 (aa_cons (a_ix (o_ix (K := K)) (a_var (pv 2)) a_int (fun _ _ => rfl)) aa_nil)))))))
          (as_one (as_if (a_tcmp (o_eq (K := K) (un64 hr)) (a_ix (o_ix (K := K)) (a_var (pv 2)) a_int (fun _ _ => rfl)) a_str (nomark _))
            (as_one (as_set (ps_set (i := 1) sc_l_block_words.nd rfl (by first | exact Or.inl rfl | exact Or.inr rfl) (a_op (o_add (K := K)) (a_op (o_add (K := K)) (a_var (pv 1)) (a_lst (aa_cons a_str (aa_cons (a_op (o_add (K := K)) a_str (a_callTy o_str (by rfl) T.b_str (by decide +kernel) (aa_cons (a_ix (o_ix (K := K)) (a_var (pv 2)) a_int (fun _ _ => rfl)) aa_nil))) (aa_cons (a_op (o_add (K := K)) a_str (a_callTy o_str (by rfl) T.b_str (by decide +kernel) (aa_cons (a_ix (o_ix (K := K)) (a_var (pv 2)) a_int (fun _ _ => rfl)) aa_nil))) aa_nil))))) (a_call (g_call (ok_l_expression_words T 4) (hr.mono (by omega)) (by rfl) pass0 (aa_cons (a_ix (o_ix (K := K)) (a_var (pv 2)) a_int (fun _ _ => rfl)) aa_nil)))))))
            (as_cons (as_set (ps_set (i := 1) sc_l_block_words.nd rfl (by first | exact Or.inl rfl | exact Or.inr rfl) (a_op (o_add (K := K)) (a_op (o_add (K := K)) (a_op (o_add (K := K)) (a_var (pv 1)) (a_lst (aa_cons (a_ix (o_ix (K := K)) (a_var (pv 2)) a_int (fun _ _ => rfl)) aa_nil))) (a_call (g_call (ok_l_expression_words T 4) (hr.mono (by omega)) (by rfl) pass0 (aa_cons (a_ix (o_ix (K := K)) (a_var (pv 2)) a_int (fun _ _ => rfl)) aa_nil)))) (a_call (g_call (ok_l_block_words T n) (hr.mono (by omega)) (by rfl) pass0 (aa_cons (a_ix (o_ix (K := K)) (a_var (pv 2)) a_int (fun _ _ => rfl)) aa_nil))))))
              (as_cut (as_if (PW.pt (a_and (a_tcmp (o_eq (K := K) (un64 hr)) (a_ix (o_ix (K := K)) (a_var (pv 2)) a_int (fun _ _ => rfl)) a_str (nomark _)) (pw_and1 (a_tcmp o_gt (a_callB (o_len (K := K)) (by rfl) T.b_len PySem.boot_len (aa_cons (a_ix (o_ix (K := K)) (a_var (pv 2)) a_int (fun _ _ => rfl)) aa_nil)) a_int (nomark _)))))
              (as_one (as_set (ps_set (i := 1) sc_l_block_words.nd rfl (by first | exact Or.inl rfl | exact Or.inr rfl) (a_op (o_add (K := K)) (a_op (o_add (K := K)) (a_var (pv 1)) (a_lst (aa_cons a_str aa_nil))) (a_call (g_call (ok_l_block_words T n) (hr.mono (by omega)) (by rfl) pass0 (aa_cons (a_ix (o_ix (K := K)) (a_var (pv 2)) a_int (fun _ _ => rfl)) aa_nil)))))))
              as_nil)
              (as_one (as_set (ps_set (i := 1) sc_l_block_words.nd rfl (by first | exact Or.inl rfl | exact Or.inr rfl) (a_op (o_add (K := K)) (a_var (pv 1)) (a_lst (aa_cons a_str aa_nil))))))))))))))))))))
  (as_one (as_ret (ps_ret (a_var (pv 1))))))), ?_⟩
      have all := stsOk_iff.mp ok
      walk_at "rd"
      refine f_map xs (fun i zs M' => ∃ v, zs = [some (.tup (xs.map St.d)), some (.lst ((stsWs (xs.take i)).map D.str)), v] ∧ M' = M) ⟨none, rfl, rfl⟩ ?_ ?_
      · rintro i x zs M' hx ⟨v, rfl, rfl⟩
        have h1 := stsWs_take hx
        have h2 := stsWs_le (xs := xs) (i := i + 1)
        have h3 := congrArg List.length h1
        rw [List.length_append] at h3
        have okx := all x (List.mem_of_getElem? hx)
        have hxw : x.ws.length ≤ 1000000 := by omega
        have hA : ((stsWs (xs.take i)).map D.str).length + x.ws.length ≤ 1000000 := by rw [List.length_map]; omega
        have hN : (stsWs (xs.take (i + 1))).map D.str = (stsWs (xs.take i)).map D.str ++ x.ws.map D.str := by rw [h1, List.map_append]
        rw [hN]
        clear hN h3 h2 h1
        generalize (stsWs (xs.take i)).map D.str = A at hA ⊢
        cases x with
        | set l e =>
          obtain ⟨o1, o2⟩ := okx
          have hz1 := add_len (c := "l") (n := l) (by decide +kernel) (by omega)
          have hwe := Ex.ws_le o2.2 (by decide)
          rw [St.ws, letS_add, List.map_cons, List.map_cons]
          rw [St.d]
          walk_at "rd"
          refine ⟨e, h, rfl, o2.1, ⟨hsh.1, hsh.2.1⟩, o2.2, by decide, ?_⟩
          walk_at "rd"
          exact ⟨_, by (simp; rfl), rfl⟩
        | put b j e =>
          obtain ⟨o1, o2, o3⟩ := okx
          have hz1 := add_len (c := "b") (n := b) (by decide +kernel) (by omega)
          have hwe := Ex.ws_le o2.2 (by decide)
          have hwe2 := Ex.ws_le o3.2 (by decide)
          rw [St.ws, letS_add, List.map_cons, List.map_cons]
          rw [St.d]
          walk_at "rd"
          refine ⟨j, h, rfl, o2.1, ⟨hsh.1, hsh.2.1⟩, o2.2, by decide, ?_⟩
          walk_at "rd"
          refine ⟨e, h, rfl, o3.1, ⟨hsh.1, hsh.2.1⟩, o3.2, by decide, ?_⟩
          walk_at "rd"
          exact ⟨_, by (simp; rfl), rfl⟩
        | call l p e =>
          obtain ⟨o1, o2, o3⟩ := okx
          have hz1 := add_len (c := "l") (n := l) (by decide +kernel) (by omega)
          have hz2 := add_len (c := "p") (n := p) (by decide +kernel) (by omega)
          have hwe := Ex.ws_le o3.2 (by decide)
          rw [St.ws, letS_add, letS_add, List.map_cons, List.map_cons, List.map_cons]
          rw [St.d]
          walk_at "rd"
          refine ⟨e, h, rfl, o3.1, ⟨hsh.1, hsh.2.1⟩, o3.2, by decide, ?_⟩
          walk_at "rd"
          exact ⟨_, by (simp; rfl), rfl⟩
        | use l q e =>
          obtain ⟨o1, o2, o3⟩ := okx
          have hz1 := add_len (c := "l") (n := l) (by decide +kernel) (by omega)
          have hz2 := add_len (c := "i") (n := q) (by decide +kernel) (by omega)
          have hwe := Ex.ws_le o3.2 (by decide)
          rw [St.ws, letS_add, letS_add, List.map_cons, List.map_cons, List.map_cons]
          rw [St.d]
          walk_at "rd"
          refine ⟨e, h, rfl, o3.1, ⟨hsh.1, hsh.2.1⟩, o3.2, by decide, ?_⟩
          walk_at "rd"
          exact ⟨_, by (simp; rfl), rfl⟩
        | ifs t a b =>
          obtain ⟨o1, o2, o3, o4⟩ := okx
          have e0 : (St.ifs t a b).d = .tup [.str "if", t.d, .tup (a.map St.d), .tup (b.map St.d)] := by rw [St.d, stsD_map, stsD_map]
          rw [St.ws] at hA hxw ⊢
          have hwt := Ex.ws_le o2.2 (by decide)
          simp only [List.length_cons, List.length_append, List.length_nil] at hA
          have hwa : (stsWs a).length ≤ 1000000 := by omega
          rw [e0]
          walk_at "rd"
          refine ⟨t, h, rfl, o2.1, ⟨hsh.1, hsh.2.1⟩, o2.2, by decide, ?_⟩
          walk_at "rd"
          refine ⟨a, h, m - 1, rfl, by omega, o3.2, hsh, hwa, ?_⟩
          walk_at "rd"
          refine s_cut (fun zs M2 => zs = [some (.tup (xs.map St.d)), some (.lst (A ++ (("if" : Str) :: (t.ws ++ stsWs a ++ (if b.isEmpty = true then [] else ("else" : Str) :: stsWs b))).map D.str)), some (.tup [.str "if", t.d, .tup (a.map St.d), .tup (b.map St.d)])] ∧ M2 = M') ?_ ?_
          · cases b with
            | nil =>
              walk_at "rd"
              exact ⟨by simp, rfl⟩
            | cons y ys =>
              have hbe : (if (y :: ys).isEmpty = true then ([] : List Str) else ("else" : Str) :: stsWs (y :: ys)) = ("else" : Str) :: stsWs (y :: ys) := if_neg (by simp)
              rw [hbe] at hA
              rw [List.length_cons] at hA
              walk_at "rd"
              refine G.i_d (fun h9 => ?_) (fun h9 => absurd h9 (fun q => q (by first | (simp; done) | (simp; omega))))
              walk_at "rd"
              refine ⟨y :: ys, h, m - 1, rfl, by omega, o4.2, hsh, by omega, ?_⟩
              walk_at "rd"
              exact ⟨by simp, rfl⟩
          · rintro zs M2 ⟨rfl, rfl⟩
            have hz9 : (A ++ (("if" : Str) :: (t.ws ++ stsWs a ++ (if b.isEmpty = true then [] else ("else" : Str) :: stsWs b))).map D.str).length + 1 ≤ sizeLine := by
              rw [List.length_append, List.length_map, line_val]
              simp only [List.length_cons, List.length_append]
              omega
            walk_at "rd"
            exact ⟨_, by (simp; rfl), rfl⟩
        | wh t a =>
          obtain ⟨o1, o2, o3⟩ := okx
          have e0 : (St.wh t a).d = .tup [.str "while", t.d, .tup (a.map St.d)] := by rw [St.d, stsD_map]
          rw [St.ws] at hA hxw ⊢
          have hwt := Ex.ws_le o2.2 (by decide)
          simp only [List.length_cons, List.length_append, List.length_nil] at hA
          have hwa : (stsWs a).length ≤ 1000000 := by omega
          rw [e0]
          walk_at "rd"
          refine ⟨t, h, rfl, o2.1, ⟨hsh.1, hsh.2.1⟩, o2.2, by decide, ?_⟩
          walk_at "rd"
          refine ⟨a, h, m - 1, rfl, by omega, o3.2, hsh, hwa, ?_⟩
          walk_at "rd"
          refine s_cut (fun zs M2 => zs = [some (.tup (xs.map St.d)), some (.lst (A ++ (("while" : Str) :: (t.ws ++ stsWs a)).map D.str)), some (.tup [.str "while", t.d, .tup (a.map St.d)])] ∧ M2 = M') ?_ ?_
          · walk_at "rd"
            exact ⟨by simp, rfl⟩
          · rintro zs M2 ⟨rfl, rfl⟩
            have hz9 : (A ++ (("while" : Str) :: (t.ws ++ stsWs a)).map D.str).length + 1 ≤ sizeLine := by
              rw [List.length_append, List.length_map, line_val]
              simp only [List.length_cons, List.length_append]
              omega
            walk_at "rd"
            exact ⟨_, by (simp; rfl), rfl⟩
        | ret e =>
          have okx : e.okd h 4 := okx
          have hwe := Ex.ws_le okx.2 (by decide)
          rw [St.ws, List.map_cons]
          rw [St.d]
          walk_at "rd"
          refine ⟨e, h, rfl, okx.1, ⟨hsh.1, hsh.2.1⟩, okx.2, by decide, ?_⟩
          walk_at "rd"
          exact ⟨_, by (simp; rfl), rfl⟩
      · rintro zs M' ⟨v, rfl, rfl⟩
        rw [List.take_length]
        walk_at "rd"
        exact k
theorem ok_l_words (T : Top K mg) : Cal P w K mg base CX0 30 "_law_words" ["component"] (conSp K sp_lwords) := by
  refine def_A T.f_l_words sc_l_words (fun _ _ _ _ _ _ us hl => match us, hl with | [_], _ => rfl) (fun ds M Q E h => ?_) (fun f cdv Ar outer s H E ds M Q EX hr h => ?_)
  · obtain ⟨c, e, ni, rfl, _⟩ := h
    rfl
  · obtain ⟨c, e, ni, rfl, ok, hni, hw, k⟩ := h
    refine ⟨_, (as_cons (as_set (ps_set (i := 1) sc_l_words.nd rfl (by first | exact Or.inl rfl | exact Or.inr rfl) (a_lst (aa_cons a_str (aa_cons (a_callTy o_str (by rfl) T.b_str (by decide +kernel) (aa_cons (a_ix (o_ix (K := K)) (a_var (pv 0)) a_int (fun _ _ => rfl)) aa_nil)) (aa_cons a_str (aa_cons (a_callTy o_str (by rfl) T.b_str (by decide +kernel) (aa_cons (a_callB (o_len (K := K)) (by rfl) T.b_len PySem.boot_len (aa_cons (a_ix (o_ix (K := K)) (a_var (pv 0)) a_int (fun _ _ => rfl)) aa_nil)) aa_nil)) aa_nil)))))))
  (as_cons (as_for (ps_for PassesOwn.never rfl (ai_of (g_it (K := K) (a_ix (o_ix (K := K)) (a_var (pv 0)) a_int (fun _ _ => rfl)))) (ag_name (pg_name (i := 2) sc_l_words.nd rfl (by first | exact Or.inl rfl | exact Or.inr rfl)))
  (as_one (as_set (ps_set (i := 1) sc_l_words.nd rfl (by first | exact Or.inl rfl | exact Or.inr rfl) (a_op (o_add (K := K)) (a_op (o_add (K := K)) (a_var (pv 1)) (a_lst (aa_cons a_str (aa_cons (a_callTy o_str (by rfl) T.b_str (by decide +kernel) (aa_cons (a_callB (o_len (K := K)) (by rfl) T.b_len PySem.boot_len (aa_cons (a_var (pv 2)) aa_nil)) aa_nil)) aa_nil)))) (a_lc finD_ok (pe_lc (own := [("word", 3)]) rfl sc_l_words.nd (ai_of (g_it (K := K) (a_var (pv 2)))) (blkOk_by (own := [("word", 3)]) (N := ["component", "words", "buffer", "word", "cells", "block"]) (sc := defScope s_l_words) (by decide +kernel)) (fun _ _ _ _ _ => (ag_name (pg_name (i := 3) sc_l_words.nd rfl (Or.inl rfl)))) (fun _ _ _ _ _ => ats_nil) (fun _ _ _ _ _ => (a_callTy o_str (by rfl) T.b_str (by decide +kernel) (aa_cons (a_var (pv 3)) aa_nil)))))))))))
  (as_cons (as_for (ps_for PassesOwn.never rfl (ai_of (g_it (K := K) (a_ix (o_ix (K := K)) (a_var (pv 0)) a_int (fun _ _ => rfl)))) (ag_tup (K := K) (n := 2) rfl (ags_cons (ag_name (pg_name (i := 4) sc_l_words.nd rfl (by first | exact Or.inl rfl | exact Or.inr rfl))) (ags_cons (ag_name (pg_name (i := 5) sc_l_words.nd rfl (by first | exact Or.inl rfl | exact Or.inr rfl))) ags_nil)))
  (as_one (as_set (ps_set (i := 1) sc_l_words.nd rfl (by first | exact Or.inl rfl | exact Or.inr rfl) (a_op (o_add (K := K)) (a_op (o_add (K := K)) (a_op (o_add (K := K)) (a_var (pv 1)) (a_lst (aa_cons a_str (aa_cons (a_callTy o_str (by rfl) T.b_str (by decide +kernel) (aa_cons (a_var (pv 4)) aa_nil)) aa_nil)))) (a_call (g_call (ok_l_block_words T 7) (hr.mono (by decide)) (by rfl) pass0 (aa_cons (a_var (pv 5)) aa_nil)))) (a_lst (aa_cons a_str aa_nil))))))))
  (as_one (as_ret (ps_ret (a_var (pv 1)))))))), ?_⟩
    have hrm := ok.room
    have hnp := ok.np
    unfold Cm.row
    rw [cm_ws, List.length_append, List.length_append] at hw
    have hh : (headWs c).length = 4 := rfl
    walk_at "rd"
    rw [List.length_map]
    walk_at "rd"
    refine f_map c.bufs (fun i xs M' => ∃ v2, xs = [some (.tup [natD c.room, bufsD c.bufs, procsD c.procs]), some (.lst ((headWs c ++ ((c.bufs.take i).map bufWs).flatten).map D.str)), v2, none, none, none] ∧ M' = M) ⟨none, by simp [headWs, numS], rfl⟩ ?_ ?_
    · rintro i b xs M' hb ⟨v2, rfl, rfl⟩
      have h1 := flat_step (f := bufWs) hb
      have h2 := flat_le (f := bufWs) (l := c.bufs) (i := i + 1)
      have hbl : (bufWs b).length = 2 + b.length := by unfold bufWs; rw [List.length_cons, List.length_cons, List.length_map]; omega
      have hbk := (ok.buf b (List.mem_of_getElem? hb))
      have hb0 : (b.map natD).length ≤ sizeLine := by rw [List.length_map, line_val]; omega
      rw [h1, List.length_append, hbl] at h2
      have hA : ((headWs c ++ ((c.bufs.take i).map bufWs).flatten).map D.str).length + b.length ≤ 1000000 := by rw [List.length_map, List.length_append]; omega
      have hN : (headWs c ++ ((c.bufs.take (i + 1)).map bufWs).flatten).map D.str = (headWs c ++ ((c.bufs.take i).map bufWs).flatten).map D.str ++ (bufWs b).map D.str := by rw [h1, ← List.append_assoc, List.map_append]
      rw [hN]
      clear hN h2 h1
      generalize (headWs c ++ ((c.bufs.take i).map bufWs).flatten).map D.str = A at hA ⊢
      walk_at "rd"
      rw [List.length_map]
      walk_at "rd"
      intro L
      refine c_map b (fun n => D.str (numS n)) (by rw [line_val]; omega) ?_ (fin_d ?_)
      · intro j n acc hn ha
        have hnw := hbk.2 n (List.mem_of_getElem? hn)
        walk_at "rd"
        exact .put (by rw [line_val]; omega) ha hn rfl
      have hz7 : (A ++ [D.str "buffer", D.str (Str.ofString (toString (b.length : Int)))]).length + (b.map fun n : Nat => D.str (numS n)).length ≤ sizeLine := by
        rw [List.length_append, List.length_map, line_val]; show _ + 2 + _ ≤ _; omega
      walk_at "rd"
      refine ⟨some (bufD b), ?_, rfl⟩
      simp [bufWs, numS, Function.comp_def]
    · rintro xs M' ⟨v2, rfl, rfl⟩
      rw [List.take_length]
      walk_at "rd"
      refine f_map c.procs (fun i xs M2 => ∃ v4 v5, xs = [some (.tup [natD c.room, bufsD c.bufs, procsD c.procs]), some (.lst ((headWs c ++ (c.bufs.map bufWs).flatten ++ ((c.procs.take i).map procWs).flatten).map D.str)), v2, none, v4, v5] ∧ M2 = M') ⟨none, none, by simp, rfl⟩ ?_ ?_
      · rintro i p xs M2 hp ⟨v4, v5, rfl, rfl⟩
        have h1 := flat_step (f := procWs) hp
        have h2 := flat_le (f := procWs) (l := c.procs) (i := i + 1)
        have hpl : (procWs p).length = 3 + (stsWs p.2).length := by unfold procWs; rw [List.length_cons, List.length_cons, List.length_append]; show _ + 1 + 1 + 1 = _; omega
        obtain ⟨hq1, hq2, hq3⟩ := ok.proc p (List.mem_of_getElem? hp)
        rw [h1, List.length_append, hpl] at h2
        have hA : ((headWs c ++ (c.bufs.map bufWs).flatten ++ ((c.procs.take i).map procWs).flatten).map D.str).length + (stsWs p.2).length ≤ 1000000 := by rw [List.length_map, List.length_append, List.length_append]; omega
        have hN : (headWs c ++ (c.bufs.map bufWs).flatten ++ ((c.procs.take (i + 1)).map procWs).flatten).map D.str = (headWs c ++ (c.bufs.map bufWs).flatten ++ ((c.procs.take i).map procWs).flatten).map D.str ++ (procWs p).map D.str := by rw [h1, ← List.append_assoc, List.map_append]
        rw [hN]
        have hsl : (stsWs p.2).length ≤ 1000000 := by omega
        clear hN h2 h1
        generalize (headWs c ++ (c.bufs.map bufWs).flatten ++ ((c.procs.take i).map procWs).flatten).map D.str = A at hA ⊢
        unfold procD
        walk_at "rd"
        refine ⟨p.2, _, 6, rfl, by decide, hq3, ⟨by show p.1 ≤ _; omega, by have := ok.nb; show c.bufs.length ≤ _; omega, by show c.procs.length ≤ _; omega, hni⟩, hsl, ?_⟩
        have hz7 : (A ++ [D.str "procedure", D.str (Str.ofString (toString (p.1 : Int)))]).length + ((stsWs p.2).map D.str).length ≤ sizeLine := by
          rw [List.length_append, List.length_map, line_val]; show _ + 2 + _ ≤ _; omega
        have hz8 : (A ++ [D.str "procedure", D.str (Str.ofString (toString (p.1 : Int)))] ++ (stsWs p.2).map D.str).length + 1 ≤ sizeLine := by
          rw [List.length_append, List.length_append, List.length_map, line_val]; show _ + 2 + _ + 1 ≤ _; omega
        walk_at "rd"
        refine ⟨some (natD p.1), some (.tup (p.2.map St.d)), ?_, rfl⟩
        simp [procWs, numS]
      · rintro xs M2 ⟨v4, v5, rfl, rfl⟩
        rw [List.take_length, ← cm_ws]
        walk_at "rd"
        exact k
end


/-! ### the words of a component: how many, how long -/
theorem Ex.ws_wt : ∀ e : Ex, e.ws.length ≤ 1 + 2 * e.wt
  | .num _ => by simp [Ex.ws]
  | .loc _ => by simp [Ex.ws]
  | .get _ e => by have := e.ws_wt; rw [Ex.ws, Ex.wt, List.length_cons, List.length_cons]; omega
  | .op _ a b => by have := a.ws_wt; have := b.ws_wt; rw [Ex.ws, Ex.wt, List.length_cons, List.length_append]; omega
mutual
theorem St.ws_wt : ∀ x : St, x.ws.length ≤ 4 * x.wt
  | .set _ e => by have := e.ws_wt; rw [St.ws, St.wt, List.length_cons, List.length_cons]; omega
  | .put _ i e => by have := i.ws_wt; have := e.ws_wt; rw [St.ws, St.wt, List.length_cons, List.length_cons, List.length_append]; omega
  | .call _ _ e => by have := e.ws_wt; rw [St.ws, St.wt, List.length_cons, List.length_cons, List.length_cons]; omega
  | .use _ _ e => by have := e.ws_wt; rw [St.ws, St.wt, List.length_cons, List.length_cons, List.length_cons]; omega
  | .ifs t a b => by
    have := t.ws_wt
    have := stsWs_wt a
    have := stsWs_wt b
    have hb : (if b.isEmpty = true then ([] : List Str) else ("else" : Str) :: stsWs b).length ≤ 1 + (stsWs b).length := by
      split
      · simp
      · rw [List.length_cons]; omega
    rw [St.ws, St.wt, List.length_cons, List.length_append, List.length_append, List.length_append, List.length_singleton]
    omega
  | .wh t a => by
    have := t.ws_wt
    have := stsWs_wt a
    rw [St.ws, St.wt, List.length_cons, List.length_append, List.length_append, List.length_singleton]
    omega
  | .ret e => by have := e.ws_wt; rw [St.ws, St.wt, List.length_cons]; omega
theorem stsWs_wt : ∀ xs : List St, (stsWs xs).length ≤ 4 * stsWt xs
  | [] => Nat.le_refl _
  | x :: xs => by
    have := x.ws_wt
    have := stsWs_wt xs
    rw [stsWs, stsWt, List.length_append]
    omega
end
def Lw (z : Str) : Prop := z.length ≤ 100 ∧ 32 ∉ tl z
instance {z : Str} : Decidable (Lw z) := inferInstanceAs (Decidable (_ ∧ _))
theorem lw_num {n : Nat} (h : n < 65536) : Lw (numS n) := by
  refine ⟨Nat.le_trans (num_len h) (by decide), ?_⟩
  show 32 ∉ tl (Str.ofString (toString ((n : Nat) : Int)))
  rw [tl_num]
  exact numL_free (by decide)
def AllLw (ws : List Str) : Prop := ∀ z ∈ ws, Lw z
theorem AllLw.app {a b : List Str} (h1 : AllLw a) (h2 : AllLw b) : AllLw (a ++ b) := fun z hz => (List.mem_append.mp hz).elim (h1 z) (h2 z)
theorem AllLw.cons {z : Str} {b : List Str} (h1 : Lw z) (h2 : AllLw b) : AllLw (z :: b) := fun y hy => (List.mem_cons.mp hy).elim (fun e => by rw [e]; exact h1) (h2 y)
theorem AllLw.nil : AllLw [] := fun z hz => by cases hz
theorem AllLw.flat {α : Type} {f : α → List Str} {l : List α} (h : ∀ a ∈ l, AllLw (f a)) : AllLw (l.map f).flatten := fun z hz => by
  obtain ⟨b, h1, h2⟩ := List.mem_flatten.mp hz
  obtain ⟨a, ha, rfl⟩ := List.mem_map.mp h1
  exact h a ha z h2
theorem AllLw.take {a : List Str} (h : AllLw a) (i : Nat) : AllLw (a.take i) := fun z hz => h z (List.mem_of_mem_take hz)
theorem AllLw.drop {a : List Str} (h : AllLw a) (i : Nat) : AllLw (a.drop i) := fun z hz => h z (List.mem_of_mem_drop hz)
instance {ws : List Str} : Decidable (AllLw ws) := inferInstanceAs (Decidable (∀ z ∈ ws, Lw z))
theorem lw_let {c : Str} {n : Nat} (hc : Lw c) (h1 : c.length ≤ 10) (h : n < 65536) : Lw (letS c n) := by
  have h2 := lw_num h
  rw [letS_eq]
  refine ⟨?_, ?_⟩
  · rw [G.slen_app]
    have := num_len h
    show c.length + (Str.ofString (toString (n : Int))).length ≤ 100
    omega
  · rw [tl_append, List.mem_append]
    rintro (q | q)
    · exact hc.2 q
    · exact h2.2 q
theorem Ex.ws_lw {h : Sh} (hs : Sml h) : ∀ e : Ex, e.ok h → AllLw e.ws
  | .num n, ok => by
    have ok : n < 65536 := ok
    exact .cons (lw_num ok) .nil
  | .loc n, ok => by
    have ok : n < h.nl := ok
    have := hs.1
    exact .cons (lw_let (by decide +kernel) (by decide +kernel) (by omega)) .nil
  | .get b e, ok => by
    have o1 : b < h.nb := ok.1
    have := hs.2.1
    rw [Ex.ws]
    exact .cons (by decide +kernel) (.cons (lw_let (by decide +kernel) (by decide +kernel) (by omega)) (e.ws_lw hs ok.2))
  | .op z a b, ok => by
    have : ∀ z ∈ opsL, Lw z := by decide +kernel
    rw [Ex.ws]
    exact .cons (this z ok.1) (.app (a.ws_lw hs ok.2.1) (b.ws_lw hs ok.2.2))
mutual
theorem St.ws_lw {h : Sh} (hs : Sml h) : ∀ (x : St) (n : Nat), x.ok h n → AllLw x.ws
  | .set l e, n, ok => by
    have o1 : l < h.nl := ok.1
    have := hs.1
    rw [St.ws]
    exact .cons (by decide +kernel) (.cons (lw_let (by decide +kernel) (by decide +kernel) (by omega)) (e.ws_lw hs ok.2.1))
  | .put b i e, n, ok => by
    have o1 : b < h.nb := ok.1
    have := hs.2.1
    rw [St.ws]
    exact .cons (by decide +kernel) (.cons (lw_let (by decide +kernel) (by decide +kernel) (by omega)) (.app (i.ws_lw hs ok.2.1.1) (e.ws_lw hs ok.2.2.1)))
  | .call l p e, n, ok => by
    have o1 : l < h.nl := ok.1
    have o2 : p < h.np := ok.2.1
    have := hs.1
    have := hs.2.2.1
    rw [St.ws]
    exact .cons (by decide +kernel) (.cons (lw_let (by decide +kernel) (by decide +kernel) (by omega)) (.cons (lw_let (by decide +kernel) (by decide +kernel) (by omega)) (e.ws_lw hs ok.2.2.1)))
  | .use l i e, n, ok => by
    have o1 : l < h.nl := ok.1
    have o2 : i < h.ni := ok.2.1
    have := hs.1
    have := hs.2.2.2
    rw [St.ws]
    exact .cons (by decide +kernel) (.cons (lw_let (by decide +kernel) (by decide +kernel) (by omega)) (.cons (lw_let (by decide +kernel) (by decide +kernel) (by omega)) (e.ws_lw hs ok.2.2.1)))
  | .ifs t a b, n, ok => by
    rw [St.ws]
    refine .cons (by decide +kernel) (.app (.app (.app (t.ws_lw hs ok.2.1.1) (stsWs_lw hs a _ ok.2.2.1.2)) ?_) (by decide +kernel))
    split
    · exact .nil
    · exact .cons (by decide +kernel) (stsWs_lw hs b _ ok.2.2.2.2)
  | .wh t a, n, ok => by
    rw [St.ws]
    exact .cons (by decide +kernel) (.app (.app (t.ws_lw hs ok.2.1.1) (stsWs_lw hs a _ ok.2.2.2)) (by decide +kernel))
  | .ret e, n, ok => by
    have ok : e.okd h 4 := ok
    rw [St.ws]
    exact .cons (by decide +kernel) (e.ws_lw hs ok.1)
theorem stsWs_lw {h : Sh} (hs : Sml h) : ∀ (xs : List St) (n : Nat), stsOk h xs n → AllLw (stsWs xs)
  | [], n, _ => .nil
  | x :: xs, n, ok => by
    rw [stsOk] at ok
    rw [stsWs]
    exact .app (x.ws_lw hs n ok.1) (stsWs_lw hs xs n ok.2)
end
theorem cm_lw {c : Cm} {e ni : Nat} (ok : c.ok 6 e ni) (hni : ni ≤ 1000) : AllLw c.ws := by
  have hnp := ok.np
  have hnb := ok.nb
  have hrm := ok.room
  unfold Cm.ws
  refine .cons (by decide +kernel) (.cons (lw_num (by omega)) (.cons (by decide +kernel) (.cons (lw_num (by omega)) (.app (.flat fun b hb => ?_) (.flat fun p hp => ?_)))))
  · have hk := ok.buf b hb
    refine .cons (by decide +kernel) (.cons (lw_num (by omega)) fun z hz => ?_)
    obtain ⟨n, hn, rfl⟩ := List.mem_map.mp hz
    exact lw_num (hk.2 n hn)
  · have hk := ok.proc p hp
    refine .cons (by decide +kernel) (.cons (lw_num (by omega)) (.app (stsWs_lw ⟨by show p.1 ≤ _; omega, by show c.bufs.length ≤ _; omega, by show c.procs.length ≤ _; omega, by show ni ≤ _; omega⟩ p.2 6 hk.2.2) (by decide +kernel)))
theorem flat_sum {α : Type} {f : α → List Str} {k : Nat} : ∀ l : List α, (∀ a ∈ l, (f a).length ≤ k) → ((l.map f).flatten).length ≤ k * l.length
  | [], _ => Nat.le_refl _
  | a :: l, h => by
    have h1 := h a List.mem_cons_self
    have h2 := flat_sum l fun x hx => h x (List.mem_cons_of_mem _ hx)
    rw [List.map_cons, List.flatten_cons, List.length_append, List.length_cons, Nat.mul_succ]
    omega
theorem cm_len {c : Cm} {W B : Nat} (h1 : ∀ p ∈ c.procs, stsWt p.2 ≤ W) (h2 : ∀ b ∈ c.bufs, b.length ≤ B) : c.ws.length ≤ 4 + (B + 2) * c.bufs.length + (4 * W + 3) * c.procs.length := by
  have e1 := flat_sum (f := bufWs) (k := B + 2) c.bufs fun b hb => by
    have := h2 b hb
    unfold bufWs
    rw [List.length_cons, List.length_cons, List.length_map]
    omega
  have e2 := flat_sum (f := procWs) (k := 4 * W + 3) c.procs fun p hp => by
    have := h1 p hp
    have := stsWs_wt p.2
    unfold procWs
    rw [List.length_cons, List.length_cons, List.length_append, List.length_singleton]
    omega
  unfold Cm.ws
  rw [List.length_cons, List.length_cons, List.length_cons, List.length_cons, List.length_append]
  omega

/-! ### what is open, as data; numbers and places of the law -/
def Kd.s : Kd → Str
  | .thn => "then" | .whl => "while" | .prc => "procedure" | .els => "else" | .emp => "empty"
theorem Kd.s_emp {k : Kd} : k.s = "empty" ↔ k = .emp := by cases k <;> decide +kernel
theorem Kd.s_thn {k : Kd} : k.s = "then" ↔ k = .thn := by cases k <;> decide +kernel
def It.d : It → D
  | .word y => .tup [.str "word", .str y]
  | .room => .tup [.str "room"]
  | .place c n => .tup [.str "place", .str c, natD n]
  | .exp d => .tup [.str "expression", natD d]
  | .block n k => .tup [.str "block", natD n, .str k.s]
  | .head => .tup [.str "head"]
  | .datum => .tup [.str "datum"]
  | .count => .tup [.str "count"]
  | .cells => .tup [.str "cells"]
  | .size => .tup [.str "size"]
abbrev stO (σ : List It) : Ob := .lst (σ.map It.d).reverse
abbrev scF (sc : Sc) : List (Str × D) := [("buffers", natD sc.nb), ("procedures", natD sc.np), ("left", natD sc.left), ("cells", natD sc.nl), ("imports", natD sc.ni)]
abbrev stM (S R : Addr) (σ : List It) (sc : Sc) (M0 : Mem) : Mem := (S, stO σ) :: (R, .dct (scF sc)) :: M0
/-- the counts are small -/
structure ScS (sc : Sc) : Prop where
  a : sc.nb ≤ 1000 ∧ sc.np ≤ 1000 ∧ sc.left ≤ 1000 ∧ sc.nl ≤ 1000 ∧ sc.ni ≤ 1000
def isN (z : Str) (lo hi : Int) : Bool := match nof z with
  | none => false
  | some n => decide (lo ≤ (n : Int) ∧ (n : Int) ≤ hi)
def isP (z c : Str) (m : Int) : Bool := decide (Txt.startswith z c = true) && isN (cutS z (some 1) none) 0 (m - 1)
theorem isN_in {z : Str} {lo hi : Nat} : isN z lo hi = (inN z lo hi).isSome := by
  unfold isN inN
  cases nof z with
  | none => rfl
  | some n =>
    dsimp only
    by_cases h : lo ≤ n ∧ n ≤ hi
    · rw [if_pos h, decide_eq_true (by omega)]; rfl
    · rw [if_neg h, decide_eq_false (by omega)]; rfl
theorem isP_in {z c : Str} {m : Nat} : isP z c m = (inP c z m).isSome := by
  unfold isP inP nameOf
  by_cases hs : Txt.startswith z c = true
  · rw [decide_eq_true hs, if_pos hs, Bool.true_and]
    unfold isN
    cases nof (cutS z (some 1) none) with
    | none => rfl
    | some n =>
      dsimp only
      by_cases h : n < m
      · rw [if_pos h, decide_eq_true (by omega)]; rfl
      · rw [if_neg h, decide_eq_false (by omega)]; rfl
  · rw [decide_eq_false hs, if_neg hs]
    rfl
theorem cut_none_one {z : Str} : tl (cutS z none (some 1)) = (tl z).take 1 := by
  unfold cutS
  rw [tl_mk]
  have e0 : HT.sIx z.length 0 none = 0 := rfl
  have e1 : HT.sIx z.length z.length (some 1) = min 1 z.length := HT.sIx_nat _ _ 1
  rw [e0, e1, List.drop_zero, Nat.sub_zero]
  show z.cps.toList.take _ = z.cps.toList.take 1
  have lz : z.cps.toList.length = z.length := Array.length_toList
  by_cases hz : z.length = 0
  · have : z.cps.toList = [] := List.eq_nil_of_length_eq_zero (by omega)
    rw [this]
    simp
  · rw [show min 1 z.length = 1 by omega]
theorem starts_cut {z c : Str} (hc : One c) : (cutS z none (some 1) = c) ↔ Txt.startswith z c = true := by
  obtain ⟨k, hk⟩ := hc
  constructor
  · intro h
    have h1 : (tl z).take 1 = [k] := by rw [← cut_none_one, h, hk]
    unfold PySem.Txt.startswith
    rw [StrLaws.subAt_eq, List.drop_zero, Bool.and_eq_true]
    have lc : c.length = 1 := by rw [len_tl, hk]; rfl
    rw [lc]
    refine ⟨decide_eq_true ?_, ?_⟩
    · rw [len_tl]
      cases e : tl z with
      | nil => rw [e] at h1; cases h1
      | cons a b => rw [List.length_cons]; omega
    · show (List.take 1 (tl z) == tl c) = true
      rw [h1, hk]
      exact beq_self_eq_true _
  · intro h
    obtain ⟨r, hr⟩ := starts_tl h
    refine ext_tl ?_
    rw [cut_none_one, hr, hk]
    rfl
theorem st_app {l σ : List It} : ((l ++ σ).map It.d).reverse = (σ.map It.d).reverse ++ (l.map It.d).reverse := by rw [List.map_append, List.reverse_append]
def SmW (z : Str) : Prop := z.length ≤ 100
def sp_l_isnum : ASp := fun ds M Q _ => ∃ (z : Str) (lo hi : Int), ds = [.str z, .int lo, .int hi] ∧ SmW z ∧ hi ≤ 65535 ∧ Q (.bl (isN z lo hi)) M
def sp_l_isplace : ASp := fun ds M Q _ => ∃ (z c : Str) (m : Int), ds = [.str z, .str c, .int m] ∧ SmW z ∧ One c ∧ m ≤ 65536 ∧ Q (.bl (isP z c m)) M
def sp_l_expects : ASp := fun ds M Q _ => ∃ (S R : Addr) (σ : List It) (sc : Sc) (M0 : Mem) (z : Str) (d : Nat), ds = [.r S, .r R, .str z, natD d] ∧ M = stM S R σ sc M0 ∧ SmW z ∧ σ.length ≤ 8000000 ∧ d ≤ 100 ∧ ScS sc ∧
  (∀ l, expA sc z d = some l → Q (.bl true) (stM S R (l ++ σ) sc M0)) ∧ (expA sc z d = none → Q (.bl false) (stM S R σ sc M0))
def sp_l_begins : ASp := fun ds M Q _ => ∃ (S R : Addr) (σ : List It) (sc : Sc) (M0 : Mem) (z : Str) (n : Nat), ds = [.r S, .r R, .str z, natD n] ∧ M = stM S R σ sc M0 ∧ SmW z ∧ σ.length ≤ 8000001 ∧ n ≤ 100 ∧ ScS sc ∧
  (∀ l, begA sc n z = some l → Q (.bl true) (stM S R (l ++ σ) sc M0)) ∧ (begA sc n z = none → Q (.bl false) (stM S R σ sc M0))
def sp_l_blocks : ASp := fun ds M Q _ => ∃ (S R : Addr) (σ : List It) (sc : Sc) (M0 : Mem) (z : Str) (n : Nat) (k : Kd), ds = [.r S, .r R, .str z, natD n, .str k.s] ∧ M = stM S R σ sc M0 ∧ SmW z ∧ σ.length ≤ 8000000 ∧ n ≤ 100 ∧ ScS sc ∧
  (∀ l, blkA sc n k z = some l → Q (.bl true) (stM S R (l ++ σ) sc M0)) ∧ (blkA sc n k z = none → Q (.bl false) (stM S R σ sc M0))
def sp_l_heads : ASp := fun ds M Q _ => ∃ (S R : Addr) (σ : List It) (sc : Sc) (M0 : Mem) (z : Str), ds = [.r S, .r R, .str z] ∧ M = stM S R σ sc M0 ∧ SmW z ∧ σ.length ≤ 8000000 ∧ ScS sc ∧
  (∀ l sc', headA sc z = some (l, sc') → Q (.bl true) (stM S R (l ++ σ) sc' M0)) ∧ (headA sc z = none → Q (.bl false) (stM S R σ sc M0))
def OkI : It → Prop
  | .exp d => d ≤ 100
  | .block n _ => n ≤ 100
  | .place c n => One c ∧ n ≤ 1000 ∧ PyData.strOk c = true
  | .word y => PyData.strOk y = true
  | _ => True
theorem map_ok {α β : Type} {f : α → β} {o : Option α} {y : β} (h : o.map f = some y) : ∃ x, o = some x ∧ f x = y := by
  cases o with
  | none => cases h
  | some x => exact ⟨x, rfl, by injection h⟩
theorem expA_ok {sc : Sc} {z : Str} {d : Nat} {l : List It} (hs : ScS sc) (hd : d ≤ 100) (e : expA sc z d = some l) : (∀ x ∈ l, OkI x) ∧ l.length ≤ 1000 := by
  have hsa := hs.a
  have he : OkI (.exp (d - 1)) := by show d - 1 ≤ 100; omega
  unfold expA at e
  split at e
  · cases e
    exact ⟨by simp only [List.mem_cons, List.not_mem_nil, or_false]; rintro x (rfl | rfl) <;> exact he, Nat.le_of_ble_eq_true rfl⟩
  split at e
  · cases e
    refine ⟨?_, Nat.le_of_ble_eq_true rfl⟩
    simp only [List.mem_cons, List.not_mem_nil, or_false]
    rintro x (rfl | rfl)
    · exact ⟨one_b, hsa.1, by decide +kernel⟩
    · exact he
  split at e
  all_goals
    obtain ⟨_, _, rfl⟩ := map_ok e
    exact ⟨(fun x hx => by cases hx), Nat.zero_le _⟩
theorem begA_ok {sc : Sc} {z : Str} {n : Nat} {l : List It} (hs : ScS sc) (hn : n ≤ 100) (e : begA sc n z = some l) : (∀ x ∈ l, OkI x) ∧ l.length ≤ 999 := by
  have hsa := hs.a
  have he : OkI (.exp 4) := Nat.le_of_ble_eq_true rfl
  have hl : OkI (.place "l" sc.nl) := ⟨one_l, hsa.2.2.2.1, by decide +kernel⟩
  have hb : OkI (.place "b" sc.nb) := ⟨one_b, hsa.1, by decide +kernel⟩
  have hp : OkI (.place "p" sc.np) := ⟨one_p, hsa.2.1, by decide +kernel⟩
  have hi : OkI (.place "i" sc.ni) := ⟨one_i, hsa.2.2.2.2, by decide +kernel⟩
  have hk : ∀ k, OkI (.block (n - 1) k) := fun k => by show n - 1 ≤ 100; omega
  unfold begA at e
  repeat' split at e
  all_goals first
    | (cases e; done)
    | (cases e
       refine ⟨?_, Nat.le_of_ble_eq_true rfl⟩
       intro x hx
       simp only [List.mem_cons, List.not_mem_nil, or_false] at hx
       rcases hx with rfl | rfl | rfl <;> first | exact he | exact hl | exact hb | exact hp | exact hi | exact hk _)
    | (cases e
       refine ⟨?_, Nat.le_of_ble_eq_true rfl⟩
       intro x hx
       simp only [List.mem_cons, List.not_mem_nil, or_false] at hx
       rcases hx with rfl | rfl <;> first | exact he | exact hl | exact hb | exact hp | exact hi | exact hk _)
    | (cases e
       refine ⟨?_, Nat.le_of_ble_eq_true rfl⟩
       intro x hx
       simp only [List.mem_cons, List.not_mem_nil, or_false] at hx
       rw [hx]; exact he)
theorem blkA_ok {sc : Sc} {z : Str} {n : Nat} {k : Kd} {l : List It} (hs : ScS sc) (hn : n ≤ 100) (e : blkA sc n k z = some l) : (∀ x ∈ l, OkI x) ∧ l.length ≤ 1000 := by
  unfold blkA at e
  split at e
  · split at e
    · cases e
    · cases e; exact ⟨(fun x hx => by cases hx), Nat.zero_le _⟩
  split at e
  · cases e
    exact ⟨(fun x hx => by rw [List.mem_singleton.mp hx]; exact hn), Nat.le_of_ble_eq_true rfl⟩
  · obtain ⟨l', h1, rfl⟩ := map_ok e
    obtain ⟨h2, h3⟩ := begA_ok hs hn h1
    refine ⟨fun x hx => ?_, by rw [List.length_append]; show _ + 1 ≤ _; omega⟩
    rcases List.mem_append.mp hx with q | q
    · exact h2 x q
    · rw [List.mem_singleton.mp q]; exact hn
theorem headA_ok {sc sc' : Sc} {z : Str} {l : List It} (hs : ScS sc) (e : headA sc z = some (l, sc')) : (∀ x ∈ l, OkI x) ∧ ScS sc' ∧ l.length ≤ 1000 ∧ l.getLast? = some .head := by
  obtain ⟨h1, h2, h3, h4, h5⟩ := hs.a
  unfold headA at e
  split at e
  · rename_i q
    cases e
    refine ⟨fun x hx => ?_, ⟨⟨?_, h2, h3, h4, h5⟩⟩, Nat.le_of_ble_eq_true rfl, rfl⟩
    · simp only [List.mem_cons, List.not_mem_nil, or_false] at hx
      rcases hx with rfl | rfl <;> trivial
    · show sc.nb + 1 ≤ 1000; omega
  · split at e
    · cases e
      refine ⟨fun x hx => ?_, ⟨⟨h1, h2, ?_, h4, h5⟩⟩, Nat.le_of_ble_eq_true rfl, rfl⟩
      · simp only [List.mem_cons, List.not_mem_nil, or_false] at hx
        rcases hx with rfl | rfl <;> trivial
      · show sc.left - 1 ≤ 1000; omega
    · cases e
theorem nextA_ok {sc sc' : Sc} {z : Str} {t : It} {l : List It} (hs : ScS sc) (ht : OkI t) (e : nextA sc z t = some (l, sc')) : (∀ x ∈ l, OkI x) ∧ ScS sc' ∧ l.length ≤ 1000 ∧ (t = .head → l.getLast? = some .head) := by
  obtain ⟨h1, h2, h3, h4, h5⟩ := hs.a
  have nil : ∀ x ∈ ([] : List It), OkI x := fun x hx => by cases hx
  have z0 : ([] : List It).length ≤ 1000 := Nat.zero_le _
  cases t with
  | word y =>
    rw [nx_word] at e
    split at e
    · cases e; exact ⟨nil, hs, z0, (fun h => by cases h)⟩
    · cases e
  | room =>
    rw [nx_room] at e
    obtain ⟨_, _, e⟩ := map_ok e
    cases e; exact ⟨nil, hs, z0, (fun h => by cases h)⟩
  | place c n =>
    rw [nx_place] at e
    obtain ⟨_, _, e⟩ := map_ok e
    cases e; exact ⟨nil, hs, z0, (fun h => by cases h)⟩
  | datum =>
    rw [nx_datum] at e
    obtain ⟨_, _, e⟩ := map_ok e
    cases e; exact ⟨nil, hs, z0, (fun h => by cases h)⟩
  | exp d =>
    rw [nx_exp] at e
    obtain ⟨l', e1, e⟩ := map_ok e
    cases e
    obtain ⟨a, b⟩ := expA_ok hs ht e1
    exact ⟨a, hs, b, (fun h => by cases h)⟩
  | block n k =>
    rw [nx_block] at e
    obtain ⟨l', e1, e⟩ := map_ok e
    cases e
    obtain ⟨a, b⟩ := blkA_ok hs ht e1
    exact ⟨a, hs, b, (fun h => by cases h)⟩
  | head =>
    rw [nx_head] at e
    obtain ⟨a, b, c, d⟩ := headA_ok hs e
    exact ⟨a, b, c, fun _ => d⟩
  | count =>
    rw [nx_count] at e
    obtain ⟨m, e1, e⟩ := map_ok e
    cases e
    obtain ⟨_, _, g⟩ := inN_some e1
    exact ⟨nil, ⟨⟨h1, by show m ≤ _; omega, by show m ≤ _; omega, h4, h5⟩⟩, z0, (fun h => by cases h)⟩
  | cells =>
    rw [nx_cells] at e
    obtain ⟨m, e1, e⟩ := map_ok e
    cases e
    obtain ⟨_, _, g⟩ := inN_some e1
    exact ⟨(fun x hx => by rw [List.mem_singleton.mp hx]; exact Nat.le_of_ble_eq_true rfl), ⟨⟨h1, h2, h3, by show m ≤ _; omega, h5⟩⟩, Nat.le_of_ble_eq_true rfl, (fun h => by cases h)⟩
  | size =>
    rw [nx_size] at e
    obtain ⟨m, e1, e⟩ := map_ok e
    cases e
    obtain ⟨_, _, g⟩ := inN_some e1
    exact ⟨(fun x hx => by rw [(List.mem_replicate.mp hx).2]; trivial), hs, by rw [List.length_replicate]; exact g, (fun h => by cases h)⟩
/-- one word more -/
def sp_l_next : ASp := fun ds M Q _ => ∃ (S R : Addr) (t : It) (σ : List It) (sc : Sc) (M0 : Mem) (z : Str), ds = [.r S, .r R, .str z] ∧ M = stM S R (t :: σ) sc M0 ∧ SmW z ∧ σ.length ≤ 7000000 ∧ ScS sc ∧ OkI t ∧
  (∀ l sc', nextA sc z t = some (l, sc') → Q (.bl true) (stM S R (l ++ σ) sc' M0)) ∧ (nextA sc z t = none → ∀ xs, Q (.bl false) ((S, .lst xs) :: (R, .dct (scF sc)) :: M0))
theorem st_cons {t : It} {σ : List It} : ((t :: σ).map It.d).reverse = (σ.map It.d).reverse ++ [t.d] := by rw [List.map_cons, List.reverse_cons]
theorem nof_int {z : Str} {v : Nat} (h : nof z = some v) : PySem.intText? z = some (v : Int) ∧ z.length ≤ 5 ∧ v ≤ 65535 := by
  unfold nof at h
  split at h
  · rename_i q
    obtain ⟨h2, h3, h4⟩ := q
    cases h
    have ne : tl z ≠ [] := fun e => by rw [e] at h3; exact numL_ne _ h3
    have l5 : (tl z).length ≤ 5 := by rw [← h3]; exact numL_len (by decide) (by omega)
    exact ⟨intText_digits ((digs_iff _).mp h2) ne (by rw [len_tl]; omega), by rw [len_tl]; exact l5, h4⟩
  · cases h
def wrD (ws : List Str) (ni : Nat) : D := match wrongA ws ni with
  | none => .non
  | some i => natD i
def sp_l_wrong : ASp := fun ds M Q _ => ∃ (ws : List Str) (ni : Nat), ds = [.lst (ws.map D.str), natD ni] ∧ ws.length ≤ 6000 ∧ (∀ z ∈ ws, SmW z) ∧ ni ≤ 1000 ∧ Q (wrD ws ni) M
theorem It.d_head {t : It} : t.d = .tup [.str "head"] ↔ t = .head := by
  constructor
  · intro h
    cases t <;> first | rfl | (exfalso; revert h; unfold It.d; intro h; injection h with h; injection h with h h'; injection h with h; exact absurd h (by decide +kernel)) | (exfalso; revert h; unfold It.d; intro h; injection h with h; injection h with h h'; cases h')
  · rintro rfl; rfl
theorem st_head {σ : List It} : D.lst (σ.map It.d).reverse = .lst [.tup [.str "head"]] ↔ σ = [.head] := by
  constructor
  · intro h
    injection h with h
    have := congrArg List.reverse h
    rw [List.reverse_reverse] at this
    cases σ with
    | nil => cases this
    | cons t r =>
      rw [List.map_cons] at this
      injection this with a b
      rw [It.d_head.mp a]
      cases r with
      | nil => rfl
      | cons x y => cases b
  · rintro rfl; rfl

theorem beg_return {sc : Sc} {n : Nat} : begA sc n "return" = some [.exp 4] := by
  unfold begA
  repeat rw [if_neg (by decide +kernel)]
  rw [if_pos rfl]
theorem beg_set {sc : Sc} {n : Nat} : begA sc n "set" = some [.place "l" sc.nl, .exp 4] := by
  unfold begA
  rw [if_pos rfl]
theorem beg_put {sc : Sc} {n : Nat} (h : 0 < sc.nb) : begA sc n "put" = some [.place "b" sc.nb, .exp 4, .exp 4] := by
  unfold begA
  repeat rw [if_neg (by decide +kernel)]
  rw [if_pos rfl, if_pos h]
theorem beg_put0 {sc : Sc} {n : Nat} (h : ¬ 0 < sc.nb) : begA sc n "put" = none := by
  unfold begA
  repeat rw [if_neg (by decide +kernel)]
  rw [if_pos rfl, if_neg h]
theorem beg_call {sc : Sc} {n : Nat} : begA sc n "call" = some [.place "l" sc.nl, .place "p" sc.np, .exp 4] := by
  unfold begA
  repeat rw [if_neg (by decide +kernel)]
  rw [if_pos rfl]
theorem beg_use {sc : Sc} {n : Nat} (h : 0 < sc.ni) : begA sc n "use" = some [.place "l" sc.nl, .place "i" sc.ni, .exp 4] := by
  unfold begA
  repeat rw [if_neg (by decide +kernel)]
  rw [if_pos rfl, if_pos h]
theorem beg_use0 {sc : Sc} {n : Nat} (h : ¬ 0 < sc.ni) : begA sc n "use" = none := by
  unfold begA
  repeat rw [if_neg (by decide +kernel)]
  rw [if_pos rfl, if_neg h]
theorem beg_if {sc : Sc} {n : Nat} (h : 0 < n) : begA sc n "if" = some [.exp 4, .block (n - 1) .thn] := by
  unfold begA
  repeat rw [if_neg (by decide +kernel)]
  rw [if_pos rfl, if_pos h]
theorem beg_if0 {sc : Sc} {n : Nat} (h : ¬ 0 < n) : begA sc n "if" = none := by
  unfold begA
  repeat rw [if_neg (by decide +kernel)]
  rw [if_pos rfl, if_neg h]
theorem beg_while {sc : Sc} {n : Nat} (h : 0 < n) : begA sc n "while" = some [.exp 4, .block (n - 1) .whl] := by
  unfold begA
  repeat rw [if_neg (by decide +kernel)]
  rw [if_pos rfl, if_pos h]
theorem beg_while0 {sc : Sc} {n : Nat} (h : ¬ 0 < n) : begA sc n "while" = none := by
  unfold begA
  repeat rw [if_neg (by decide +kernel)]
  rw [if_pos rfl, if_neg h]
theorem inN_nof {z : Str} {lo hi m : Nat} (h : inN z lo hi = some m) : nof z = some m := by
  unfold inN at h
  cases e : nof z with
  | none => rw [e] at h; cases h
  | some n =>
    rw [e] at h
    dsimp only at h
    split at h
    · exact h
    · cases h
theorem It.pl {t : It} (h : OkI t) : t.d.pl 1 = true := by
  have ok1 : ∀ z : Str, PyData.strOk z = true → (D.str z).pl 0 = true := fun z hz => by rw [D.pl]; exact hz
  have ok2 : ∀ n : Nat, (natD n).pl 0 = true := fun n => by show (D.int n).pl 0 = true; rw [D.pl]
  cases t with
  | word y =>
    exact pl_tup fun d hd => by
      rcases List.mem_cons.mp hd with rfl | hd
      · exact ok1 _ (by decide +kernel)
      · rw [List.mem_singleton.mp hd]; exact ok1 _ h
  | place c n =>
    exact pl_tup fun d hd => by
      rcases List.mem_cons.mp hd with rfl | hd
      · exact ok1 _ (by decide +kernel)
      rcases List.mem_cons.mp hd with rfl | hd
      · exact ok1 _ h.2.2
      · rw [List.mem_singleton.mp hd]; exact ok2 _
  | exp d =>
    exact pl_tup fun d hd => by
      rcases List.mem_cons.mp hd with rfl | hd
      · exact ok1 _ (by decide +kernel)
      · rw [List.mem_singleton.mp hd]; exact ok2 _
  | block n k =>
    exact pl_tup fun d hd => by
      rcases List.mem_cons.mp hd with rfl | hd
      · exact ok1 _ (by decide +kernel)
      rcases List.mem_cons.mp hd with rfl | hd
      · exact ok2 _
      · rw [List.mem_singleton.mp hd]; exact ok1 _ (by cases k <;> decide +kernel)
  | _ => exact pl_tup fun d hd => by rw [List.mem_singleton.mp hd]; exact ok1 _ (by decide +kernel)
theorem st_pl {σ : List It} (h : ∀ t ∈ σ, OkI t) : (D.lst (σ.map It.d).reverse).pl 2 = true := pl_lst fun d hd => by
  obtain ⟨t, ht, rfl⟩ := List.mem_map.mp (List.mem_reverse.mp hd)
  exact It.pl (h t ht)
/-- a piece of the words -/
def segW (ws : List Str) (m k : Nat) : List Str := (ws.drop (min m ws.length)).take (min (m + k) ws.length - min m ws.length)
theorem segW_len {ws : List Str} {m k : Nat} : (segW ws m k).length ≤ k := by
  unfold segW
  rw [List.length_take]
  omega
theorem segW_lw {ws : List Str} {m k : Nat} (h : AllLw ws) : AllLw (segW ws m k) := (h.drop _).take _
theorem cut_seg {ws : List Str} {m k : Nat} : cutD (ws.map D.str) (some (m : Int)) (some ((m : Int) + (k : Int))) = (segW ws m k).map D.str := by
  unfold cutD segW
  have e1 : HT.sIx (ws.map D.str).length 0 (some (m : Int)) = min m (ws.map D.str).length := HT.sIx_nat _ _ m
  have e2 : HT.sIx (ws.map D.str).length (ws.map D.str).length (some ((m : Int) + (k : Int))) = min (m + k) (ws.map D.str).length := HT.sIx_nat _ _ (m + k)
  rw [e1, e2, List.map_take, List.map_drop, List.length_map]
theorem cutD_take {xs : List D} {n : Nat} : cutD xs none (some (n : Int)) = xs.take n := by
  unfold cutD
  have e1 : HT.sIx xs.length 0 none = 0 := rfl
  have e2 : HT.sIx xs.length xs.length (some (n : Int)) = min n xs.length := HT.sIx_nat _ _ n
  rw [e1, e2, List.drop_zero, Nat.sub_zero]
  by_cases h : n ≤ xs.length
  · rw [Nat.min_eq_left h]
  · rw [Nat.min_eq_right (by omega), List.take_length, List.take_of_length_le (by omega)]
theorem cutD_drop {xs : List D} {n : Nat} : cutD xs (some (n : Int)) none = xs.drop n := by
  unfold cutD
  have e1 : HT.sIx xs.length 0 (some (n : Int)) = min n xs.length := HT.sIx_nat _ _ n
  have e2 : HT.sIx xs.length xs.length none = xs.length := rfl
  rw [e1, e2]
  by_cases h : n ≤ xs.length
  · rw [Nat.min_eq_left h, List.take_of_length_le (by rw [List.length_drop]; omega)]
  · rw [Nat.min_eq_right (by omega), List.drop_eq_nil_of_le (as := xs) (i := n) (by omega), List.drop_eq_nil_of_le (by omega)]
    simp
def menL : List Str := ([("end" : Str), "else", "if", "while", "set", "put", "use", "call", "return", "get", "+", "mod", "<", "l0", "l1", "l5"] : List Str) ++ ([("b0" : Str), "b1", "p0", "p1", "i0", "i3", "0", "7", "65535", "1", "2", "procedure", "buffer", "room", "", "?"] : List Str)
theorem menL_lw : AllLw menL := by decide +kernel
theorem men_at {j : Int} (h0 : 0 ≤ j) (h : j < 32) : ∃ z, Lw z ∧ atI (menL.map D.str) j = some (.str z) := by
  obtain ⟨n, rfl⟩ := Int.eq_ofNat_of_zero_le h0
  have hn : n < menL.length := by show n < 32; omega
  have hl : (menL.map D.str)[n]? = some (.str menL[n]) := by rw [List.getElem?_map, List.getElem?_eq_getElem hn]; rfl
  exact ⟨menL[n], menL_lw _ (List.getElem_mem _), atI_nat hl⟩
def sp_l_menu : ASp := fun ds M Q _ => ∃ (p : Addr) (s : PoolS) (u : Ob → Mem), ds = [.r p] ∧ At M p s.ob u ∧ ∀ (z : Str) (s' : PoolS), Lw z → Q (.str z) (u s'.ob)
def sp_l_changed : ASp := fun ds M Q _ => ∃ (p : Addr) (s : PoolS) (u : Ob → Mem) (ws : List Str), ds = [.r p, .lst (ws.map D.str)] ∧ At M p s.ob u ∧ AllLw ws ∧ ws.length ≤ 3900 ∧ ∀ (ws' : List Str) (s' : PoolS), AllLw ws' → ws'.length ≤ 4000 → Q (.lst (ws'.map D.str)) (u s'.ob)
def sp_l_walked : ASp := fun ds M Q _ => ∃ (p : Addr) (s : PoolS) (u : Ob → Mem) (ni : Nat), ds = [.r p, natD ni] ∧ At M p s.ob u ∧ ni ≤ 1000 ∧ ∀ (ws' : List Str) (s' : PoolS), AllLw ws' → ws'.length ≤ 4000 → Q (.lst (ws'.map D.str)) (u s'.ob)




section
variable {P : Program} {w : World} {K : PySem.W.Frag} {mg : Str → Option Value} {base : Heap} {C : Cs}
theorem ok_l_is_number (T : Top K mg) : Cal P w K mg base CX0 1 "_law_is_number" ["word", "least", "most"] (conSp K sp_l_isnum) := by
  refine def_A T.f_l_is_number sc_l_is_number (fun _ _ _ _ _ _ us hl => match us, hl with | [_, _, _], _ => rfl) (fun ds M Q E h => ?_) (fun f cdv Ar outer s H E ds M Q EX hr h => ?_)
  · obtain ⟨z, lo, hi, rfl, _⟩ := h
    rfl
  · obtain ⟨z, lo, hi, rfl, hz100, hhi, k⟩ := h
    refine ⟨_, (as_cons (as_if (PW.pt (a_or (a_tcmp (o_eq (K := K) (un64 hr)) (a_callB (o_len (K := K)) (by rfl) T.b_len PySem.boot_len (aa_cons (a_var (pv 0)) aa_nil)) a_int (nomark _)) (pw_or1 (a_tcmp o_gt (a_callB (o_len (K := K)) (by rfl) T.b_len PySem.boot_len (aa_cons (a_var (pv 0)) aa_nil)) a_int (nomark _)))))
  (as_one (as_ret (ps_ret a_bl)))
  as_nil)
  (as_cons (as_for (ps_for PassesOwn.never rfl (ai_of (g_it (K := K) (a_var (pv 0)))) (ag_name (pg_name (i := 3) sc_l_is_number.nd rfl (by first | exact Or.inl rfl | exact Or.inr rfl)))
  (as_one (as_if (a_tcmp (o_notin (K := K) (un65 hr)) (a_var (pv 3)) a_str rfl)
    (as_one (as_ret (ps_ret a_bl)))
    as_nil))))
  (as_one (as_ret (ps_ret (a_andT (K := K) (a_cmp (o_eq (K := K) (un64 hr)) (a_callTy o_str (by rfl) T.b_str (by decide +kernel) (aa_cons (a_callTy o_int (by rfl) T.b_int (by decide +kernel) (aa_cons (a_var (pv 0)) aa_nil)) aa_nil)) (a_var (pv 0)) (nomark _)) (pe_one (a_chain o_le o_le (a_var (pv 1)) (a_callTy o_int (by rfl) T.b_int (by decide +kernel) (aa_cons (a_var (pv 0)) aa_nil)) (a_var (pv 2)))))))))), ?_⟩
    have hz100 : z.length ≤ 100 := hz100
    have hsz : z.length ≤ sizeLine := by rw [line_val]; omega
    have bad : nof z = none → Q (.bl false) M := fun h => by unfold isN at k; rw [h] at k; exact k
    have hz : z.length = (tl z).length := len_tl z
    walk_at "rd"
    refine G.i_d (fun h1 => ?_) (fun h1 => ?_)
    · walk_at "rd"
      exact bad (nof_short (by omega))
    walk_at "rd"
    refine G.i_d (fun h2 => ?_) (fun h2 => ?_)
    · walk_at "rd"
      exact bad (nof_short (by omega))
    walk_at "rd"
    refine f_map (tl z) (fun j xs M2 => j ≤ z.length ∧ (∃ v, xs = [some (.str z), some (.int lo), some (.int hi), v]) ∧ M2 = M ∧ NumText.AllDigits ((tl z).take j)) ⟨Nat.zero_le _, ⟨_, rfl⟩, rfl, fun _ h => by simp at h⟩ ?_ ?_
    · rintro j c xs M2 hc ⟨hj, ⟨v, rfl⟩, rfl, hd⟩
      have hlt : j < (tl z).length := (List.getElem?_eq_some_iff.mp hc).1
      have ht : (tl z).take (j + 1) = (tl z).take j ++ [c] := by
        rw [List.take_add_one, hc]; rfl
      walk_at "rd"
      refine G.i_nd (fun h3 => ?_) (fun h3 => ?_)
      · walk_at "rd"
        refine bad ?_
        unfold nof
        rw [if_neg]
        rintro ⟨h4, _⟩
        exact h3 ((mem_digs c).mpr ((digs_iff _).mp h4 c (List.mem_of_getElem? hc)))
      · walk_at "rd"
        refine ⟨by omega, ⟨_, rfl⟩, rfl, ?_⟩
        rw [ht]
        intro d hd'
        rcases List.mem_append.mp hd' with q | q
        · exact hd d q
        · rw [List.mem_singleton.mp q]; exact (mem_digs c).mp h3
    · rintro xs M2 ⟨_, ⟨v, rfl⟩, rfl, hd⟩
      rw [List.take_length] at hd
      have ne : tl z ≠ [] := fun e => by rw [hz, e] at h1; exact h1 rfl
      have hv : PySem.intText? z = some ((NumText.digitsVal (tl z) : Nat) : Int) := intText_digits hd ne (by omega)
      have hvl := val_lt _ (tl z) rfl hd
      have hvl : NumText.digitsVal (tl z) < 100000 := Nat.lt_of_lt_of_le hvl (Nat.le_trans (Nat.pow_le_pow_right (by decide) (show (tl z).length ≤ 5 by omega)) (by decide))
      have hlog : ((NumText.digitsVal (tl z) : Nat) : Int).natAbs.log2 < 1920 := by
        rw [Int.natAbs_natCast]
        have h2 : NumText.digitsVal (tl z) < 2 ^ 1920 := Nat.lt_of_lt_of_le hvl (by decide +kernel)
        by_cases q : NumText.digitsVal (tl z) = 0
        · rw [q]; decide
        · exact (Nat.log2_lt q).mpr h2
      have es : (Str.ofString (toString ((NumText.digitsVal (tl z) : Nat) : Int)) = z) ↔ numL (NumText.digitsVal (tl z)) = tl z := by
        constructor
        · intro h
          have := congrArg tl h
          rwa [tl_num] at this
        · intro h
          exact ext_tl (by rw [tl_num]; exact h)
      walk_at "rd"
      have fin : ∀ b : Bool, b = isN z lo hi → Q (.bl b) M2 := fun b e => by rw [e]; exact k
      have hdg := (digs_iff _).mpr hd
      have hno : ¬ (NumText.digitsVal (tl z) ≤ 65535 ∧ numL (NumText.digitsVal (tl z)) = tl z) → isN z lo hi = false := fun h => by
        unfold isN nof
        rw [if_neg fun q => h ⟨q.2.2, q.2.1⟩]
      have hyes : NumText.digitsVal (tl z) ≤ 65535 → numL (NumText.digitsVal (tl z)) = tl z → isN z lo hi = decide (lo ≤ (NumText.digitsVal (tl z) : Int) ∧ (NumText.digitsVal (tl z) : Int) ≤ hi) := fun h1 h2 => by
        unfold isN nof
        rw [if_pos ⟨hdg, h2, h1⟩]
      with_reducible refine G.i_d (fun g => ?_) (fun g => ?_)
      · have g2 := es.mp g
        walk_at "rd"
        by_cases q1 : lo ≤ (NumText.digitsVal (tl z) : Int)
        · rw [decide_eq_true q1, if_pos rfl]
          walk_at "rd"
          refine fin _ ?_
          by_cases q2 : (NumText.digitsVal (tl z) : Int) ≤ hi
          · rw [hyes (by omega) g2, decide_eq_true q2, decide_eq_true ⟨q1, q2⟩]
          · rw [decide_eq_false q2]
            by_cases q3 : NumText.digitsVal (tl z) ≤ 65535
            · rw [hyes q3 g2, decide_eq_false fun q => q2 q.2]
            · rw [hno fun q => q3 q.1]
        · rw [decide_eq_false q1, if_neg Bool.false_ne_true]
          refine .of (fin _ ?_)
          by_cases q3 : NumText.digitsVal (tl z) ≤ 65535
          · rw [hyes q3 g2, decide_eq_false fun q => q1 q.1]
          · rw [hno fun q => q3 q.1]
      · rw [decide_eq_false g]
        exact .of (fin _ (hno fun q => g (es.mpr q.2)).symm)
theorem ok_l_is_place (T : Top K mg) : Cal P w K mg base CX0 2 "_law_is_place" ["word", "letter", "count"] (conSp K sp_l_isplace) := by
  refine def_A T.f_l_is_place sc_l_is_place (fun _ _ _ _ _ _ us hl => match us, hl with | [_, _, _], _ => rfl) (fun ds M Q E h => ?_) (fun f cdv Ar outer s H E ds M Q EX hr h => ?_)
  · obtain ⟨z, c, m, rfl, _⟩ := h
    rfl
  · obtain ⟨z, c, m, rfl, hz100, hc, hm, k⟩ := h
    refine ⟨_, (as_one (as_ret (ps_ret (a_andT (K := K) (a_cmp (o_eq (K := K) (un64 hr)) (a_slice (o_sl (K := K)) (a_var (pv 0)) ao_none (ao_some a_int)) (a_var (pv 1)) (nomark _)) (pe_one (a_call (g_call (ok_l_is_number T) (hr.mono (by decide)) (by rfl) pass0 (aa_cons (a_slice (o_sl (K := K)) (a_var (pv 0)) (ao_some a_int) ao_none) (aa_cons a_int (aa_cons (a_op o_sub (a_var (pv 2)) a_int) aa_nil)))))))))), ?_⟩
    have hz100 : z.length ≤ 100 := hz100
    have hsz : z.length ≤ sizeLine := by rw [line_val]; omega
    have hst := starts_cut (z := z) hc
    unfold isP at k
    walk_at "rd"
    with_reducible refine G.i_d (fun g => ?_) (fun g => ?_)
    · rw [decide_eq_true (hst.mp g), Bool.true_and] at k
      walk_at "rd"
      exact ⟨_, _, _, rfl, Nat.le_trans (cutS_length z _ _) hz100, by omega, .of k⟩
    · rw [decide_eq_false fun q => g (hst.mpr q), Bool.false_and] at k
      rw [decide_eq_false g]
      exact .of k
theorem ok_l_expects (T : Top K mg) : Cal P w K mg base CX0 3 "_law_expects" ["stack", "scope", "word", "room"] (conSp K sp_l_expects) := by
  refine def_A T.f_l_expects sc_l_expects (fun _ _ _ _ _ _ us hl => match us, hl with | [_, _, _, _], _ => rfl) (fun ds M Q E h => ?_) (fun f cdv Ar outer s H E ds M Q EX hr h => ?_)
  · obtain ⟨S, R, σ, sc, M0, z, d, rfl, _⟩ := h
    rfl
  · obtain ⟨S, R, σ, sc, M0, z, d, rfl, rfl, hz, hσ, hd, hs, k1, k2⟩ := h
    refine ⟨_, (as_cut (as_if (PW.pt (a_and (a_tcmp (o_in (K := K) (un65 hr)) (a_var (pv 2)) (a_tup (aa_cons a_str (aa_cons a_str (aa_cons a_str (aa_cons a_str (aa_cons a_str (aa_cons a_str (aa_cons a_str aa_nil)))))))) rfl) (pw_and1 (a_tcmp o_gt (a_var (pv 3)) a_int (nomark _)))))
  (as_cons (as_drop (ps_expr (a_bm o_app (pe_bm PySem.F.plainAttrs_list PySem.F.slot_list_append PySem.F.type_list_append mt_append (a_var (pv 0)) (aa_cons (a_tup (aa_cons a_str (aa_cons (a_op o_sub (a_var (pv 3)) a_int) aa_nil))) aa_nil)))))
    (as_cons (as_drop (ps_expr (a_bm o_app (pe_bm PySem.F.plainAttrs_list PySem.F.slot_list_append PySem.F.type_list_append mt_append (a_var (pv 0)) (aa_cons (a_tup (aa_cons a_str (aa_cons (a_op o_sub (a_var (pv 3)) a_int) aa_nil))) aa_nil)))))
    (as_one (as_ret (ps_ret a_bl)))))
  as_nil)
  (as_cut (as_if (PW.pt (a_and (a_tcmp (o_eq (K := K) (un64 hr)) (a_var (pv 2)) a_str (nomark _)) (a_and (a_tcmp o_gt (a_var (pv 3)) a_int (nomark _)) (pw_and1 (a_tcmp o_gt (a_dix (K := K) (un1 hr) (a_var (pv 1)) (fun _ _ => rfl)) a_int (nomark _))))))
  (as_cons (as_drop (ps_expr (a_bm o_app (pe_bm PySem.F.plainAttrs_list PySem.F.slot_list_append PySem.F.type_list_append mt_append (a_var (pv 0)) (aa_cons (a_tup (aa_cons a_str (aa_cons (a_op o_sub (a_var (pv 3)) a_int) aa_nil))) aa_nil)))))
    (as_cons (as_drop (ps_expr (a_bm o_app (pe_bm PySem.F.plainAttrs_list PySem.F.slot_list_append PySem.F.type_list_append mt_append (a_var (pv 0)) (aa_cons (a_tup (aa_cons a_str (aa_cons a_str (aa_cons (a_dix (K := K) (un1 hr) (a_var (pv 1)) (fun _ _ => rfl)) aa_nil)))) aa_nil)))))
    (as_one (as_ret (ps_ret a_bl)))))
  as_nil)
  (as_one (as_ret (ps_ret (a_orT (K := K) (a_call (g_call (ok_l_is_place T) (hr.mono (by decide)) (by rfl) pass0 (aa_cons (a_var (pv 2)) (aa_cons a_str (aa_cons (a_dix (K := K) (un1 hr) (a_var (pv 1)) (fun _ _ => rfl)) aa_nil))))) (pe_one (a_call (g_call (ok_l_is_number T) (hr.mono (by decide)) (by rfl) pass0 (aa_cons (a_var (pv 2)) (aa_cons a_int (aa_cons a_int aa_nil)))))))))))), ?_⟩
    have hsa := hs.a
    have hln : (σ.map It.d).reverse.length ≤ 8000000 := by rw [List.length_reverse, List.length_map]; exact hσ
    have hz9 : (σ.map It.d).reverse.length < sizeLine := by rw [line_val]; omega
    have hz8 : ((σ.map It.d).reverse ++ [It.d (.exp (d - 1))]).length < sizeLine := by rw [line_val, List.length_append]; show _ + 1 < _; omega
    have k1 : ∀ l, expA sc z d = some l → Q (.bl true) ((S, .lst ((σ.map It.d).reverse ++ (l.map It.d).reverse)) :: (R, .dct (scF sc)) :: M0) := fun l h => by rw [← st_app]; exact k1 l h
    unfold expA at k1 k2
    walk_at "rd"
    refine s_cut (fun xs M' => ¬ (1 < d ∧ z ∈ opsL) ∧ xs = [some (.r S), some (.r R), some (.str z), some (natD d)] ∧ M' = stM S R σ sc M0) ?_ ?_
    · walk_at "rd"
      refine aIn.txts (zs := opsL) .t ?_
      walk_at "rd"
      refine G.i_d (fun h1 => ?_) (fun h1 => ?_)
      · walk_at "rd"
        refine G.i_d (fun h2 => ?_) (fun h2 => ?_)
        · have hx : ((d : Int) - 1) = ((d - 1 : Nat) : Int) := by omega
          walk_at "rd"
          rw [hx]
          have := k1 _ (if_pos ⟨by omega, h1⟩)
          rw [show (([It.exp (d - 1), .exp (d - 1)] : List It).map It.d).reverse = [It.d (.exp (d - 1))] ++ [It.d (.exp (d - 1))] from rfl, ← List.append_assoc] at this
          exact this
        · walk_at "rd"
          exact ⟨fun q => h2 (by omega), rfl, rfl⟩
      · walk_at "rd"
        exact ⟨fun q => h1 q.2, rfl, rfl⟩
    rintro xs M' ⟨n1, rfl, rfl⟩
    rw [if_neg n1] at k1 k2
    refine s_cut (fun xs M' => ¬ (1 < d ∧ z = "get" ∧ 0 < sc.nb) ∧ xs = [some (.r S), some (.r R), some (.str z), some (natD d)] ∧ M' = stM S R σ sc M0) ?_ ?_
    · walk_at "rd"
      refine G.i_d (fun h1 => ?_) (fun h1 => ?_)
      · walk_at "rd"
        refine G.i_d (fun h2 => ?_) (fun h2 => ?_)
        · walk_at "rd"
          refine G.i_d (fun h3 => ?_) (fun h3 => ?_)
          · have hx : ((d : Int) - 1) = ((d - 1 : Nat) : Int) := by omega
            walk_at "rd"
            rw [hx]
            have := k1 _ (if_pos ⟨by omega, h1, by omega⟩)
            rw [show (([It.place "b" sc.nb, .exp (d - 1)] : List It).map It.d).reverse = [It.d (.exp (d - 1))] ++ [It.d (.place "b" sc.nb)] from rfl, ← List.append_assoc] at this
            exact this
          · walk_at "rd"
            exact ⟨fun q => h3 (by omega), rfl, rfl⟩
        · walk_at "rd"
          exact ⟨fun q => h2 (by omega), rfl, rfl⟩
      · walk_at "rd"
        exact ⟨fun q => h1 q.2.1, rfl, rfl⟩
    rintro xs M' ⟨n2, rfl, rfl⟩
    rw [if_neg n2] at k1 k2
    walk_at "rd"
    refine ⟨z, "l", sc.nl, rfl, hz, one_l, by omega, ?_⟩
    have el : isP z "l" (sc.nl : Int) = (inP "l" z sc.nl).isSome := isP_in
    have en : isN z 0 65535 = (inN z 0 65535).isSome := isN_in (lo := 0) (hi := 65535)
    have hsl : ∀ m, inP "l" z sc.nl = some m → Txt.startswith z "l" = true := fun m h => by
      unfold inP nameOf at h
      by_cases q : Txt.startswith z "l" = true
      · exact q
      · rw [if_neg q] at h; cases h
    cases hp : inP "l" z sc.nl with
    | some m =>
      rw [if_pos (hsl m hp), hp] at k1
      have el2 : isP z "l" (sc.nl : Int) = true := by rw [el, hp]; rfl
      rw [el2]
      walk_at "rd"
      have := k1 [] rfl
      rw [show (([] : List It).map It.d).reverse = [] from rfl, List.append_nil] at this
      exact this
    | none =>
      have el2 : isP z "l" (sc.nl : Int) = false := by rw [el, hp]; rfl
      rw [el2]
      walk_at "rd"
      refine ⟨z, 0, 65535, rfl, hz, by decide, ?_⟩
      rw [en]
      by_cases q : Txt.startswith z "l" = true
      · rw [if_pos q, hp] at k2
        have hn : inN z 0 65535 = none := by
          have : nof z = none := by
            obtain ⟨r, hr⟩ := starts_tl q
            unfold nof
            rw [if_neg]
            rintro ⟨g1, _⟩
            have := (digs_iff _).mp g1 108 (by rw [hr]; exact List.mem_append_left _ (by decide +kernel))
            omega
          unfold inN
          rw [this]
        rw [hn]
        exact .of (k2 rfl)
      · rw [if_neg q] at k1 k2
        cases hn : inN z 0 65535 with
        | none =>
          rw [hn] at k2
          exact .of (k2 rfl)
        | some m =>
          rw [hn] at k1
          have := k1 [] rfl
          rw [show (([] : List It).map It.d).reverse = [] from rfl, List.append_nil] at this
          exact .of this
theorem ok_l_begins (T : Top K mg) : Cal P w K mg base CX0 1 "_law_begins" ["stack", "scope", "word", "room"] (conSp K sp_l_begins) := by
  refine def_A T.f_l_begins sc_l_begins (fun _ _ _ _ _ _ us hl => match us, hl with | [_, _, _, _], _ => rfl) (fun ds M Q E h => ?_) (fun f cdv Ar outer s H E ds M Q EX hr h => ?_)
  · obtain ⟨S, R, σ, sc, M0, z, n, rfl, _⟩ := h
    rfl
  · obtain ⟨S, R, σ, sc, M0, z, n, rfl, rfl, hz, hσ, hn, hs, k1, k2⟩ := h
    refine ⟨_, (as_cons (as_set (ps_set (i := 4) sc_l_begins.nd rfl (by first | exact Or.inl rfl | exact Or.inr rfl) (a_tup (aa_cons a_str (aa_cons a_int aa_nil)))))
  (as_cons (as_set (ps_set (i := 5) sc_l_begins.nd rfl (by first | exact Or.inl rfl | exact Or.inr rfl) (a_tup (aa_cons a_str (aa_cons a_str (aa_cons (a_dix (K := K) (un1 hr) (a_var (pv 1)) (fun _ _ => rfl)) aa_nil))))))
  (as_cut (as_if (a_tcmp (o_eq (K := K) (un64 hr)) (a_var (pv 2)) a_str (nomark _))
  (as_one (as_drop (ps_expr (a_bm o_app (pe_bm PySem.F.plainAttrs_list PySem.F.slot_list_append PySem.F.type_list_append mt_append (a_var (pv 0)) (aa_cons (a_var (pv 4)) aa_nil))))))
  (as_one (as_if (a_tcmp (o_eq (K := K) (un64 hr)) (a_var (pv 2)) a_str (nomark _))
    (as_one (as_drop (ps_expr (a_bm o_ext (pe_bm PySem.F.plainAttrs_list PySem.F.slot_list_extend PySem.F.type_list_extend mt_extend (a_var (pv 0)) (aa_cons (a_lst (aa_cons (a_var (pv 4)) (aa_cons (a_var (pv 5)) aa_nil))) aa_nil))))))
    (as_one (as_if (PW.pt (a_and (a_tcmp (o_eq (K := K) (un64 hr)) (a_var (pv 2)) a_str (nomark _)) (pw_and1 (a_tcmp o_gt (a_dix (K := K) (un1 hr) (a_var (pv 1)) (fun _ _ => rfl)) a_int (nomark _)))))
      (as_one (as_drop (ps_expr (a_bm o_ext (pe_bm PySem.F.plainAttrs_list PySem.F.slot_list_extend PySem.F.type_list_extend mt_extend (a_var (pv 0)) (aa_cons (a_lst (aa_cons (a_var (pv 4)) (aa_cons (a_var (pv 4)) (aa_cons (a_tup (aa_cons a_str (aa_cons a_str (aa_cons (a_dix (K := K) (un1 hr) (a_var (pv 1)) (fun _ _ => rfl)) aa_nil)))) aa_nil)))) aa_nil))))))
      (as_one (as_if (a_tcmp (o_eq (K := K) (un64 hr)) (a_var (pv 2)) a_str (nomark _))
        (as_one (as_drop (ps_expr (a_bm o_ext (pe_bm PySem.F.plainAttrs_list PySem.F.slot_list_extend PySem.F.type_list_extend mt_extend (a_var (pv 0)) (aa_cons (a_lst (aa_cons (a_var (pv 4)) (aa_cons (a_tup (aa_cons a_str (aa_cons a_str (aa_cons (a_dix (K := K) (un1 hr) (a_var (pv 1)) (fun _ _ => rfl)) aa_nil)))) (aa_cons (a_var (pv 5)) aa_nil)))) aa_nil))))))
        (as_one (as_if (PW.pt (a_and (a_tcmp (o_eq (K := K) (un64 hr)) (a_var (pv 2)) a_str (nomark _)) (pw_and1 (a_tcmp o_gt (a_dix (K := K) (un1 hr) (a_var (pv 1)) (fun _ _ => rfl)) a_int (nomark _)))))
          (as_one (as_drop (ps_expr (a_bm o_ext (pe_bm PySem.F.plainAttrs_list PySem.F.slot_list_extend PySem.F.type_list_extend mt_extend (a_var (pv 0)) (aa_cons (a_lst (aa_cons (a_var (pv 4)) (aa_cons (a_tup (aa_cons a_str (aa_cons a_str (aa_cons (a_dix (K := K) (un1 hr) (a_var (pv 1)) (fun _ _ => rfl)) aa_nil)))) (aa_cons (a_var (pv 5)) aa_nil)))) aa_nil))))))
          (as_one (as_if (PW.pt (a_and (a_tcmp (o_eq (K := K) (un64 hr)) (a_var (pv 2)) a_str (nomark _)) (pw_and1 (a_tcmp o_gt (a_var (pv 3)) a_int (nomark _)))))
            (as_one (as_drop (ps_expr (a_bm o_ext (pe_bm PySem.F.plainAttrs_list PySem.F.slot_list_extend PySem.F.type_list_extend mt_extend (a_var (pv 0)) (aa_cons (a_lst (aa_cons (a_tup (aa_cons a_str (aa_cons (a_op o_sub (a_var (pv 3)) a_int) (aa_cons a_str aa_nil)))) (aa_cons (a_var (pv 4)) aa_nil))) aa_nil))))))
            (as_one (as_if (PW.pt (a_and (a_tcmp (o_eq (K := K) (un64 hr)) (a_var (pv 2)) a_str (nomark _)) (pw_and1 (a_tcmp o_gt (a_var (pv 3)) a_int (nomark _)))))
              (as_one (as_drop (ps_expr (a_bm o_ext (pe_bm PySem.F.plainAttrs_list PySem.F.slot_list_extend PySem.F.type_list_extend mt_extend (a_var (pv 0)) (aa_cons (a_lst (aa_cons (a_tup (aa_cons a_str (aa_cons (a_op o_sub (a_var (pv 3)) a_int) (aa_cons a_str aa_nil)))) (aa_cons (a_var (pv 4)) aa_nil))) aa_nil))))))
              (as_one (as_ret (ps_ret a_bl))))))))))))))))
  (as_one (as_ret (ps_ret a_bl)))))), ?_⟩
    have hsa := hs.a
    have hln : (σ.map It.d).reverse.length ≤ 8000001 := by rw [List.length_reverse, List.length_map]; exact hσ
    have hz1 : (σ.map It.d).reverse.length < sizeLine := by rw [line_val]; omega
    have hz2 : (σ.map It.d).reverse.length + 2 ≤ sizeLine := by rw [line_val]; omega
    have hz3 : (σ.map It.d).reverse.length + 3 ≤ sizeLine := by rw [line_val]; omega
    have k1 : ∀ l, begA sc n z = some l → Q (.bl true) ((S, .lst ((σ.map It.d).reverse ++ (l.map It.d).reverse)) :: (R, .dct (scF sc)) :: M0) := fun l h => by rw [← st_app]; exact k1 l h
    walk_at "rd"
    refine s_cut (fun xs M' => ∃ l, begA sc n z = some l ∧ M' = (S, .lst ((σ.map It.d).reverse ++ (l.map It.d).reverse)) :: (R, .dct (scF sc)) :: M0) ?_ ?_
    · walk_at "rd"
      refine G.i_d (fun h1 => ?_) (fun h1 => ?_)
      · walk_at "rd"
        exact ⟨_, by rw [h1]; exact beg_return, rfl⟩
      walk_at "rd"
      refine G.i_d (fun h2 => ?_) (fun h2 => ?_)
      · walk_at "rd"
        refine aExt.mk .hd (.inl rfl) hz2 ?_
        walk_at "rd"
        exact ⟨_, by rw [h2]; exact beg_set, rfl⟩
      walk_at "rd"
      refine G.i_d (fun h3 => ?_) (fun h3 => ?_)
      · walk_at "rd"
        refine G.i_d (fun g => ?_) (fun g => ?_)
        · walk_at "rd"
          refine aExt.mk .hd (.inl rfl) hz3 ?_
          walk_at "rd"
          exact ⟨_, by rw [h3]; exact beg_put (by omega), rfl⟩
        · subst h3
          walk_at "rd"
          exact k2 (beg_put0 (by omega))
      walk_at "rd"
      refine G.i_d (fun h4 => ?_) (fun h4 => ?_)
      · walk_at "rd"
        refine aExt.mk .hd (.inl rfl) hz3 ?_
        walk_at "rd"
        exact ⟨_, by rw [h4]; exact beg_call, rfl⟩
      walk_at "rd"
      refine G.i_d (fun h5 => ?_) (fun h5 => ?_)
      · walk_at "rd"
        refine G.i_d (fun g => ?_) (fun g => ?_)
        · walk_at "rd"
          refine aExt.mk .hd (.inl rfl) hz3 ?_
          walk_at "rd"
          exact ⟨_, by rw [h5]; exact beg_use (by omega), rfl⟩
        · subst h5
          walk_at "rd"
          exact k2 (beg_use0 (by omega))
      have hx : 0 < n → ((n : Int) - 1) = ((n - 1 : Nat) : Int) := fun _ => by omega
      walk_at "rd"
      refine G.i_d (fun h6 => ?_) (fun h6 => ?_)
      · walk_at "rd"
        refine G.i_d (fun g => ?_) (fun g => ?_)
        · walk_at "rd"
          rw [hx (by omega)]
          refine aExt.mk .hd (.inl rfl) hz2 ?_
          walk_at "rd"
          exact ⟨_, by rw [h6]; exact beg_if (by omega), rfl⟩
        · subst h6
          walk_at "rd"
          exact k2 (beg_if0 (by omega))
      walk_at "rd"
      refine G.i_d (fun h7 => ?_) (fun h7 => ?_)
      · walk_at "rd"
        refine G.i_d (fun g => ?_) (fun g => ?_)
        · walk_at "rd"
          rw [hx (by omega)]
          refine aExt.mk .hd (.inl rfl) hz2 ?_
          walk_at "rd"
          exact ⟨_, by rw [h7]; exact beg_while (by omega), rfl⟩
        · subst h7
          walk_at "rd"
          exact k2 (beg_while0 (by omega))
      walk_at "rd"
      refine k2 ?_
      unfold begA
      rw [if_neg h2, if_neg h3, if_neg h4, if_neg h5, if_neg h6, if_neg h7, if_neg h1]
    rintro xs M' ⟨l, hl, rfl⟩
    walk_at "rd"
    exact k1 l hl
end




section
variable {P : Program} {w : World} {K : PySem.W.Frag} {mg : Str → Option Value} {base : Heap} {C : Cs}
theorem ok_l_blocks (T : Top K mg) : Cal P w K mg base CX0 2 "_law_blocks" ["stack", "scope", "word", "room", "kind"] (conSp K sp_l_blocks) := by
  refine def_A T.f_l_blocks sc_l_blocks (fun _ _ _ _ _ _ us hl => match us, hl with | [_, _, _, _, _], _ => rfl) (fun ds M Q E h => ?_) (fun f cdv Ar outer s H E ds M Q EX hr h => ?_)
  · obtain ⟨S, R, σ, sc, M0, z, n, k, rfl, _⟩ := h
    rfl
  · obtain ⟨S, R, σ, sc, M0, z, n, k, rfl, rfl, hz, hσ, hn, hs, k1, k2⟩ := h
    refine ⟨_, (as_cons (as_if (a_tcmp (o_eq (K := K) (un64 hr)) (a_var (pv 2)) a_str (nomark _))
  (as_one (as_ret (ps_ret (a_cmp (o_ne (K := K) (un64 hr)) (a_var (pv 4)) a_str (nomark _)))))
  as_nil)
  (as_cut (as_if (PW.pt (a_and (a_tcmp (o_eq (K := K) (un64 hr)) (a_var (pv 2)) a_str (nomark _)) (pw_and1 (a_tcmp (o_eq (K := K) (un64 hr)) (a_var (pv 4)) a_str (nomark _)))))
  (as_cons (as_drop (ps_expr (a_bm o_app (pe_bm PySem.F.plainAttrs_list PySem.F.slot_list_append PySem.F.type_list_append mt_append (a_var (pv 0)) (aa_cons (a_tup (aa_cons a_str (aa_cons (a_var (pv 3)) (aa_cons a_str aa_nil)))) aa_nil)))))
    (as_one (as_ret (ps_ret a_bl))))
  as_nil)
  (as_cut (as_if (a_tcmp (o_eq (K := K) (un64 hr)) (a_var (pv 4)) a_str (nomark _))
  (as_one (as_set (ps_set (i := 4) sc_l_blocks.nd rfl (by first | exact Or.inl rfl | exact Or.inr rfl) a_str)))
  as_nil)
  (as_cons (as_drop (ps_expr (a_bm o_app (pe_bm PySem.F.plainAttrs_list PySem.F.slot_list_append PySem.F.type_list_append mt_append (a_var (pv 0)) (aa_cons (a_tup (aa_cons a_str (aa_cons (a_var (pv 3)) (aa_cons (a_var (pv 4)) aa_nil)))) aa_nil)))))
  (as_cons (as_if (a_truth (K := K) (a_call (g_call (ok_l_begins T) (hr.mono (by decide)) (by rfl) pass0 (aa_cons (a_var (pv 0)) (aa_cons (a_var (pv 1)) (aa_cons (a_var (pv 2)) (aa_cons (a_var (pv 3)) aa_nil)))))) (by intro _; rfl))
  (as_one (as_ret (ps_ret a_bl)))
  as_nil)
  (as_cons (as_drop (ps_expr (a_bm0 o_pop (pe_bm0 PySem.F.plainAttrs_list PySem.F.slot_list_pop PySem.F.type_list_pop mt_pop (a_var (pv 0))))))
  (as_one (as_ret (ps_ret a_bl))))))))), ?_⟩
    have hsa := hs.a
    have hln : (σ.map It.d).reverse.length ≤ 8000000 := by rw [List.length_reverse, List.length_map]; exact hσ
    have hz1 : (σ.map It.d).reverse.length < sizeLine := by rw [line_val]; omega
    walk_at "rd"
    refine G.i_d (fun h1 => ?_) (fun h1 => ?_)
    · unfold blkA at k1 k2
      rw [if_pos h1] at k1 k2
      walk_at "rd"
      by_cases q : k = .emp
      · rw [if_pos q] at k2
        rw [decide_eq_true (Kd.s_emp.mpr q)]
        exact k2 rfl
      · rw [if_neg q] at k1
        rw [decide_eq_false fun g => q (Kd.s_emp.mp g)]
        exact k1 [] rfl
    walk_at "rd"
    refine s_cut (fun xs M' => ¬ (z = "else" ∧ k = .thn) ∧ xs = [some (.r S), some (.r R), some (.str z), some (natD n), some (.str k.s)] ∧ M' = stM S R σ sc M0) ?_ ?_
    · walk_at "rd"
      refine G.i_d (fun h2 => ?_) (fun h2 => ?_)
      · walk_at "rd"
        refine G.i_d (fun h3 => ?_) (fun h3 => ?_)
        · walk_at "rd"
          have := k1 [.block n .emp] (by unfold blkA; rw [if_neg h1, if_pos ⟨h2, Kd.s_thn.mp h3⟩])
          rw [stM, stO, st_app] at this
          exact this
        · walk_at "rd"
          exact ⟨fun q => h3 (Kd.s_thn.mpr q.2), rfl, rfl⟩
      · walk_at "rd"
        exact ⟨fun q => h2 q.1, rfl, rfl⟩
    rintro xs M' ⟨n1, rfl, rfl⟩
    unfold blkA at k1 k2
    rw [if_neg h1, if_neg n1] at k1 k2
    refine s_cut (fun xs M' => xs = [some (.r S), some (.r R), some (.str z), some (natD n), some (.str k.on.s)] ∧ M' = stM S R σ sc M0) ?_ ?_
    · walk_at "rd"
      refine G.i_d (fun h3 => ?_) (fun h3 => ?_)
      · walk_at "rd"
        rw [Kd.s_emp.mp h3]
        exact ⟨rfl, rfl⟩
      · walk_at "rd"
        rw [show k.on = k by unfold Kd.on; exact if_neg fun q => h3 (Kd.s_emp.mpr q)]
        exact ⟨rfl, rfl⟩
    rintro xs M' ⟨rfl, rfl⟩
    walk_at "rd"
    refine ⟨S, R, .block n k.on :: σ, sc, M0, z, n, rfl, by rw [stM, stO, st_cons]; rfl, hz, by rw [List.length_cons]; omega, hn, hs, fun l hl => ?_, fun hb => ?_⟩
    · walk_at "rd"
      have := k1 (l ++ [.block n k.on]) (by rw [hl]; rfl)
      rw [List.append_assoc] at this
      exact this
    · have hp : ((σ.map It.d).reverse ++ [(It.block n k.on).d])[((σ.map It.d).reverse ++ [(It.block n k.on).d]).length - 1]? = some (It.block n k.on).d := by simp
      rw [show stM S R (.block n k.on :: σ) sc M0 = (S, .lst ((σ.map It.d).reverse ++ [(It.block n k.on).d])) :: (R, .dct (scF sc)) :: M0 by rw [stM, stO, st_cons]]
      walk_at "rd"
      rw [List.dropLast_concat]
      exact k2 (by rw [hb]; rfl)
theorem ok_l_heads (T : Top K mg) : Cal P w K mg base CX0 1 "_law_heads" ["stack", "scope", "word"] (conSp K sp_l_heads) := by
  refine def_A T.f_l_heads sc_l_heads (fun _ _ _ _ _ _ us hl => match us, hl with | [_, _, _], _ => rfl) (fun ds M Q E h => ?_) (fun f cdv Ar outer s H E ds M Q EX hr h => ?_)
  · obtain ⟨S, R, σ, sc, M0, z, rfl, _⟩ := h
    rfl
  · obtain ⟨S, R, σ, sc, M0, z, rfl, rfl, hz, hσ, hs, k1, k2⟩ := h
    refine ⟨_, (as_cut (as_if (PW.pt (a_and (a_tcmp (o_eq (K := K) (un64 hr)) (a_var (pv 2)) a_str (nomark _)) (a_and (a_tcmp o_lt (a_dix (K := K) (un1 hr) (a_var (pv 1)) (fun _ _ => rfl)) a_int (nomark _)) (pw_and1 (a_tcmp (o_eq (K := K) (un64 hr)) (a_dix (K := K) (un1 hr) (a_var (pv 1)) (fun _ _ => rfl)) (a_dix (K := K) (un1 hr) (a_var (pv 1)) (fun _ _ => rfl)) (nomark _))))))
  (as_cons (as_asg (ps_asg (a_op (o_add (K := K)) (a_dix (K := K) (un1 hr) (a_var (pv 1)) (fun _ _ => rfl)) a_int) (ag_dsub (pg_sub (a_var (pv 1)) pe_str (set_dict (un1 hr))))))
    (as_cons (as_drop (ps_expr (a_bm o_ext (pe_bm PySem.F.plainAttrs_list PySem.F.slot_list_extend PySem.F.type_list_extend mt_extend (a_var (pv 0)) (aa_cons (a_lst (aa_cons (a_tup (aa_cons a_str aa_nil)) (aa_cons (a_tup (aa_cons a_str aa_nil)) aa_nil))) aa_nil)))))
    (as_one (as_ret (ps_ret a_bl)))))
  as_nil)
  (as_cons (as_if (PW.pt (a_or (a_tcmp (o_ne (K := K) (un64 hr)) (a_var (pv 2)) a_str (nomark _)) (pw_or1 (a_tcmp (o_eq (K := K) (un64 hr)) (a_dix (K := K) (un1 hr) (a_var (pv 1)) (fun _ _ => rfl)) a_int (nomark _)))))
  (as_one (as_ret (ps_ret a_bl)))
  as_nil)
  (as_cons (as_asg (ps_asg (a_op o_sub (a_dix (K := K) (un1 hr) (a_var (pv 1)) (fun _ _ => rfl)) a_int) (ag_dsub (pg_sub (a_var (pv 1)) pe_str (set_dict (un1 hr))))))
  (as_cons (as_drop (ps_expr (a_bm o_ext (pe_bm PySem.F.plainAttrs_list PySem.F.slot_list_extend PySem.F.type_list_extend mt_extend (a_var (pv 0)) (aa_cons (a_lst (aa_cons (a_tup (aa_cons a_str aa_nil)) (aa_cons (a_tup (aa_cons a_str aa_nil)) aa_nil))) aa_nil)))))
  (as_one (as_ret (ps_ret a_bl))))))), ?_⟩
    have hsa := hs.a
    have hln : (σ.map It.d).reverse.length ≤ 8000000 := by rw [List.length_reverse, List.length_map]; exact hσ
    have hz2 : (σ.map It.d).reverse.length + 2 ≤ sizeLine := by rw [line_val]; omega
    have k1 : ∀ l sc', headA sc z = some (l, sc') → Q (.bl true) ((S, .lst ((σ.map It.d).reverse ++ (l.map It.d).reverse)) :: (R, .dct (scF sc')) :: M0) := fun l sc' h => by rw [← st_app]; exact k1 l sc' h
    unfold headA at k1 k2
    walk_at "rd"
    refine s_cut (fun xs M' => ¬ (z = "buffer" ∧ sc.nb < 8 ∧ sc.left = sc.np) ∧ xs = [some (.r S), some (.r R), some (.str z)] ∧ M' = stM S R σ sc M0) ?_ ?_
    · walk_at "rd"
      refine G.i_d (fun h1 => ?_) (fun h1 => ?_)
      · walk_at "rd"
        refine G.i_d (fun h2 => ?_) (fun h2 => ?_)
        · walk_at "rd"
          refine G.i_d (fun h3 => ?_) (fun h3 => ?_)
          · walk_at "rd"
            refine aExt.mk .hd (.inl rfl) hz2 ?_
            walk_at "rd"
            exact k1 _ _ (if_pos ⟨h1, by omega, by omega⟩)
          · walk_at "rd"
            exact ⟨fun q => h3 (by omega), rfl, rfl⟩
        · walk_at "rd"
          exact ⟨fun q => h2 (by omega), rfl, rfl⟩
      · walk_at "rd"
        exact ⟨fun q => h1 q.1, rfl, rfl⟩
    rintro xs M' ⟨n1, rfl, rfl⟩
    rw [if_neg n1] at k1 k2
    walk_at "rd"
    refine G.i_nd (fun h1 => ?_) (fun h1 => ?_)
    · walk_at "rd"
      exact k2 (if_neg fun q => h1 q.1)
    walk_at "rd"
    refine G.i_d (fun h2 => ?_) (fun h2 => ?_)
    · walk_at "rd"
      exact k2 (if_neg fun q => by have := q.2; omega)
    have hx : ((sc.left : Int) - 1) = ((sc.left - 1 : Nat) : Int) := by omega
    walk_at "rd"
    rw [hx]
    refine aExt.mk .hd (.inl rfl) hz2 ?_
    walk_at "rd"
    exact k1 _ _ (if_pos ⟨h1, by omega⟩)
theorem ok_l_next (T : Top K mg) : Cal P w K mg base CX0 4 "_law_next" ["stack", "scope", "word"] (conSp K sp_l_next) := by
  refine def_A T.f_l_next sc_l_next (fun _ _ _ _ _ _ us hl => match us, hl with | [_, _, _], _ => rfl) (fun ds M Q E h => ?_) (fun f cdv Ar outer s H E ds M Q EX hr h => ?_)
  · obtain ⟨S, R, t, σ, sc, M0, z, rfl, _⟩ := h
    rfl
  · obtain ⟨S, R, t, σ, sc, M0, z, rfl, rfl, hz, hσ, hs, ht, k1, k2⟩ := h
    refine ⟨_, (as_cons (as_set (ps_set (i := 3) sc_l_next.nd rfl (by first | exact Or.inl rfl | exact Or.inr rfl) (a_bm0 o_pop (pe_bm0 PySem.F.plainAttrs_list PySem.F.slot_list_pop PySem.F.type_list_pop mt_pop (a_var (pv 0))))))
  (as_cons (as_if (a_tcmp (o_eq (K := K) (un64 hr)) (a_ix (o_ix (K := K)) (a_var (pv 3)) a_int (fun _ _ => rfl)) a_str (nomark _))
  (as_one (as_ret (ps_ret (a_cmp (o_eq (K := K) (un64 hr)) (a_var (pv 2)) (a_ix (o_ix (K := K)) (a_var (pv 3)) a_int (fun _ _ => rfl)) (nomark _)))))
  as_nil)
  (as_cons (as_if (a_tcmp (o_eq (K := K) (un64 hr)) (a_ix (o_ix (K := K)) (a_var (pv 3)) a_int (fun _ _ => rfl)) a_str (nomark _))
  (as_one (as_ret (ps_ret (a_call (g_call (ok_l_is_number T) (hr.mono (by decide)) (by rfl) pass0 (aa_cons (a_var (pv 2)) (aa_cons a_int (aa_cons a_int aa_nil))))))))
  as_nil)
  (as_cons (as_if (a_tcmp (o_eq (K := K) (un64 hr)) (a_ix (o_ix (K := K)) (a_var (pv 3)) a_int (fun _ _ => rfl)) a_str (nomark _))
  (as_one (as_ret (ps_ret (a_call (g_call (ok_l_is_place T) (hr.mono (by decide)) (by rfl) pass0 (aa_cons (a_var (pv 2)) (aa_cons (a_ix (o_ix (K := K)) (a_var (pv 3)) a_int (fun _ _ => rfl)) (aa_cons (a_ix (o_ix (K := K)) (a_var (pv 3)) a_int (fun _ _ => rfl)) aa_nil))))))))
  as_nil)
  (as_cons (as_if (a_tcmp (o_eq (K := K) (un64 hr)) (a_ix (o_ix (K := K)) (a_var (pv 3)) a_int (fun _ _ => rfl)) a_str (nomark _))
  (as_one (as_ret (ps_ret (a_call (g_call (ok_l_expects T) (hr.mono (by decide)) (by rfl) pass0 (aa_cons (a_var (pv 0)) (aa_cons (a_var (pv 1)) (aa_cons (a_var (pv 2)) (aa_cons (a_ix (o_ix (K := K)) (a_var (pv 3)) a_int (fun _ _ => rfl)) aa_nil)))))))))
  as_nil)
  (as_cons (as_if (a_tcmp (o_eq (K := K) (un64 hr)) (a_ix (o_ix (K := K)) (a_var (pv 3)) a_int (fun _ _ => rfl)) a_str (nomark _))
  (as_one (as_ret (ps_ret (a_call (g_call (ok_l_blocks T) (hr.mono (by decide)) (by rfl) pass0 (aa_cons (a_var (pv 0)) (aa_cons (a_var (pv 1)) (aa_cons (a_var (pv 2)) (aa_cons (a_ix (o_ix (K := K)) (a_var (pv 3)) a_int (fun _ _ => rfl)) (aa_cons (a_ix (o_ix (K := K)) (a_var (pv 3)) a_int (fun _ _ => rfl)) aa_nil))))))))))
  as_nil)
  (as_cons (as_if (a_tcmp (o_eq (K := K) (un64 hr)) (a_ix (o_ix (K := K)) (a_var (pv 3)) a_int (fun _ _ => rfl)) a_str (nomark _))
  (as_one (as_ret (ps_ret (a_call (g_call (ok_l_heads T) (hr.mono (by decide)) (by rfl) pass0 (aa_cons (a_var (pv 0)) (aa_cons (a_var (pv 1)) (aa_cons (a_var (pv 2)) aa_nil))))))))
  as_nil)
  (as_cons (as_if (a_tcmp (o_eq (K := K) (un64 hr)) (a_ix (o_ix (K := K)) (a_var (pv 3)) a_int (fun _ _ => rfl)) a_str (nomark _))
  (as_one (as_ret (ps_ret (a_call (g_call (ok_l_is_number T) (hr.mono (by decide)) (by rfl) pass0 (aa_cons (a_var (pv 2)) (aa_cons a_int (aa_cons a_int aa_nil))))))))
  as_nil)
  (as_cons (as_set (ps_set (i := 4) sc_l_next.nd rfl (by first | exact Or.inl rfl | exact Or.inr rfl) (a_op (o_add (K := K)) (a_op (o_add (K := K)) a_int (a_op o_mul a_int (a_callTy o_int (by rfl) T.b_int (by decide +kernel) (aa_cons (a_cmp (o_eq (K := K) (un64 hr)) (a_ix (o_ix (K := K)) (a_var (pv 3)) a_int (fun _ _ => rfl)) a_str (nomark _)) aa_nil)))) (a_op o_mul a_int (a_callTy o_int (by rfl) T.b_int (by decide +kernel) (aa_cons (a_cmp (o_eq (K := K) (un64 hr)) (a_ix (o_ix (K := K)) (a_var (pv 3)) a_int (fun _ _ => rfl)) a_str (nomark _)) aa_nil))))))
  (as_cons (as_if (a_not (a_truth (K := K) (a_call (g_call (ok_l_is_number T) (hr.mono (by decide)) (by rfl) pass0 (aa_cons (a_var (pv 2)) (aa_cons a_int (aa_cons (a_var (pv 4)) aa_nil))))) (by intro _; rfl)))
  (as_one (as_ret (ps_ret a_bl)))
  as_nil)
  (as_cut (as_if (a_tcmp (o_eq (K := K) (un64 hr)) (a_ix (o_ix (K := K)) (a_var (pv 3)) a_int (fun _ _ => rfl)) a_str (nomark _))
  (as_cons (as_asg (ps_asg (a_callTy o_int (by rfl) T.b_int (by decide +kernel) (aa_cons (a_var (pv 2)) aa_nil)) (ag_dsub (pg_sub (a_var (pv 1)) pe_str (set_dict (un1 hr))))))
    (as_one (as_asg (ps_asg (a_callTy o_int (by rfl) T.b_int (by decide +kernel) (aa_cons (a_var (pv 2)) aa_nil)) (ag_dsub (pg_sub (a_var (pv 1)) pe_str (set_dict (un1 hr))))))))
  as_nil)
  (as_cut (as_if (a_tcmp (o_eq (K := K) (un64 hr)) (a_ix (o_ix (K := K)) (a_var (pv 3)) a_int (fun _ _ => rfl)) a_str (nomark _))
  (as_cons (as_asg (ps_asg (a_callTy o_int (by rfl) T.b_int (by decide +kernel) (aa_cons (a_var (pv 2)) aa_nil)) (ag_dsub (pg_sub (a_var (pv 1)) pe_str (set_dict (un1 hr))))))
    (as_one (as_drop (ps_expr (a_bm o_app (pe_bm PySem.F.plainAttrs_list PySem.F.slot_list_append PySem.F.type_list_append mt_append (a_var (pv 0)) (aa_cons (a_tup (aa_cons a_str (aa_cons a_int (aa_cons a_str aa_nil)))) aa_nil)))))))
  as_nil)
  (as_cut (as_if (a_tcmp (o_eq (K := K) (un64 hr)) (a_ix (o_ix (K := K)) (a_var (pv 3)) a_int (fun _ _ => rfl)) a_str (nomark _))
  (as_one (as_drop (ps_expr (a_bm o_ext (pe_bm PySem.F.plainAttrs_list PySem.F.slot_list_extend PySem.F.type_list_extend mt_extend (a_var (pv 0)) (aa_cons (a_op (o_rep (K := K)) (a_lst (aa_cons (a_tup (aa_cons a_str aa_nil)) aa_nil)) (a_callTy o_int (by rfl) T.b_int (by decide +kernel) (aa_cons (a_var (pv 2)) aa_nil))) aa_nil))))))
  as_nil)
  (as_one (as_ret (ps_ret a_bl)))))))))))))))), ?_⟩
    have hsa := hs.a
    have hln : (σ.map It.d).reverse.length ≤ 7000000 := by rw [List.length_reverse, List.length_map]; exact hσ
    have hz1 : (σ.map It.d).reverse.length < sizeLine := by rw [line_val]; omega
    have hz9 : ∀ n, n ≤ 1000 → (σ.map It.d).reverse.length + n ≤ sizeLine := fun n hn => by rw [line_val]; omega
    have hp : ((σ.map It.d).reverse ++ [t.d])[((σ.map It.d).reverse ++ [t.d]).length - 1]? = some t.d := by simp
    have nb : ∀ {lo hi : Nat}, isN z lo hi = (inN z lo hi).isSome := isN_in
    rw [show stM S R (t :: σ) sc M0 = (S, .lst ((σ.map It.d).reverse ++ [t.d])) :: (R, .dct (scF sc)) :: M0 by rw [stM, stO, st_cons]]
    walk_at "rd"
    try refine aPop.mk .hd hp ?_
    rw [List.dropLast_concat]
    clear hp
    cases t with
    | word y =>
      rw [nx_word] at k1 k2
      rw [show (It.word y).d = D.tup [.str "word", .str y] from rfl]
      walk_at "rd"
      by_cases q : z = y
      · rw [decide_eq_true q]
        exact k1 [] sc (if_pos q)
      · rw [decide_eq_false q]
        exact k2 (if_neg q) _
    | room =>
      rw [nx_room] at k1 k2
      rw [show (It.room).d = D.tup [.str "room"] from rfl]
      walk_at "rd"
      refine ⟨z, 0, 20000, rfl, hz, by decide, ?_⟩
      cases hp : inN z 0 20000 with
      | none =>
        have e2 : isN z 0 20000 = false := by rw [show isN z 0 20000 = _ from nb (lo := 0) (hi := 20000), hp]; rfl
        rw [e2]
        exact .of (k2 (by rw [hp]; rfl) _)
      | some m =>
        have e2 : isN z 0 20000 = true := by rw [show isN z 0 20000 = _ from nb (lo := 0) (hi := 20000), hp]; rfl
        rw [e2]
        exact .of (k1 [] sc (by rw [hp]; rfl))
    | datum =>
      rw [nx_datum] at k1 k2
      rw [show (It.datum).d = D.tup [.str "datum"] from rfl]
      walk_at "rd"
      refine ⟨z, 0, 65535, rfl, hz, by decide, ?_⟩
      cases hp : inN z 0 65535 with
      | none =>
        have e2 : isN z 0 65535 = false := by rw [show isN z 0 65535 = _ from nb (lo := 0) (hi := 65535), hp]; rfl
        rw [e2]
        exact .of (k2 (by rw [hp]; rfl) _)
      | some m =>
        have e2 : isN z 0 65535 = true := by rw [show isN z 0 65535 = _ from nb (lo := 0) (hi := 65535), hp]; rfl
        rw [e2]
        exact .of (k1 [] sc (by rw [hp]; rfl))
    | place c n =>
      rw [nx_place] at k1 k2
      rw [show (It.place c n).d = D.tup [.str "place", .str c, natD n] from rfl]
      walk_at "rd"
      refine ⟨z, c, n, rfl, hz, ht.1, by have := ht.2.1; omega, ?_⟩
      cases hp : inP c z n with
      | none =>
        have e2 : isP z c n = false := by rw [isP_in, hp]; rfl
        rw [e2]
        exact .of (k2 (by rw [hp]; rfl) _)
      | some m =>
        have e2 : isP z c n = true := by rw [isP_in, hp]; rfl
        rw [e2]
        exact .of (k1 [] sc (by rw [hp]; rfl))
    | exp d =>
      rw [nx_exp] at k1 k2
      rw [show (It.exp d).d = D.tup [.str "expression", natD d] from rfl]
      walk_at "rd"
      refine ⟨S, R, σ, sc, M0, z, d, rfl, rfl, hz, by omega, ht, hs, fun l hl => ?_, fun hl => ?_⟩
      · exact .of (k1 l sc (by rw [hl]; rfl))
      · exact .of (k2 (by rw [hl]; rfl) _)
    | block n k =>
      rw [nx_block] at k1 k2
      rw [show (It.block n k).d = D.tup [.str "block", natD n, .str k.s] from rfl]
      walk_at "rd"
      refine ⟨S, R, σ, sc, M0, z, n, k, rfl, rfl, hz, by omega, ht, hs, fun l hl => ?_, fun hl => ?_⟩
      · exact .of (k1 l sc (by rw [hl]; rfl))
      · exact .of (k2 (by rw [hl]; rfl) _)
    | head =>
      rw [nx_head] at k1 k2
      rw [show (It.head).d = D.tup [.str "head"] from rfl]
      walk_at "rd"
      refine ⟨S, R, σ, sc, M0, z, rfl, rfl, hz, by omega, hs, fun l sc' hl => ?_, fun hl => ?_⟩
      · exact .of (k1 l sc' hl)
      · exact .of (k2 hl _)
    | count =>
      rw [nx_count] at k1 k2
      rw [show (It.count).d = D.tup [.str "count"] from rfl]
      have c1 : decide (Str.ofString "count" = Str.ofString "cells") = false := by decide +kernel
      have c2 : decide (Str.ofString "count" = Str.ofString "size") = false := by decide +kernel
      walk_at "rd"
      rw [c1, c2, if_neg Bool.false_ne_true]
      refine ⟨z, 1, 8, rfl, hz, by decide, ?_⟩
      cases hp : inN z 1 8 with
      | none =>
        have e2 : isN z 1 8 = false := by rw [show isN z 1 8 = _ from nb (lo := 1) (hi := 8), hp]; rfl
        rw [e2]
        walk_at "rd"
        exact k2 (by rw [hp]; rfl) _
      | some m =>
        have e2 : isN z 1 8 = true := by rw [show isN z 1 8 = _ from nb (lo := 1) (hi := 8), hp]; rfl
        rw [e2]
        obtain ⟨hv, hv5, _⟩ := nof_int (inN_nof hp)
        obtain ⟨_, hm1, hm2⟩ := inN_some hp
        have hzm : (σ.map It.d).reverse.length + m ≤ sizeLine := by rw [line_val]; omega
        have hv6 : z.length ≤ 640 := by omega
        walk_at "rd"
        refine s_cut (fun xs M' => (∃ v, xs = [some (.r S), some (.r R), some (.str z), some (.tup [.str "count"]), some v]) ∧ M' = (S, .lst ((σ.map It.d).reverse)) :: (R, .dct (scF { sc with np := m, left := m })) :: M0) ?_ ?_
        · walk_at "rd"
          exact ⟨⟨_, rfl⟩, rfl⟩
        rintro xs M' ⟨⟨v, rfl⟩, rfl⟩
        refine s_cut (fun xs M' => (∃ v, xs = [some (.r S), some (.r R), some (.str z), some (.tup [.str "count"]), some v]) ∧ M' = (S, .lst ((σ.map It.d).reverse)) :: (R, .dct (scF { sc with np := m, left := m })) :: M0) ?_ ?_
        · walk_at "rd"
          exact ⟨⟨_, rfl⟩, rfl⟩
        rintro xs M' ⟨⟨v, rfl⟩, rfl⟩
        refine s_cut (fun xs M' => (∃ v, xs = [some (.r S), some (.r R), some (.str z), some (.tup [.str "count"]), some v]) ∧ M' = (S, .lst ((σ.map It.d).reverse)) :: (R, .dct (scF { sc with np := m, left := m })) :: M0) ?_ ?_
        · walk_at "rd"
          exact ⟨⟨_, rfl⟩, rfl⟩
        rintro xs M' ⟨⟨v, rfl⟩, rfl⟩
        walk_at "rd"
        exact k1 [] _ (by rw [hp]; rfl)
    | cells =>
      rw [nx_cells] at k1 k2
      rw [show (It.cells).d = D.tup [.str "cells"] from rfl]
      have c1 : decide (Str.ofString "cells" = Str.ofString "cells") = true := by decide +kernel
      have c2 : decide (Str.ofString "cells" = Str.ofString "size") = false := by decide +kernel
      walk_at "rd"
      rw [c1, c2, if_neg Bool.false_ne_true, if_pos rfl]
      refine ⟨z, 1, 16, rfl, hz, by decide, ?_⟩
      cases hp : inN z 1 16 with
      | none =>
        have e2 : isN z 1 16 = false := by rw [show isN z 1 16 = _ from nb (lo := 1) (hi := 16), hp]; rfl
        rw [e2]
        walk_at "rd"
        exact k2 (by rw [hp]; rfl) _
      | some m =>
        have e2 : isN z 1 16 = true := by rw [show isN z 1 16 = _ from nb (lo := 1) (hi := 16), hp]; rfl
        rw [e2]
        obtain ⟨hv, hv5, _⟩ := nof_int (inN_nof hp)
        obtain ⟨_, hm1, hm2⟩ := inN_some hp
        have hzm : (σ.map It.d).reverse.length + m ≤ sizeLine := by rw [line_val]; omega
        have hv6 : z.length ≤ 640 := by omega
        walk_at "rd"
        refine s_cut (fun xs M' => (∃ v, xs = [some (.r S), some (.r R), some (.str z), some (.tup [.str "cells"]), some v]) ∧ M' = (S, .lst ((σ.map It.d).reverse)) :: (R, .dct (scF sc)) :: M0) ?_ ?_
        · walk_at "rd"
          exact ⟨⟨_, rfl⟩, rfl⟩
        rintro xs M' ⟨⟨v, rfl⟩, rfl⟩
        refine s_cut (fun xs M' => (∃ v, xs = [some (.r S), some (.r R), some (.str z), some (.tup [.str "cells"]), some v]) ∧ M' = (S, .lst ((σ.map It.d).reverse ++ [.tup [.str "block", natD 6, .str "procedure"]])) :: (R, .dct (scF { sc with nl := m })) :: M0) ?_ ?_
        · walk_at "rd"
          exact ⟨⟨_, rfl⟩, rfl⟩
        rintro xs M' ⟨⟨v, rfl⟩, rfl⟩
        refine s_cut (fun xs M' => (∃ v, xs = [some (.r S), some (.r R), some (.str z), some (.tup [.str "cells"]), some v]) ∧ M' = (S, .lst ((σ.map It.d).reverse ++ [.tup [.str "block", natD 6, .str "procedure"]])) :: (R, .dct (scF { sc with nl := m })) :: M0) ?_ ?_
        · walk_at "rd"
          exact ⟨⟨_, rfl⟩, rfl⟩
        rintro xs M' ⟨⟨v, rfl⟩, rfl⟩
        walk_at "rd"
        have := k1 [.block 6 .prc] _ (by rw [hp]; rfl)
        rw [stM, stO, st_app] at this
        exact this
    | size =>
      rw [nx_size] at k1 k2
      rw [show (It.size).d = D.tup [.str "size"] from rfl]
      have c1 : decide (Str.ofString "size" = Str.ofString "cells") = false := by decide +kernel
      have c2 : decide (Str.ofString "size" = Str.ofString "size") = true := by decide +kernel
      walk_at "rd"
      rw [c1, c2, if_neg Bool.false_ne_true, if_pos rfl]
      refine ⟨z, 1, 1000, rfl, hz, by decide, ?_⟩
      cases hp : inN z 1 1000 with
      | none =>
        have e2 : isN z 1 1000 = false := by rw [show isN z 1 1000 = _ from nb (lo := 1) (hi := 1000), hp]; rfl
        rw [e2]
        walk_at "rd"
        exact k2 (by rw [hp]; rfl) _
      | some m =>
        have e2 : isN z 1 1000 = true := by rw [show isN z 1 1000 = _ from nb (lo := 1) (hi := 1000), hp]; rfl
        rw [e2]
        obtain ⟨hv, hv5, _⟩ := nof_int (inN_nof hp)
        obtain ⟨_, hm1, hm2⟩ := inN_some hp
        have hzm : (σ.map It.d).reverse.length + m ≤ sizeLine := by rw [line_val]; omega
        have hv6 : z.length ≤ 640 := by omega
        walk_at "rd"
        refine s_cut (fun xs M' => (∃ v, xs = [some (.r S), some (.r R), some (.str z), some (.tup [.str "size"]), some v]) ∧ M' = (S, .lst ((σ.map It.d).reverse)) :: (R, .dct (scF sc)) :: M0) ?_ ?_
        · walk_at "rd"
          exact ⟨⟨_, rfl⟩, rfl⟩
        rintro xs M' ⟨⟨v, rfl⟩, rfl⟩
        refine s_cut (fun xs M' => (∃ v, xs = [some (.r S), some (.r R), some (.str z), some (.tup [.str "size"]), some v]) ∧ M' = (S, .lst ((σ.map It.d).reverse)) :: (R, .dct (scF sc)) :: M0) ?_ ?_
        · walk_at "rd"
          exact ⟨⟨_, rfl⟩, rfl⟩
        rintro xs M' ⟨⟨v, rfl⟩, rfl⟩
        refine s_cut (fun xs M' => (∃ v, xs = [some (.r S), some (.r R), some (.str z), some (.tup [.str "size"]), some v]) ∧ M' = (S, .lst ((σ.map It.d).reverse ++ List.replicate m (.tup [.str "datum"]))) :: (R, .dct (scF sc)) :: M0) ?_ ?_
        · walk_at "rd"
          refine aExt.mk .hd (.inl rfl) (by rw [List.length_replicate]; exact hzm) ?_
          walk_at "rd"
          exact ⟨⟨_, rfl⟩, rfl⟩
        rintro xs M' ⟨⟨v, rfl⟩, rfl⟩
        walk_at "rd"
        have := k1 (List.replicate m .datum) _ (by rw [hp]; rfl)
        rw [stM, stO, st_app, List.map_replicate, List.reverse_replicate] at this
        exact this
end




/-! ### the first word that does not fit; words changed and drawn one by one -/
section
variable {P : Program} {w : World} {K : PySem.W.Frag} {mg : Str → Option Value} {base : Heap} {C : Cs}
theorem ok_l_wrong (T : Top K mg) : Cal P w K mg base CX0 5 "_law_wrong" ["words", "imports"] (conSp K sp_l_wrong) := by
  refine def_A T.f_l_wrong sc_l_wrong (fun _ _ _ _ _ _ us hl => match us, hl with | [_, _], _ => rfl) (fun ds M Q E h => ?_) (fun f cdv Ar outer s H E ds M Q EX hr h => ?_)
  · obtain ⟨ws, ni, rfl, _⟩ := h
    rfl
  · obtain ⟨ws, ni, rfl, hl, hw, hni, k⟩ := h
    refine ⟨_, (as_cons (as_set (ps_set (i := 2) sc_l_wrong.nd rfl (by first | exact Or.inl rfl | exact Or.inr rfl) (a_disp (APs.cons a_int (APs.cons a_int (APs.cons a_int (APs.cons a_int (APs.cons (a_var (pv 1)) APs.nil))))))))
  (as_cons (as_set (ps_set (i := 3) sc_l_wrong.nd rfl (by first | exact Or.inl rfl | exact Or.inr rfl) (a_lstO (aa_cons (a_tup (aa_cons a_str aa_nil)) (aa_cons (a_tup (aa_cons a_str aa_nil)) (aa_cons (a_tup (aa_cons a_str (aa_cons a_str aa_nil))) (aa_cons (a_tup (aa_cons a_str aa_nil)) (aa_cons (a_tup (aa_cons a_str (aa_cons a_str aa_nil))) aa_nil))))))))
  (as_cons (as_for (ps_for PassesOwn.never rfl (ai_r1 (pi_range1 rfl T.b_range (aa_cons (a_callB (o_len (K := K)) (by rfl) T.b_len PySem.boot_len (aa_cons (a_var (pv 0)) aa_nil)) aa_nil))) (ag_name (pg_name (i := 4) sc_l_wrong.nd rfl (by first | exact Or.inl rfl | exact Or.inr rfl)))
  (as_one (as_if (a_not (a_truth (K := K) (a_call (g_call (ok_l_next T) (hr.mono (by decide)) (by rfl) pass0 (aa_cons (a_var (pv 3)) (aa_cons (a_var (pv 2)) (aa_cons (a_ix (o_ix (K := K)) (a_var (pv 0)) (a_var (pv 4)) (fun _ _ => rfl)) aa_nil))))) (by intro _; rfl)))
    (as_one (as_ret (ps_ret (a_var (pv 4)))))
    as_nil))))
  (as_cons (as_if (PW.pt (a_or (a_tcmp (o_ne (K := K) (un64 hr)) (a_var (pv 3)) (a_lst (aa_cons (a_tup (aa_cons a_str aa_nil)) aa_nil)) (nomark _)) (pw_or1 (a_tcmp o_gt (a_dix (K := K) (un1 hr) (a_var (pv 2)) (fun _ _ => rfl)) a_int (nomark _)))))
  (as_one (as_ret (ps_ret (a_callB (o_len (K := K)) (by rfl) T.b_len PySem.boot_len (aa_cons (a_var (pv 0)) aa_nil)))))
  as_nil)
  (as_one (as_ret (ps_ret a_non))))))), ?_⟩
    have hzw : (ws.map D.str).length ≤ sizeLine := by rw [List.length_map, line_val]; omega
    have go : ∀ {Q2 : AQ} (S R : Addr) (o1 o2 : Ob) (d : D), Q2 d M → NxV K Q2 d ((S, o1) :: (R, o2) :: M) := fun S R o1 o2 d q => .fz (FzV.trans (FzV.drop .hd) (FzV.drop .hd)) q
    walk_at "rd"
    intro R
    unfold aPs
    walk_at "rd"
    unfold aPs
    walk_at "rd"
    unfold aPs
    walk_at "rd"
    unfold aPs
    walk_at "rd"
    unfold aPs
    walk_at "rd"
    unfold aPs
    refine ⟨_, .hd, by simp, by show (["buffers", "procedures", "left", "cells", "imports"] : List Str).Nodup; decide +kernel, ?_⟩
    walk_at "rd"
    intro S
    walk_at "rd"
    rw [List.length_map]
    refine f_rng (fun i xs M' => ∃ (σ : List It) (sc : Sc) (v4 : Option D), xs = [some (.lst (ws.map D.str)), some (natD ni), some (.r R), some (.r S), v4] ∧ M' = stM S R σ sc M ∧ resAt ws i σ sc = wrongA ws ni ∧ (∀ t ∈ σ, OkI t) ∧ σ.length ≤ 1001 * i + 5 ∧ ScS sc ∧ σ.getLast? = some .head) ⟨startA, scA ni, none, rfl, rfl, rfl, ?_, Nat.le_refl _, ⟨⟨Nat.zero_le _, Nat.le_of_ble_eq_true rfl, Nat.le_of_ble_eq_true rfl, Nat.le_of_ble_eq_true rfl, hni⟩⟩, rfl⟩ ?_ ?_
    · intro t ht
      simp only [startA, List.mem_cons, List.not_mem_nil, or_false] at ht
      rcases ht with rfl | rfl | rfl | rfl | rfl <;> first | (show PyData.strOk _ = true; decide +kernel) | trivial
    · rintro i xs M' hi ⟨σ, sc, v4, rfl, rfl, hr1, hok, hlen, hs, hlast⟩
      rw [Int.toNat_natCast] at hi
      have hz : ws[i]? = some ws[i] := List.getElem?_eq_getElem hi
      have az : atI (ws.map D.str) (i : Int) = some (.str ws[i]) := atI_nat (by rw [List.getElem?_map, hz]; rfl)
      have hzw2 := hw ws[i] (List.getElem_mem _)
      generalize ws[i] = z at *
      cases σ with
      | nil => cases hlast
      | cons t σ =>
      rw [List.length_cons] at hlen
      walk_at "rd"
      refine ⟨S, R, t, σ, sc, M, z, rfl, rfl, hzw2, by omega, hs, hok t List.mem_cons_self, fun l sc' hl => ?_, fun hl ys => ?_⟩
      · obtain ⟨n1, n2, n3, n4⟩ := nextA_ok hs (hok t List.mem_cons_self) hl
        walk_at "rd"
        refine ⟨l ++ σ, sc', _, rfl, rfl, by rw [← hr1]; exact (resAt_go hz hl).symm, fun x hx => ?_, by rw [List.length_append]; omega, n2, ?_⟩
        · exact (List.mem_append.mp hx).elim (n1 x) fun q => hok x (List.mem_cons_of_mem _ q)
        · cases σ with
          | nil =>
            rw [List.append_nil]
            exact n4 (by injection hlast)
          | cons a b =>
            rw [List.getLast?_cons_cons] at hlast
            rw [List.getLast?_append, hlast]
            rfl
      · walk_at "re"
        refine go S R _ _ _ ?_
        have : wrongA ws ni = some i := by rw [← hr1]; exact resAt_bad hz hl
        unfold wrD at k
        rw [this] at k
        exact k
    · rintro xs M' ⟨σ, sc, v4, rfl, rfl, hr1, hok, hlen, hs, hlast⟩
      rw [Int.toNat_natCast] at hr1 hlen
      have hsa := hs.a
      have hend : wrongA ws ni = if σ = [.head] ∧ sc.left = 0 then none else some ws.length := by
        rw [← hr1]
        unfold resAt
        rw [List.drop_length]
        rfl
      unfold wrD at k
      rw [hend] at k
      walk_at "rd"
      refine aNe.dat 2 (.o .hd (st_pl hok)) (.d (by decide +kernel)) (by decide) (fun b hb => ?_)
      rw [st_head] at hb
      by_cases q : σ = [.head]
      · have hb : b = false := by
          cases b with
          | false => rfl
          | true => exact absurd q (hb.mp rfl)
        subst hb
        walk_at "rd"
        refine G.i_d (fun h1 => ?_) (fun h1 => ?_)
        · rw [if_neg fun g => by have := g.2; omega] at k
          walk_at "re"
          rw [List.length_map]
          exact go S R _ _ _ k
        · rw [if_pos ⟨q, by omega⟩] at k
          walk_at "re"
          exact go S R _ _ _ k
      · have hb : b = true := hb.mpr q
        subst hb
        rw [if_neg fun g => q g.1] at k
        walk_at "re"
        rw [List.length_map]
        exact go S R _ _ _ k
theorem ok_l_menu (T : Top K mg) : Cal P w K mg base CX0 3 "_law_menu" ["pool"] (conSp K sp_l_menu) := by
  refine def_A T.f_l_menu sc_l_menu (fun _ _ _ _ _ _ us hl => match us, hl with | [_], _ => rfl) (fun ds M Q E h => ?_) (fun f cdv Ar outer s H E ds M Q EX hr h => ?_)
  · obtain ⟨p, s, u, rfl, _⟩ := h
    rfl
  · obtain ⟨p, s, u, rfl, hp, k⟩ := h
    refine ⟨_, (as_cons (as_set (ps_set (i := 1) sc_l_menu.nd rfl (by first | exact Or.inl rfl | exact Or.inr rfl) (a_lst (aa_cons a_str (aa_cons a_str (aa_cons a_str (aa_cons a_str (aa_cons a_str (aa_cons a_str (aa_cons a_str (aa_cons a_str (aa_cons a_str (aa_cons a_str (aa_cons a_str (aa_cons a_str (aa_cons a_str (aa_cons a_str (aa_cons a_str (aa_cons a_str aa_nil)))))))))))))))))))
  (as_cons (as_set (ps_set (i := 1) sc_l_menu.nd rfl (by first | exact Or.inl rfl | exact Or.inr rfl) (a_op (o_add (K := K)) (a_var (pv 1)) (a_lst (aa_cons a_str (aa_cons a_str (aa_cons a_str (aa_cons a_str (aa_cons a_str (aa_cons a_str (aa_cons a_str (aa_cons a_str (aa_cons a_str (aa_cons a_str (aa_cons a_str (aa_cons a_str (aa_cons a_str (aa_cons a_str (aa_cons a_str (aa_cons a_str aa_nil))))))))))))))))))))
  (as_one (as_ret (ps_ret (a_ix (o_ix (K := K)) (a_var (pv 1)) (a_call (g_call (ok_l_draw T) (hr.mono (by decide)) (by rfl) pass0 (aa_cons (a_var (pv 0)) (aa_cons (a_callB (o_len (K := K)) (by rfl) T.b_len PySem.boot_len (aa_cons (a_var (pv 1)) aa_nil)) aa_nil)))) (fun _ _ => rfl))))))), ?_⟩
    walk_at "rd"
    refine ⟨p, s, _, _, rfl, hp, by decide, fun j s1 j0 j1 => ?_⟩
    obtain ⟨z, hz, az⟩ := men_at j0 j1
    have az2 := az
    unfold menL at az2
    simp only [List.map_cons, List.map_nil, List.cons_append, List.nil_append] at az2
    walk_at "rd"
    exact k z s1 hz
theorem ok_l_changed (T : Top K mg) : Cal P w K mg base CX0 4 "_law_changed" ["pool", "words"] (conSp K sp_l_changed) := by
  refine def_A T.f_l_changed sc_l_changed (fun _ _ _ _ _ _ us hl => match us, hl with | [_, _], _ => rfl) (fun ds M Q E h => ?_) (fun f cdv Ar outer s H E ds M Q EX hr h => ?_)
  · obtain ⟨p, s, u, ws, rfl, _⟩ := h
    rfl
  · obtain ⟨p, s, u, ws, rfl, hp, hlw, hl, k⟩ := h
    refine ⟨_, (as_cons (as_for (ps_for PassesOwn.never rfl (ai_r1 (pi_range1 rfl T.b_range (aa_cons (a_call (g_call (ok_l_draw T) (hr.mono (by decide)) (by rfl) pass0 (aa_cons (a_var (pv 0)) (aa_cons a_int aa_nil)))) aa_nil))) (ag_name (pg_name (i := 2) sc_l_changed.nd rfl (by first | exact Or.inl rfl | exact Or.inr rfl)))
  (as_cons (as_set (ps_set (i := 3) sc_l_changed.nd rfl (by first | exact Or.inl rfl | exact Or.inr rfl) (a_call (g_call (ok_l_draw T) (hr.mono (by decide)) (by rfl) pass0 (aa_cons (a_var (pv 0)) (aa_cons a_int aa_nil))))))
    (as_cons (as_set (ps_set (i := 4) sc_l_changed.nd rfl (by first | exact Or.inl rfl | exact Or.inr rfl) (a_call (g_call (ok_l_draw T) (hr.mono (by decide)) (by rfl) pass0 (aa_cons (a_var (pv 0)) (aa_cons (a_op (o_add (K := K)) (a_callB (o_len (K := K)) (by rfl) T.b_len PySem.boot_len (aa_cons (a_var (pv 1)) aa_nil)) a_int) aa_nil))))))
    (as_cons (as_set (ps_set (i := 5) sc_l_changed.nd rfl (by first | exact Or.inl rfl | exact Or.inr rfl) (a_call (g_call (ok_l_draw T) (hr.mono (by decide)) (by rfl) pass0 (aa_cons (a_var (pv 0)) (aa_cons (a_op (o_add (K := K)) (a_callB (o_len (K := K)) (by rfl) T.b_len PySem.boot_len (aa_cons (a_var (pv 1)) aa_nil)) a_int) aa_nil))))))
    (as_one (as_if (a_tcmp (o_eq (K := K) (un64 hr)) (a_var (pv 3)) a_int (nomark _))
    (as_one (as_set (ps_set (i := 1) sc_l_changed.nd rfl (by first | exact Or.inl rfl | exact Or.inr rfl) (a_op (o_add (K := K)) (a_slice (o_sl (K := K)) (a_var (pv 1)) ao_none (ao_some (a_var (pv 4)))) (a_slice (o_sl (K := K)) (a_var (pv 1)) (ao_some (a_op (o_add (K := K)) (a_var (pv 4)) a_int)) ao_none)))))
    (as_one (as_if (a_tcmp (o_eq (K := K) (un64 hr)) (a_var (pv 3)) a_int (nomark _))
      (as_one (as_set (ps_set (i := 1) sc_l_changed.nd rfl (by first | exact Or.inl rfl | exact Or.inr rfl) (a_op (o_add (K := K)) (a_op (o_add (K := K)) (a_slice (o_sl (K := K)) (a_var (pv 1)) ao_none (ao_some (a_var (pv 4)))) (a_lst (aa_cons (a_call (g_call (ok_l_menu T) (hr.mono (by decide)) (by rfl) pass0 (aa_cons (a_var (pv 0)) aa_nil))) aa_nil))) (a_slice (o_sl (K := K)) (a_var (pv 1)) (ao_some (a_var (pv 4))) ao_none)))))
      (as_one (as_if (a_tcmp (o_eq (K := K) (un64 hr)) (a_var (pv 3)) a_int (nomark _))
        (as_one (as_set (ps_set (i := 1) sc_l_changed.nd rfl (by first | exact Or.inl rfl | exact Or.inr rfl) (a_op (o_add (K := K)) (a_op (o_add (K := K)) (a_slice (o_sl (K := K)) (a_var (pv 1)) ao_none (ao_some (a_var (pv 4)))) (a_lst (aa_cons (a_call (g_call (ok_l_menu T) (hr.mono (by decide)) (by rfl) pass0 (aa_cons (a_var (pv 0)) aa_nil))) aa_nil))) (a_slice (o_sl (K := K)) (a_var (pv 1)) (ao_some (a_op (o_add (K := K)) (a_var (pv 4)) a_int)) ao_none)))))
        (as_one (as_if (a_tcmp (o_eq (K := K) (un64 hr)) (a_var (pv 3)) a_int (nomark _))
          (as_one (as_set (ps_set (i := 1) sc_l_changed.nd rfl (by first | exact Or.inl rfl | exact Or.inr rfl) (a_op (o_add (K := K)) (a_op (o_add (K := K)) (a_slice (o_sl (K := K)) (a_var (pv 1)) ao_none (ao_some (a_var (pv 4)))) (a_slice (o_sl (K := K)) (a_var (pv 1)) (ao_some (a_var (pv 5))) (ao_some (a_op (o_add (K := K)) (a_var (pv 5)) a_int)))) (a_slice (o_sl (K := K)) (a_var (pv 1)) (ao_some (a_op (o_add (K := K)) (a_var (pv 4)) a_int)) ao_none)))))
          (as_one (as_if (a_tcmp (o_eq (K := K) (un64 hr)) (a_var (pv 3)) a_int (nomark _))
            (as_one (as_set (ps_set (i := 1) sc_l_changed.nd rfl (by first | exact Or.inl rfl | exact Or.inr rfl) (a_op (o_add (K := K)) (a_op (o_add (K := K)) (a_slice (o_sl (K := K)) (a_var (pv 1)) ao_none (ao_some (a_var (pv 4)))) (a_slice (o_sl (K := K)) (a_var (pv 1)) (ao_some (a_var (pv 5))) (ao_some (a_op (o_add (K := K)) (a_var (pv 5)) a_int)))) (a_slice (o_sl (K := K)) (a_var (pv 1)) (ao_some (a_var (pv 4))) ao_none)))))
            (as_one (as_set (ps_set (i := 1) sc_l_changed.nd rfl (by first | exact Or.inl rfl | exact Or.inr rfl) (a_op (o_add (K := K)) (a_op (o_add (K := K)) (a_op (o_add (K := K)) (a_slice (o_sl (K := K)) (a_var (pv 1)) ao_none (ao_some (a_var (pv 4)))) (a_slice (o_sl (K := K)) (a_var (pv 1)) (ao_some (a_op (o_add (K := K)) (a_var (pv 4)) a_int)) (ao_some (a_op (o_add (K := K)) (a_var (pv 4)) a_int)))) (a_slice (o_sl (K := K)) (a_var (pv 1)) (ao_some (a_var (pv 4))) (ao_some (a_op (o_add (K := K)) (a_var (pv 4)) a_int)))) (a_slice (o_sl (K := K)) (a_var (pv 1)) (ao_some (a_op (o_add (K := K)) (a_var (pv 4)) a_int)) ao_none))))))))))))))))))))
  (as_one (as_ret (ps_ret (a_var (pv 1)))))), ?_⟩
    have nat : ∀ {j : Int}, 0 ≤ j → ∃ n : Nat, j = (n : Int) := fun h => ⟨_, (Int.toNat_of_nonneg h).symm⟩
    walk_at "rd"
    refine ⟨p, s, _, _, rfl, hp, by decide, fun j s1 j0 j1 => ?_⟩
    walk_at "rd"
    refine f_rng (fun i xs M' => ∃ (ws1 : List Str) (s3 : PoolS) (v2 v3 v4 v5 : Option D), xs = [some (.r p), some (.lst (ws1.map D.str)), v2, v3, v4, v5] ∧ M' = u s3.ob ∧ AllLw ws1 ∧ ws1.length ≤ ws.length + 3 * i) ⟨ws, s1, none, none, none, none, rfl, rfl, hlw, Nat.le_refl _⟩ ?_ ?_
    · rintro i xs M' hi ⟨ws1, s3, v2, v3, v4, v5, rfl, rfl, hw1, hl1⟩
      have hi5 : i < 5 := by omega
      walk_at "rd"
      refine ⟨p, s3, _, _, rfl, hp.put, by decide, fun way s4 a0 a1 => ?_⟩
      walk_at "rd"
      rw [List.length_map]
      refine ⟨p, s4, _, _, rfl, hp.put, by omega, fun j s5 b0 b1 => ?_⟩
      obtain ⟨n, rfl⟩ := nat b0
      walk_at "rd"
      rw [List.length_map]
      refine ⟨p, s5, _, _, rfl, hp.put, by omega, fun j s6 c0 c1 => ?_⟩
      obtain ⟨m, rfl⟩ := nat c0
      have fin : ∀ {ws2 : List Str} {d : D} {v : D} {s7 : PoolS}, d = .lst (ws2.map D.str) → AllLw ws2 → ws2.length ≤ ws1.length + 3 → ∃ (ws1 : List Str) (s8 : PoolS) (v2 v3 v4 v5 : Option D), [some (.r p), some d, some (.int (i : Nat)), some (.int way), some (natD n), some (natD m)] = [some (.r p), some (.lst (ws1.map D.str)), v2, v3, v4, v5] ∧ u s7.ob = u s8.ob ∧ AllLw ws1 ∧ ws1.length ≤ ws.length + 3 * (i + 1) := fun {ws2 d v s7} e h1 h2 => ⟨ws2, s7, some (.int (i : Nat)), some (.int way), some (natD n), some (natD m), by rw [e], rfl, h1, by omega⟩
      have x1 : ((n : Int) + 1) = ((n + 1 : Nat) : Int) := by omega
      have eA : cutD (ws1.map D.str) none (some (n : Int)) = (ws1.take n).map D.str := by rw [cutD_take, ← List.map_take]
      have eA1 : cutD (ws1.map D.str) (some (n : Int)) none = (ws1.drop n).map D.str := by rw [cutD_drop, ← List.map_drop]
      have eB : cutD (ws1.map D.str) (some ((n : Int) + 1)) none = (ws1.drop (n + 1)).map D.str := by rw [show ((n : Int) + 1) = ((n + 1 : Nat) : Int) by omega, cutD_drop, ← List.map_drop]
      have eB2 : cutD (ws1.map D.str) (some ((n : Int) + 2)) none = (ws1.drop (n + 2)).map D.str := by rw [show ((n : Int) + 2) = ((n + 2 : Nat) : Int) by omega, cutD_drop, ← List.map_drop]
      have eC : cutD (ws1.map D.str) (some (m : Int)) (some ((m : Int) + 1)) = (segW ws1 m 1).map D.str := cut_seg
      have eC3 : cutD (ws1.map D.str) (some (m : Int)) (some ((m : Int) + 3)) = (segW ws1 m 3).map D.str := cut_seg
      have eD0 : cutD (ws1.map D.str) (some (n : Int)) (some ((n : Int) + 1)) = (segW ws1 n 1).map D.str := cut_seg
      have eD1 : cutD (ws1.map D.str) (some ((n : Int) + 1)) (some ((n : Int) + 2)) = (segW ws1 (n + 1) 1).map D.str := by
        rw [show ((n : Int) + 1) = ((n + 1 : Nat) : Int) by omega, show ((n : Int) + 2) = ((n + 1 : Nat) : Int) + (1 : Nat) by omega]
        exact cut_seg
      have hA : (cutD (ws1.map D.str) none (some (n : Int))).length ≤ n := by rw [eA, List.length_map, List.length_take]; omega
      have hA1 : (cutD (ws1.map D.str) (some (n : Int)) none).length ≤ ws1.length - n := by rw [eA1, List.length_map, List.length_drop]; omega
      have hB : (cutD (ws1.map D.str) (some ((n : Int) + 1)) none).length ≤ ws1.length - n := by rw [eB, List.length_map, List.length_drop]; omega
      have hB2 : (cutD (ws1.map D.str) (some ((n : Int) + 2)) none).length ≤ ws1.length - n := by rw [eB2, List.length_map, List.length_drop]; omega
      have hC : (cutD (ws1.map D.str) (some (m : Int)) (some ((m : Int) + 1))).length ≤ 1 := by rw [eC, List.length_map]; exact segW_len
      have hC3 : (cutD (ws1.map D.str) (some (m : Int)) (some ((m : Int) + 3))).length ≤ 3 := by rw [eC3, List.length_map]; exact segW_len
      have hD0 : (cutD (ws1.map D.str) (some (n : Int)) (some ((n : Int) + 1))).length ≤ 1 := by rw [eD0, List.length_map]; exact segW_len
      have hD1 : (cutD (ws1.map D.str) (some ((n : Int) + 1)) (some ((n : Int) + 2))).length ≤ 1 := by rw [eD1, List.length_map]; exact segW_len
      have hsz : 10000 ≤ sizeLine := by rw [line_val]; decide
      have hn : n ≤ ws1.length := by omega
      walk_at "rd"
      refine G.i_d (fun h1 => ?_) (fun h1 => ?_)
      · walk_at "rd"
        rw [eA, eB]
        exact fin (ws2 := ws1.take n ++ ws1.drop (n + 1)) (v := .non) (by simp) ((hw1.take _).app (hw1.drop _)) (by simp; omega)
      walk_at "rd"
      refine G.i_d (fun h2 => ?_) (fun h2 => ?_)
      · walk_at "rd"
        refine ⟨p, s6, _, rfl, hp.put, fun z s7 hz => ?_⟩
        walk_at "rd"
        rw [eA, eA1]
        exact fin (ws2 := ws1.take n ++ [z] ++ ws1.drop n) (v := .non) (by simp) (((hw1.take _).app (.cons hz .nil)).app (hw1.drop _)) (by simp; omega)
      walk_at "rd"
      refine G.i_d (fun h3 => ?_) (fun h3 => ?_)
      · walk_at "rd"
        refine ⟨p, s6, _, rfl, hp.put, fun z s7 hz => ?_⟩
        walk_at "rd"
        rw [eA, eB]
        exact fin (ws2 := ws1.take n ++ [z] ++ ws1.drop (n + 1)) (v := .non) (by simp) (((hw1.take _).app (.cons hz .nil)).app (hw1.drop _)) (by simp; omega)
      have l1 := segW_len (ws := ws1) (m := m) (k := 1)
      have l3 := segW_len (ws := ws1) (m := m) (k := 3)
      have l4 := segW_len (ws := ws1) (m := n) (k := 1)
      have l5 := segW_len (ws := ws1) (m := n + 1) (k := 1)
      walk_at "rd"
      refine G.i_d (fun h4 => ?_) (fun h4 => ?_)
      · walk_at "rd"
        rw [eA, eB, eC]
        exact fin (ws2 := ws1.take n ++ segW ws1 m 1 ++ ws1.drop (n + 1)) (v := .non) (by simp) (((hw1.take _).app (segW_lw hw1)).app (hw1.drop _)) (by simp; omega)
      walk_at "rd"
      refine G.i_d (fun h5 => ?_) (fun h5 => ?_)
      · walk_at "rd"
        rw [eA, eA1, eC3]
        exact fin (ws2 := ws1.take n ++ segW ws1 m 3 ++ ws1.drop n) (v := .non) (by simp) (((hw1.take _).app (segW_lw hw1)).app (hw1.drop _)) (by simp; omega)
      · walk_at "rd"
        rw [eA, eD1, eD0, eB2]
        exact fin (ws2 := ws1.take n ++ segW ws1 (n + 1) 1 ++ segW ws1 n 1 ++ ws1.drop (n + 2)) (v := .non) (by simp) ((((hw1.take _).app (segW_lw hw1)).app (segW_lw hw1)).app (hw1.drop _)) (by simp; omega)
    · rintro xs M' ⟨ws1, s3, v2, v3, v4, v5, rfl, rfl, hw1, hl1⟩
      walk_at "rd"
      exact k ws1 s3 hw1 (by omega)
theorem ok_l_walked (T : Top K mg) : Cal P w K mg base CX0 6 "_law_walked" ["pool", "imports"] (conSp K sp_l_walked) := by
  refine def_A T.f_l_walked sc_l_walked (fun _ _ _ _ _ _ us hl => match us, hl with | [_, _], _ => rfl) (fun ds M Q E h => ?_) (fun f cdv Ar outer s H E ds M Q EX hr h => ?_)
  · obtain ⟨p, s, u, ni, rfl, _⟩ := h
    rfl
  · obtain ⟨p, s, u, ni, rfl, hp, hni, k⟩ := h
    refine ⟨_, (as_cons (as_set (ps_set (i := 2) sc_l_walked.nd rfl (by first | exact Or.inl rfl | exact Or.inr rfl) (a_lst (aa_cons a_str (aa_cons a_str (aa_cons a_str (aa_cons (a_callTy o_str (by rfl) T.b_str (by decide +kernel) (aa_cons (a_op (o_add (K := K)) a_int (a_call (g_call (ok_l_draw T) (hr.mono (by decide)) (by rfl) pass0 (aa_cons (a_var (pv 0)) (aa_cons a_int aa_nil))))) aa_nil)) aa_nil)))))))
  (as_cons (as_set (ps_set (i := 2) sc_l_walked.nd rfl (by first | exact Or.inl rfl | exact Or.inr rfl) (a_op (o_addO (K := K)) (a_op (o_add (K := K)) (a_var (pv 2)) (a_op (o_rep (K := K)) (a_lst (aa_cons a_str (aa_cons a_str (aa_cons a_str aa_nil)))) (a_call (g_call (ok_l_draw T) (hr.mono (by decide)) (by rfl) pass0 (aa_cons (a_var (pv 0)) (aa_cons a_int aa_nil)))))) (a_lst (aa_cons a_str (aa_cons (a_callTy o_str (by rfl) T.b_str (by decide +kernel) (aa_cons (a_op (o_add (K := K)) a_int (a_call (g_call (ok_l_draw T) (hr.mono (by decide)) (by rfl) pass0 (aa_cons (a_var (pv 0)) (aa_cons a_int aa_nil))))) aa_nil)) aa_nil))))))
  (as_cons (as_for (ps_for PassesOwn.never rfl (ai_r1 (pi_range1 rfl T.b_range (aa_cons (a_call (g_call (ok_l_draw T) (hr.mono (by decide)) (by rfl) pass0 (aa_cons (a_var (pv 0)) (aa_cons a_int aa_nil)))) aa_nil))) (ag_name (pg_name (i := 3) sc_l_walked.nd rfl (by first | exact Or.inl rfl | exact Or.inr rfl)))
  (as_cons (as_set (ps_set (i := 4) sc_l_walked.nd rfl (by first | exact Or.inl rfl | exact Or.inr rfl) (a_call (g_call (ok_l_menu T) (hr.mono (by decide)) (by rfl) pass0 (aa_cons (a_var (pv 0)) aa_nil)))))
    (as_cons (as_for (ps_for PassesOwn.never rfl (ai_r1 (pi_range1 rfl T.b_range (aa_cons a_int aa_nil))) (ag_name (pg_name (i := 5) sc_l_walked.nd rfl (by first | exact Or.inl rfl | exact Or.inr rfl)))
    (as_one (as_if (a_tcmp (o_eq (K := K) (un64 hr)) (a_call (g_call (ok_l_wrong T) (hr.mono (by decide)) (by rfl) pass0 (aa_cons (a_op (o_add (K := K)) (a_var (pv 2)) (a_lst (aa_cons (a_var (pv 4)) aa_nil))) (aa_cons (a_var (pv 1)) aa_nil)))) (a_callB (o_len (K := K)) (by rfl) T.b_len PySem.boot_len (aa_cons (a_var (pv 2)) aa_nil)) (nomark _))
      (as_one (as_set (ps_set (i := 4) sc_l_walked.nd rfl (by first | exact Or.inl rfl | exact Or.inr rfl) (a_call (g_call (ok_l_menu T) (hr.mono (by decide)) (by rfl) pass0 (aa_cons (a_var (pv 0)) aa_nil))))))
      as_nil))))
    (as_one (as_drop (ps_expr (a_bm o_app (pe_bm PySem.F.plainAttrs_list PySem.F.slot_list_append PySem.F.type_list_append mt_append (a_var (pv 2)) (aa_cons (a_var (pv 4)) aa_nil))))))))))
  (as_one (as_ret (ps_ret (a_var (pv 2)))))))), ?_⟩
    have nat : ∀ {j : Int}, 0 ≤ j → ∃ n : Nat, j = (n : Int) := fun h => ⟨_, (Int.toNat_of_nonneg h).symm⟩
    walk_at "rd"
    refine ⟨p, s, _, _, rfl, hp, by decide, fun j s1 a0 a1 => ?_⟩
    obtain ⟨n1, rfl⟩ := nat a0
    walk_at "rd"
    refine ⟨p, s1, _, _, rfl, hp.put, by decide, fun j s2 b0 b1 => ?_⟩
    obtain ⟨n2, rfl⟩ := nat b0
    have hrl : ∀ k : Nat, k < 2 → (List.replicate k [D.str "buffer", D.str "1", D.str "5"]).flatten.length ≤ 3 := fun k hk => by
      rcases (show k = 0 ∨ k = 1 by omega) with rfl | rfl <;> exact Nat.le_of_ble_eq_true rfl
    have hrw : ∀ k : Nat, k < 2 → ∃ l : List Str, (List.replicate k [D.str "buffer", D.str "1", D.str "5"]).flatten = l.map D.str ∧ AllLw l ∧ l.length ≤ 3 := fun k hk => by
      rcases (show k = 0 ∨ k = 1 by omega) with rfl | rfl
      · exact ⟨[], rfl, AllLw.nil, Nat.zero_le _⟩
      · exact ⟨["buffer", "1", "5"], rfl, by decide +kernel, Nat.le_refl _⟩
    obtain ⟨l, el, hll, hl3⟩ := hrw n2 (by omega)
    have hsz : 10000 ≤ sizeLine := by rw [line_val]; decide
    have hlm : (l.map D.str).length ≤ 3 := by rw [List.length_map]; exact hl3
    refine aRep.mk (.inl rfl) (by omega) (by rw [Int.toNat_natCast]; show 3 * n2 ≤ _; omega) ?_
    rw [Int.toNat_natCast, el]
    walk_at "rd"
    refine ⟨p, s2, _, _, rfl, hp.put, by decide, fun j s3 c0 c1 => ?_⟩
    obtain ⟨n3, rfl⟩ := nat c0
    have hn1 : Lw (numS ((1 + n1 : Nat) : Int)) := lw_num (by omega)
    have hn3 : Lw (numS ((1 + n3 : Nat) : Int)) := lw_num (by omega)
    walk_at "rd"
    intro A
    walk_at "rd"
    refine ⟨p, s3, _, fun o => (A, _) :: u o, rfl, .tl hp.put, by decide, fun j s4 d0 d1 => ?_⟩
    walk_at "rd"
    refine f_rng (fun i xs M' => ∃ (ws : List Str) (s5 : PoolS) (v3 v4 v5 : Option D), xs = [some (.r p), some (natD ni), some (.r A), v3, v4, v5] ∧ M' = (A, .lst (ws.map D.str)) :: u s5.ob ∧ AllLw ws ∧ ws.length ≤ 9 + i) ⟨[("room" : Str), "9", "procedures", numS ((1 + n1 : Nat) : Int)] ++ l ++ [("procedure" : Str), numS ((1 + n3 : Nat) : Int)], s4, none, none, none, rfl, ?_, ?_, ?_⟩ ?_ ?_
    · rw [List.map_append, List.map_append]
      rfl
    · refine AllLw.app (AllLw.app ?_ hll) ?_
      · exact .cons (by decide +kernel) (.cons (by decide +kernel) (.cons (by decide +kernel) (.cons hn1 .nil)))
      · exact .cons (by decide +kernel) (.cons hn3 .nil)
    · rw [List.length_append, List.length_append]
      show 4 + _ + 2 ≤ _
      omega
    · rintro i xs M' hi ⟨ws, s5, v3, v4, v5, rfl, rfl, hw, hl⟩
      have hi26 : i < 26 := by omega
      have hzw : (ws.map D.str).length < sizeLine := by rw [List.length_map]; omega
      walk_at "rd"
      refine ⟨p, s5, fun o => (A, .lst (ws.map D.str)) :: u o, rfl, .tl hp.put, fun z s6 hz => ?_⟩
      walk_at "rd"
      refine f_rng (fun i2 xs M' => ∃ (z : Str) (s7 : PoolS) (v5 : Option D), xs = [some (.r p), some (natD ni), some (.r A), some (.int (i : Nat)), some (.str z), v5] ∧ M' = (A, .lst (ws.map D.str)) :: u s7.ob ∧ Lw z) ⟨z, s6, _, rfl, rfl, hz⟩ ?_ ?_
      · rintro i2 xs M' hi2 ⟨z, s7, v5, rfl, rfl, hz⟩
        walk_at "rd"
        refine ⟨ws ++ [z], ni, by simp, by rw [List.length_append, List.length_singleton]; omega, fun y hy => ?_, hni, ?_⟩
        · rcases List.mem_append.mp hy with q | q
          · exact (hw y q).1
          · rw [List.mem_singleton.mp q]; exact hz.1
        unfold wrD
        cases wrongA (ws ++ [z]) ni with
        | none =>
          walk_at "rd"
          exact ⟨z, s7, _, rfl, rfl, hz⟩
        | some m =>
          walk_at "rd"
          refine G.i_d (fun h1 => ?_) (fun h1 => ?_)
          · walk_at "rd"
            refine ⟨p, s7, fun o => (A, .lst (ws.map D.str)) :: u o, rfl, .tl hp.put, fun z2 s8 hz2 => ?_⟩
            walk_at "rd"
            exact ⟨z2, s8, _, rfl, rfl, hz2⟩
          · walk_at "rd"
            exact ⟨z, s7, _, rfl, rfl, hz⟩
      · rintro xs M' ⟨z, s7, v5, rfl, rfl, hz⟩
        walk_at "rd"
        refine ⟨ws ++ [z], s7, _, _, _, rfl, by rw [List.map_append]; rfl, hw.app (.cons hz .nil), by rw [List.length_append, List.length_singleton]; omega⟩
    · rintro xs M' ⟨ws, s5, v3, v4, v5, rfl, rfl, hw, hl⟩
      walk_at "re"
      exact .fz (FzV.lst .hd) (k ws s5 hw (by omega))
end




/-! ### a whole law: the script's ints, the answer True -/
def sp_law (K : PySem.W.Frag) : Sp := fun vs H Q _ => ∃ (a : Addr) (ns : List Int), vs = [.ref a] ∧ SqL K H a (ns.map V.int) ∧ ns.length ≤ 63 ∧ ∀ H', Q (.bl true) H'
def asp_law : ASp := fun ds M Q _ => ∃ ns : List Int, ds = [.scr (ns.map D.int)] ∧ ns.length ≤ 63 ∧ ∀ M', Q (.bl true) M'
theorem law_con {K : PySem.W.Frag} (vs : List V) (H : Hp) (Q : VK) (E : XK) (h : sp_law K vs H Q E) : conSp K asp_law vs H Q E := by
  obtain ⟨a, ns, rfl, s, hl, k⟩ := h
  refine ⟨[.scr (ns.map D.int)], [], H, fun d M => d = .bl true, noX, .cons (.scr s (by simp) fun i v d h1 h2 => ?_) .nil, ?_, ⟨ns, rfl, hl, fun _ => rfl⟩, fun d M' v H' F' e _ r _ => ?_, .none⟩
  · rw [List.getElem?_map] at h1 h2
    cases e : ns[i]? with
    | none => rw [e] at h1; cases h1
    | some z => rw [e] at h1 h2; cases h1; cases h2; exact .int z
  · exact ⟨Same.refl H, fun p hp => absurd hp (List.not_mem_nil), List.nodup_nil, fun p hp => absurd hp (List.not_mem_nil)⟩
  · subst e
    cases r
    exact k H'

/-! ### the law -/
theorem lrD_sd (ws : List Str) (ni : Nat) : Sd 3 (lrD ws ni) := by
  unfold lrD
  split
  · refine .tup (by simp) fun d hd => ?_
    simp only [List.mem_cons, List.not_mem_nil, or_false] at hd
    rcases hd with rfl | rfl
    · exact .str _
    · exact .str _
  · refine .tup (by simp) fun d hd => ?_
    simp only [List.mem_cons, List.not_mem_nil, or_false] at hd
    rcases hd with rfl | rfl | rfl
    · exact .str _
    · exact .int _
    · exact .bl _
section
variable {P : Program} {w : World} {K : PySem.W.Frag} {mg : Str → Option Value} {base : Heap} {C : Cs}
theorem ok_law (T : Top K mg) (Z : Txt K mg C) : Cal P w K mg base CX0 36 "law" ["script"] (sp_law K) := by
  refine Cal.imp (sp := conSp K asp_law) ?_ law_con
  refine def_A T.f_law sc_law (fun _ _ _ _ _ _ us hl => match us, hl with | [_], _ => rfl) (fun ds M Q E h => ?_) (fun f cdv Ar outer s H E ds M Q EX hr h => ?_)
  · obtain ⟨ns, rfl, _⟩ := h
    rfl
  · obtain ⟨ns, rfl, hl, k⟩ := h
    refine ⟨_, (as_cons (as_set (ps_set (i := 1) sc_law.nd rfl (by first | exact Or.inl rfl | exact Or.inr rfl) (a_call (g_call (ok_l_pool T) (hr.mono (by decide)) (by rfl) pass0 (aa_cons (a_var (pv 0)) (aa_cons a_int aa_nil))))))
  (as_cons (as_set (ps_set (i := 2) sc_law.nd rfl (by first | exact Or.inl rfl | exact Or.inr rfl) (a_call (g_call (ok_l_draw T) (hr.mono (by decide)) (by rfl) pass0 (aa_cons (a_var (pv 1)) (aa_cons a_int aa_nil))))))
  (as_cut (as_if (a_tcmp (o_eq (K := K) (un64 hr)) (a_call (g_call (ok_l_draw T) (hr.mono (by decide)) (by rfl) pass0 (aa_cons (a_var (pv 1)) (aa_cons a_int aa_nil)))) a_int (nomark _))
  (as_one (as_set (ps_set (i := 3) sc_law.nd rfl (by first | exact Or.inl rfl | exact Or.inr rfl) (a_call (g_call (ok_l_walked T) (hr.mono (by decide)) (by rfl) pass0 (aa_cons (a_var (pv 1)) (aa_cons (a_var (pv 2)) aa_nil)))))))
  (as_one (as_set (ps_set (i := 3) sc_law.nd rfl (by first | exact Or.inl rfl | exact Or.inr rfl) (a_call (g_call (ok_l_changed T) (hr.mono (by decide)) (by rfl) pass0 (aa_cons (a_var (pv 1)) (aa_cons (a_call (g_call (ok_l_words T) (hr.mono (by decide)) (by rfl) pass0 (aa_cons (a_call (g_call (ok_l_wide T) (hr.mono (by decide)) (by rfl) pass0 (aa_cons (a_var (pv 1)) (aa_cons (a_var (pv 2)) aa_nil)))) aa_nil))) aa_nil))))))))
  (as_cut (as_if (PW.pt (a_and (a_tcmp (o_eq (K := K) (un64 hr)) (a_callB (o_len (K := K)) (by rfl) T.b_len PySem.boot_len (aa_cons (a_var (pv 3)) aa_nil)) a_int (nomark _)) (pw_and1 (a_tcmp (o_eq (K := K) (un64 hr)) (a_ix (o_ix (K := K)) (a_var (pv 3)) a_int (fun _ _ => rfl)) a_str (nomark _)))))
  (as_one (as_set (ps_set (i := 3) sc_law.nd rfl (by first | exact Or.inl rfl | exact Or.inr rfl) (a_lst aa_nil))))
  as_nil)
  (as_cons (as_set (ps_set (i := 4) sc_law.nd rfl (by first | exact Or.inl rfl | exact Or.inr rfl) (a_tup (aa_cons a_str (aa_cons (a_bm o_join (pe_bm PySem.F.plainAttrs_str PySem.F.slot_str_join PySem.F.type_str_join (g_join (K := K)) a_str (aa_cons (a_var (pv 3)) aa_nil))) aa_nil)))))
  (as_cons (as_set (ps_set (i := 5) sc_law.nd rfl (by first | exact Or.inl rfl | exact Or.inr rfl) (a_call (g_call (ok_l_wrong T) (hr.mono (by decide)) (by rfl) pass0 (aa_cons (a_var (pv 3)) (aa_cons (a_var (pv 2)) aa_nil))))))
  (as_cut (as_if (a_tcmp o_isnot (a_var (pv 5)) a_non (nomark _))
  (as_one (as_set (ps_set (i := 4) sc_law.nd rfl (by first | exact Or.inl rfl | exact Or.inr rfl) (a_tup (aa_cons a_str (aa_cons (a_var (pv 5)) (aa_cons a_bl aa_nil)))))))
  as_nil)
  (as_one (as_ret (ps_ret (a_call (g_call (ok_l_same T 3) (hr.mono (by decide)) (by rfl) pass0 (aa_cons (a_call (g_call (ok_l_read T Z) (hr.mono (by decide)) (by rfl) pass0 (aa_cons (a_var (pv 3)) (aa_cons (a_var (pv 2)) aa_nil)))) (aa_cons (a_var (pv 4)) aa_nil)))))))))))))), ?_⟩
    have nat : ∀ {j : Int}, 0 ≤ j → ∃ n : Nat, j = (n : Int) := fun h => ⟨_, (Int.toNat_of_nonneg h).symm⟩
    walk_at "rd"
    refine ⟨ns, _, rfl, fun p s => ?_⟩
    walk_at "rd"
    refine ⟨p, s, _, _, rfl, .hd, by decide, fun j s1 j0 j1 => ?_⟩
    obtain ⟨ni, rfl⟩ := nat j0
    walk_at "rd"
    refine s_cut (fun xs M' => ∃ (ws : List Str) (s2 : PoolS), xs = [some (.scr (ns.map D.int)), some (.r p), some (natD ni), some (.lst (ws.map D.str)), none, none] ∧ M' = (p, s2.ob) :: M ∧ AllLw ws ∧ ws.length ≤ 4000) ?_ ?_
    · walk_at "rd"
      refine ⟨p, s1, _, _, rfl, .hd, by decide, fun j s2 q0 q1 => ?_⟩
      walk_at "rd"
      refine G.i_d (fun h1 => ?_) (fun h1 => ?_)
      · walk_at "rd"
        refine ⟨p, s2, _, ni, rfl, .hd, by omega, fun ws s3 hw hl => ?_⟩
        walk_at "rd"
        exact ⟨ws, s3, rfl, rfl, hw, hl⟩
      · walk_at "rd"
        refine ⟨p, s2, _, ni, rfl, .hd, by omega, fun s3 c h8 ok hwt => ?_⟩
        have hcl := cm_len hwt.1 hwt.2
        have hnb := ok.nb
        have hlen : c.ws.length ≤ 3000 := by
          have h1 : (5 + 2) * c.bufs.length ≤ 56 := by omega
          have h2 : (4 * 75 + 3) * c.procs.length ≤ 303 * 8 := by omega
          omega
        have hlw := cm_lw ok (by omega)
        walk_at "rd"
        refine ⟨c, _, ni, rfl, ok, by omega, by omega, ?_⟩
        walk_at "rd"
        refine ⟨p, s3, _, c.ws, rfl, .hd, hlw, by omega, fun ws s4 hw hl => ?_⟩
        walk_at "rd"
        exact ⟨ws, s4, rfl, rfl, hw, hl⟩
    rintro xs M' ⟨ws0, s2, rfl, rfl, hw0, hl0⟩
    have a0 : ∀ z, ws0 = [z] → atI (ws0.map D.str) 0 = some (.str z) := fun z h => by rw [h]; rfl
    refine s_cut (fun xs M' => ∃ (ws : List Str), xs = [some (.scr (ns.map D.int)), some (.r p), some (natD ni), some (.lst (ws.map D.str)), none, none] ∧ M' = (p, s2.ob) :: M ∧ LWs ws) ?_ ?_
    · walk_at "rd"
      rw [List.length_map]
      refine G.i_d (fun h1 => ?_) (fun h1 => ?_)
      · have h2 : ws0.length = 1 := by omega
        obtain ⟨z, rfl⟩ := List.length_eq_one_iff.mp h2
        have az := a0 z rfl
        walk_at "rd"
        refine G.i_d (fun h3 => ?_) (fun h3 => ?_)
        · walk_at "rd"
          exact ⟨[], rfl, rfl, Nat.zero_le _, (fun y hy => by cases hy), (fun q => by cases q)⟩
        · walk_at "rd"
          exact ⟨[z], rfl, rfl, hl0, hw0, fun q => h3 (by injection q)⟩
      · walk_at "rd"
        exact ⟨ws0, rfl, rfl, hl0, hw0, fun q => h1 (by rw [q]; rfl)⟩
    rintro xs M' ⟨ws, rfl, rfl, hL⟩
    walk_at "rd"
    refine aJoin.mk .d hL.joinz ?_
    walk_at "rd"
    refine ⟨ws, ni, rfl, by have := hL.1; omega, fun z hz => (hL.2.1 z hz).1, by omega, ?_⟩
    walk_at "rd"
    refine s_cut (fun xs M' => xs = [some (.scr (ns.map D.int)), some (.r p), some (natD ni), some (.lst (ws.map D.str)), some (lrD ws ni), some (wrD ws ni)] ∧ M' = (p, s2.ob) :: M) ?_ ?_
    · unfold lrD wrD
      cases wrongA ws ni with
      | none =>
        walk_at "rd"
        exact ⟨rfl, rfl⟩
      | some m =>
        walk_at "rd"
        exact ⟨rfl, rfl⟩
    rintro xs M' ⟨rfl, rfl⟩
    walk_at "rd"
    refine ⟨ws, ni, rfl, hL, by omega, ?_⟩
    walk_at "rd"
    exact ⟨_, rfl, lrD_sd ws ni, .of (k _)⟩
end


theorem exm_mk {K : PySem.W.Frag} {R S : Addr} {b : Bool} (h1 : PySem.W.subIn K (.ref S) (.type "BaseException") = some true) (h2 : PySem.W.isClsIn K S = true) (h3 : PySem.W.typeIn K (.ref S) = some (.type "type")) (h4 : PySem.W.subIn K (.ref R) (.ref S) = some b) :
    PySem.W.exmOne K (.ref R) (.ref S) = some b := by
  have z2 : ((PySem.W.clsIn K S).isSome && PySem.W.typeIn K (.ref S) == some (.type "type")) = true := by
    have y : (PySem.W.clsIn K S).isSome = true := h2
    rw [y, h3] <;> rfl
  have z1 : (PySem.W.subIn K (.ref S) (.type "BaseException") == some true) = true := by rw [h1] <;> rfl
  unfold PySem.W.exmOne
  rw [if_pos z1]
  unfold PySem.W.kitCls
  exact (if_pos z2).trans h4
theorem kit_mk {K : PySem.W.Frag} {R S : Addr} {b : Bool} (h2 : PySem.W.isClsIn K S = true) (h3 : PySem.W.typeIn K (.ref S) = some (.type "type")) (h5 : PySem.W.subIn K (.ref S) (.ref S) = some true) (h4 : PySem.W.subIn K (.ref R) (.ref S) = some b) :
    PySem.W.kitOne K (.ref R) (.ref S) = some b := by
  have z2 : ((PySem.W.clsIn K S).isSome && PySem.W.typeIn K (.ref S) == some (.type "type")) = true := by
    have y : (PySem.W.clsIn K S).isSome = true := h2
    rw [y, h3] <;> rfl
  unfold PySem.W.kitOne
  by_cases e : R = S
  · rw [if_pos (by rw [e]; exact beq_self_eq_true _)]
    rw [e, h5] at h4
    exact h4
  · rw [if_neg fun z => e (Value.ref.inj (beq_iff_eq.mp z))]
    unfold PySem.W.kitCls
    exact (if_pos z2).trans h4
theorem txt_mk {K : PySem.W.Frag} {h : Heap} {mg : Str → Option Value} (X : K.In h) (G : h.Ns mainGlobals mg)
    {A_BlameError : Addr}
    {A_BadText : Addr}
    {A_Component : Addr}
    {A_Reader : Addr}
    (n_BlameError : PySem.W.nsIn K mainGlobals "BlameError" = some (some (.ref A_BlameError)))
    (ex_BlameError : PySem.W.subIn K (.ref A_BlameError) (.type "BaseException") = some true)
    (ty_BlameError : PySem.W.typeIn K (.ref A_BlameError) = some (.type "type"))
    (ic_BlameError : PySem.W.isClsIn K A_BlameError = true)
    (ss_BlameError : PySem.W.subIn K (.ref A_BlameError) (.ref A_BlameError) = some true)
    (ga_BlameError : PySem.W.specialIn K (.ref A_BlameError) "__getattribute__" = some (some (.builtin "type.__getattribute__")))
    (rd_BlameError : PySem.W.readsIn K A_BlameError (.type "type") = true)
    (it_BlameError : PySem.W.findCls K (.ref A_BlameError) (.type "type") "__init__" = some (.val (.builtin "ValueError.__init__")))
    (n_BadText : PySem.W.nsIn K mainGlobals "BadText" = some (some (.ref A_BadText)))
    (ex_BadText : PySem.W.subIn K (.ref A_BadText) (.type "BaseException") = some true)
    (ty_BadText : PySem.W.typeIn K (.ref A_BadText) = some (.type "type"))
    (ic_BadText : PySem.W.isClsIn K A_BadText = true)
    (ss_BadText : PySem.W.subIn K (.ref A_BadText) (.ref A_BadText) = some true)
    {nm_BadText qn_BadText : Str} {N_BadText : Addr} {bs_BadText : List Value} {sn_BadText : List Str} {sub_BadText : List Value} {ab_BadText : Bool} {col_BadText : Option Bool} {dd_BadText : Option Addr} {m0_BadText m1_BadText m2_BadText m3_BadText m5_BadText : Option Value}
    (xl_BadText : K.lookup A_BadText = some (excClassObj nm_BadText qn_BadText A_BadText N_BadText bs_BadText [.ref A_BlameError, .type "ValueError", .type "Exception", .type "BaseException", .type "object"] true sn_BadText sub_BadText ab_BadText col_BadText dd_BadText m0_BadText m1_BadText m2_BadText m3_BadText m5_BadText "ValueError.__new__"))
    (sa_BadText : PySem.W.findIn K (.ref A_BadText) "__setattr__" = some (some (.builtin "object.__setattr__")))
    (kc_BadText : PySem.W.keepIn K (.ref A_BadText) = true)
    (ga_BadText : PySem.W.findIn K (.ref A_BadText) "__getattribute__" = some (some (.builtin "BaseException.__getattribute__")))
    (gg_BadText : PySem.W.findIn K (.ref A_BadText) "__getattr__" = some none)
    (hd_BadText : PySem.W.hasDictIn K A_BadText = true)
    (cc_BadText : PySem.W.findIn K (.ref A_BadText) "__class__" = some (some (.builtin "object.__class__")))
    (sp_BadText : PySem.W.specialIn K (.builtin "object.__class__") "__get__" = some (some (.builtin "getset_descriptor.__get__")))
    (tk_BadText : PySem.W.takesIn K (.builtin "object.__class__") = some true)
    (mo_BadText : PySem.W.mroIn K A_BadText (.type "object") = some true)
    {fBadText_init : Addr} {odBadText_init anBadText_init : Option Addr} {slBadText_init : Array (Option Value)} {ocBadText_init kVBadText_init dcBadText_init pmBadText_init cdBadText_init ctBadText_init : Value}
    (aBadText_init : PySem.W.findIn K (.ref A_BadText) "__init__" = some (some (.ref fBadText_init)))
    (iBadText_init : PySem.W.isFn K (.ref fBadText_init) = true)
    (lBadText_init : K.lookup fBadText_init = some ⟨ocBadText_init, odBadText_init, .func (PySem.W.fnOf "__init__" "BadText.__init__" (defArgs s_BadText_init) (defBody s_BadText_init) (defScope s_BadText_init) .none kVBadText_init dcBadText_init pmBadText_init anBadText_init cdBadText_init ctBadText_init), slBadText_init⟩)
    (cBadText_init : PySem.W.codeIn K cdBadText_init "BadText.__init__" = true)
    (kBadText_init : PySem.W.keepIn K (.ref fBadText_init) = true)
    (x_BadText_at : PySem.W.findIn K (.ref A_BadText) "at" = some none)
    (n_Component : PySem.W.nsIn K mainGlobals "Component" = some (some (.ref A_Component)))
    (pg_Component : PySem.W.plainGet K A_Component Str.empty = true)
    (hd_Component : PySem.W.hasDictIn K A_Component = true)
    (po_Component : PySem.W.plainOver K A_Component = true)
    (sa_Component : PySem.W.findIn K (.ref A_Component) "__setattr__" = some (some (.builtin "object.__setattr__")))
    (mk_Component : PySem.W.makesIn K A_Component = true)
    (kc_Component : PySem.W.keepIn K (.ref A_Component) = true)
    (cc_Component : PySem.W.findIn K (.ref A_Component) "__class__" = some (some (.builtin "object.__class__")))
    (sp_Component : PySem.W.specialIn K (.builtin "object.__class__") "__get__" = some (some (.builtin "getset_descriptor.__get__")))
    (tk_Component : PySem.W.takesIn K (.builtin "object.__class__") = some true)
    (mo_Component : PySem.W.mroIn K A_Component (.type "object") = some true)
    {fComponent_init : Addr} {odComponent_init anComponent_init : Option Addr} {slComponent_init : Array (Option Value)} {ocComponent_init kVComponent_init dcComponent_init pmComponent_init cdComponent_init ctComponent_init : Value}
    (aComponent_init : PySem.W.findIn K (.ref A_Component) "__init__" = some (some (.ref fComponent_init)))
    (iComponent_init : PySem.W.isFn K (.ref fComponent_init) = true)
    (lComponent_init : K.lookup fComponent_init = some ⟨ocComponent_init, odComponent_init, .func (PySem.W.fnOf "__init__" "Component.__init__" (defArgs s_Component_init) (defBody s_Component_init) (defScope s_Component_init) .none kVComponent_init dcComponent_init pmComponent_init anComponent_init cdComponent_init ctComponent_init), slComponent_init⟩)
    (cComponent_init : PySem.W.codeIn K cdComponent_init "Component.__init__" = true)
    (kComponent_init : PySem.W.keepIn K (.ref fComponent_init) = true)
    {fComponent_eq : Addr} {odComponent_eq anComponent_eq : Option Addr} {slComponent_eq : Array (Option Value)} {ocComponent_eq kVComponent_eq dcComponent_eq pmComponent_eq cdComponent_eq ctComponent_eq : Value}
    (aComponent_eq : PySem.W.findIn K (.ref A_Component) "__eq__" = some (some (.ref fComponent_eq)))
    (iComponent_eq : PySem.W.isFn K (.ref fComponent_eq) = true)
    (lComponent_eq : K.lookup fComponent_eq = some ⟨ocComponent_eq, odComponent_eq, .func (PySem.W.fnOf "__eq__" "Component.__eq__" (defArgs s_Component_eq) (defBody s_Component_eq) (defScope s_Component_eq) .none kVComponent_eq dcComponent_eq pmComponent_eq anComponent_eq cdComponent_eq ctComponent_eq), slComponent_eq⟩)
    (cComponent_eq : PySem.W.codeIn K cdComponent_eq "Component.__eq__" = true)
    (kComponent_eq : PySem.W.keepIn K (.ref fComponent_eq) = true)
    (x_Component_buffers : PySem.W.findIn K (.ref A_Component) "buffers" = some none)
    (x_Component_procedures : PySem.W.findIn K (.ref A_Component) "procedures" = some none)
    (x_Component_room : PySem.W.findIn K (.ref A_Component) "room" = some none)
    (n_Reader : PySem.W.nsIn K mainGlobals "Reader" = some (some (.ref A_Reader)))
    (pg_Reader : PySem.W.plainGet K A_Reader Str.empty = true)
    (hd_Reader : PySem.W.hasDictIn K A_Reader = true)
    (po_Reader : PySem.W.plainOver K A_Reader = true)
    (sa_Reader : PySem.W.findIn K (.ref A_Reader) "__setattr__" = some (some (.builtin "object.__setattr__")))
    (mk_Reader : PySem.W.makesIn K A_Reader = true)
    (kc_Reader : PySem.W.keepIn K (.ref A_Reader) = true)
    (cc_Reader : PySem.W.findIn K (.ref A_Reader) "__class__" = some (some (.builtin "object.__class__")))
    (sp_Reader : PySem.W.specialIn K (.builtin "object.__class__") "__get__" = some (some (.builtin "getset_descriptor.__get__")))
    (tk_Reader : PySem.W.takesIn K (.builtin "object.__class__") = some true)
    (mo_Reader : PySem.W.mroIn K A_Reader (.type "object") = some true)
    {fReader_init : Addr} {odReader_init anReader_init : Option Addr} {slReader_init : Array (Option Value)} {ocReader_init kVReader_init dcReader_init pmReader_init cdReader_init ctReader_init : Value}
    (aReader_init : PySem.W.findIn K (.ref A_Reader) "__init__" = some (some (.ref fReader_init)))
    (iReader_init : PySem.W.isFn K (.ref fReader_init) = true)
    (lReader_init : K.lookup fReader_init = some ⟨ocReader_init, odReader_init, .func (PySem.W.fnOf "__init__" "Reader.__init__" (defArgs s_Reader_init) (defBody s_Reader_init) (defScope s_Reader_init) .none kVReader_init dcReader_init pmReader_init anReader_init cdReader_init ctReader_init), slReader_init⟩)
    (cReader_init : PySem.W.codeIn K cdReader_init "Reader.__init__" = true)
    (kReader_init : PySem.W.keepIn K (.ref fReader_init) = true)
    {fReader_next_word : Addr} {odReader_next_word anReader_next_word : Option Addr} {slReader_next_word : Array (Option Value)} {ocReader_next_word kVReader_next_word dcReader_next_word pmReader_next_word cdReader_next_word ctReader_next_word : Value}
    (aReader_next_word : PySem.W.findIn K (.ref A_Reader) "next_word" = some (some (.ref fReader_next_word)))
    (iReader_next_word : PySem.W.isFn K (.ref fReader_next_word) = true)
    (lReader_next_word : K.lookup fReader_next_word = some ⟨ocReader_next_word, odReader_next_word, .func (PySem.W.fnOf "next_word" "Reader.next_word" (defArgs s_Reader_next_word) (defBody s_Reader_next_word) (defScope s_Reader_next_word) .none kVReader_next_word dcReader_next_word pmReader_next_word anReader_next_word cdReader_next_word ctReader_next_word), slReader_next_word⟩)
    (cReader_next_word : PySem.W.codeIn K cdReader_next_word "Reader.next_word" = true)
    (kReader_next_word : PySem.W.keepIn K (.ref fReader_next_word) = true)
    {fReader_take_exactly : Addr} {odReader_take_exactly anReader_take_exactly : Option Addr} {slReader_take_exactly : Array (Option Value)} {ocReader_take_exactly kVReader_take_exactly dcReader_take_exactly pmReader_take_exactly cdReader_take_exactly ctReader_take_exactly : Value}
    (aReader_take_exactly : PySem.W.findIn K (.ref A_Reader) "take_exactly" = some (some (.ref fReader_take_exactly)))
    (iReader_take_exactly : PySem.W.isFn K (.ref fReader_take_exactly) = true)
    (lReader_take_exactly : K.lookup fReader_take_exactly = some ⟨ocReader_take_exactly, odReader_take_exactly, .func (PySem.W.fnOf "take_exactly" "Reader.take_exactly" (defArgs s_Reader_take_exactly) (defBody s_Reader_take_exactly) (defScope s_Reader_take_exactly) .none kVReader_take_exactly dcReader_take_exactly pmReader_take_exactly anReader_take_exactly cdReader_take_exactly ctReader_take_exactly), slReader_take_exactly⟩)
    (cReader_take_exactly : PySem.W.codeIn K cdReader_take_exactly "Reader.take_exactly" = true)
    (kReader_take_exactly : PySem.W.keepIn K (.ref fReader_take_exactly) = true)
    {fReader_take_number : Addr} {odReader_take_number anReader_take_number : Option Addr} {slReader_take_number : Array (Option Value)} {ocReader_take_number kVReader_take_number dcReader_take_number pmReader_take_number cdReader_take_number ctReader_take_number : Value}
    (aReader_take_number : PySem.W.findIn K (.ref A_Reader) "take_number" = some (some (.ref fReader_take_number)))
    (iReader_take_number : PySem.W.isFn K (.ref fReader_take_number) = true)
    (lReader_take_number : K.lookup fReader_take_number = some ⟨ocReader_take_number, odReader_take_number, .func (PySem.W.fnOf "take_number" "Reader.take_number" (defArgs s_Reader_take_number) (defBody s_Reader_take_number) (defScope s_Reader_take_number) .none kVReader_take_number dcReader_take_number pmReader_take_number anReader_take_number cdReader_take_number ctReader_take_number), slReader_take_number⟩)
    (cReader_take_number : PySem.W.codeIn K cdReader_take_number "Reader.take_number" = true)
    (kReader_take_number : PySem.W.keepIn K (.ref fReader_take_number) = true)
    {fReader_take_name : Addr} {odReader_take_name anReader_take_name : Option Addr} {slReader_take_name : Array (Option Value)} {ocReader_take_name kVReader_take_name dcReader_take_name pmReader_take_name cdReader_take_name ctReader_take_name : Value}
    (aReader_take_name : PySem.W.findIn K (.ref A_Reader) "take_name" = some (some (.ref fReader_take_name)))
    (iReader_take_name : PySem.W.isFn K (.ref fReader_take_name) = true)
    (lReader_take_name : K.lookup fReader_take_name = some ⟨ocReader_take_name, odReader_take_name, .func (PySem.W.fnOf "take_name" "Reader.take_name" (defArgs s_Reader_take_name) (defBody s_Reader_take_name) (defScope s_Reader_take_name) .none kVReader_take_name dcReader_take_name pmReader_take_name anReader_take_name cdReader_take_name ctReader_take_name), slReader_take_name⟩)
    (cReader_take_name : PySem.W.codeIn K cdReader_take_name "Reader.take_name" = true)
    (kReader_take_name : PySem.W.keepIn K (.ref fReader_take_name) = true)
    {fReader_take_local : Addr} {odReader_take_local anReader_take_local : Option Addr} {slReader_take_local : Array (Option Value)} {ocReader_take_local kVReader_take_local dcReader_take_local pmReader_take_local cdReader_take_local ctReader_take_local : Value}
    (aReader_take_local : PySem.W.findIn K (.ref A_Reader) "take_local" = some (some (.ref fReader_take_local)))
    (iReader_take_local : PySem.W.isFn K (.ref fReader_take_local) = true)
    (lReader_take_local : K.lookup fReader_take_local = some ⟨ocReader_take_local, odReader_take_local, .func (PySem.W.fnOf "take_local" "Reader.take_local" (defArgs s_Reader_take_local) (defBody s_Reader_take_local) (defScope s_Reader_take_local) .none kVReader_take_local dcReader_take_local pmReader_take_local anReader_take_local cdReader_take_local ctReader_take_local), slReader_take_local⟩)
    (cReader_take_local : PySem.W.codeIn K cdReader_take_local "Reader.take_local" = true)
    (kReader_take_local : PySem.W.keepIn K (.ref fReader_take_local) = true)
    {fReader_take_component : Addr} {odReader_take_component anReader_take_component : Option Addr} {slReader_take_component : Array (Option Value)} {ocReader_take_component kVReader_take_component dcReader_take_component pmReader_take_component cdReader_take_component ctReader_take_component : Value}
    (aReader_take_component : PySem.W.findIn K (.ref A_Reader) "take_component" = some (some (.ref fReader_take_component)))
    (iReader_take_component : PySem.W.isFn K (.ref fReader_take_component) = true)
    (lReader_take_component : K.lookup fReader_take_component = some ⟨ocReader_take_component, odReader_take_component, .func (PySem.W.fnOf "take_component" "Reader.take_component" (defArgs s_Reader_take_component) (defBody s_Reader_take_component) (defScope s_Reader_take_component) .none kVReader_take_component dcReader_take_component pmReader_take_component anReader_take_component cdReader_take_component ctReader_take_component), slReader_take_component⟩)
    (cReader_take_component : PySem.W.codeIn K cdReader_take_component "Reader.take_component" = true)
    (kReader_take_component : PySem.W.keepIn K (.ref fReader_take_component) = true)
    {fReader_take_buffers : Addr} {odReader_take_buffers anReader_take_buffers : Option Addr} {slReader_take_buffers : Array (Option Value)} {ocReader_take_buffers kVReader_take_buffers dcReader_take_buffers pmReader_take_buffers cdReader_take_buffers ctReader_take_buffers : Value}
    (aReader_take_buffers : PySem.W.findIn K (.ref A_Reader) "take_buffers" = some (some (.ref fReader_take_buffers)))
    (iReader_take_buffers : PySem.W.isFn K (.ref fReader_take_buffers) = true)
    (lReader_take_buffers : K.lookup fReader_take_buffers = some ⟨ocReader_take_buffers, odReader_take_buffers, .func (PySem.W.fnOf "take_buffers" "Reader.take_buffers" (defArgs s_Reader_take_buffers) (defBody s_Reader_take_buffers) (defScope s_Reader_take_buffers) .none kVReader_take_buffers dcReader_take_buffers pmReader_take_buffers anReader_take_buffers cdReader_take_buffers ctReader_take_buffers), slReader_take_buffers⟩)
    (cReader_take_buffers : PySem.W.codeIn K cdReader_take_buffers "Reader.take_buffers" = true)
    (kReader_take_buffers : PySem.W.keepIn K (.ref fReader_take_buffers) = true)
    {fReader_take_buffer : Addr} {odReader_take_buffer anReader_take_buffer : Option Addr} {slReader_take_buffer : Array (Option Value)} {ocReader_take_buffer kVReader_take_buffer dcReader_take_buffer pmReader_take_buffer cdReader_take_buffer ctReader_take_buffer : Value}
    (aReader_take_buffer : PySem.W.findIn K (.ref A_Reader) "take_buffer" = some (some (.ref fReader_take_buffer)))
    (iReader_take_buffer : PySem.W.isFn K (.ref fReader_take_buffer) = true)
    (lReader_take_buffer : K.lookup fReader_take_buffer = some ⟨ocReader_take_buffer, odReader_take_buffer, .func (PySem.W.fnOf "take_buffer" "Reader.take_buffer" (defArgs s_Reader_take_buffer) (defBody s_Reader_take_buffer) (defScope s_Reader_take_buffer) .none kVReader_take_buffer dcReader_take_buffer pmReader_take_buffer anReader_take_buffer cdReader_take_buffer ctReader_take_buffer), slReader_take_buffer⟩)
    (cReader_take_buffer : PySem.W.codeIn K cdReader_take_buffer "Reader.take_buffer" = true)
    (kReader_take_buffer : PySem.W.keepIn K (.ref fReader_take_buffer) = true)
    {fReader_take_procedure : Addr} {odReader_take_procedure anReader_take_procedure : Option Addr} {slReader_take_procedure : Array (Option Value)} {ocReader_take_procedure kVReader_take_procedure dcReader_take_procedure pmReader_take_procedure cdReader_take_procedure ctReader_take_procedure : Value}
    (aReader_take_procedure : PySem.W.findIn K (.ref A_Reader) "take_procedure" = some (some (.ref fReader_take_procedure)))
    (iReader_take_procedure : PySem.W.isFn K (.ref fReader_take_procedure) = true)
    (lReader_take_procedure : K.lookup fReader_take_procedure = some ⟨ocReader_take_procedure, odReader_take_procedure, .func (PySem.W.fnOf "take_procedure" "Reader.take_procedure" (defArgs s_Reader_take_procedure) (defBody s_Reader_take_procedure) (defScope s_Reader_take_procedure) .none kVReader_take_procedure dcReader_take_procedure pmReader_take_procedure anReader_take_procedure cdReader_take_procedure ctReader_take_procedure), slReader_take_procedure⟩)
    (cReader_take_procedure : PySem.W.codeIn K cdReader_take_procedure "Reader.take_procedure" = true)
    (kReader_take_procedure : PySem.W.keepIn K (.ref fReader_take_procedure) = true)
    {fReader_take_block : Addr} {odReader_take_block anReader_take_block : Option Addr} {slReader_take_block : Array (Option Value)} {ocReader_take_block kVReader_take_block dcReader_take_block pmReader_take_block cdReader_take_block ctReader_take_block : Value}
    (aReader_take_block : PySem.W.findIn K (.ref A_Reader) "take_block" = some (some (.ref fReader_take_block)))
    (iReader_take_block : PySem.W.isFn K (.ref fReader_take_block) = true)
    (lReader_take_block : K.lookup fReader_take_block = some ⟨ocReader_take_block, odReader_take_block, .func (PySem.W.fnOf "take_block" "Reader.take_block" (defArgs s_Reader_take_block) (defBody s_Reader_take_block) (defScope s_Reader_take_block) .none kVReader_take_block dcReader_take_block pmReader_take_block anReader_take_block cdReader_take_block ctReader_take_block), slReader_take_block⟩)
    (cReader_take_block : PySem.W.codeIn K cdReader_take_block "Reader.take_block" = true)
    (kReader_take_block : PySem.W.keepIn K (.ref fReader_take_block) = true)
    {fReader_statement_fits : Addr} {odReader_statement_fits anReader_statement_fits : Option Addr} {slReader_statement_fits : Array (Option Value)} {ocReader_statement_fits kVReader_statement_fits dcReader_statement_fits pmReader_statement_fits cdReader_statement_fits ctReader_statement_fits : Value}
    (aReader_statement_fits : PySem.W.findIn K (.ref A_Reader) "statement_fits" = some (some (.ref fReader_statement_fits)))
    (iReader_statement_fits : PySem.W.isFn K (.ref fReader_statement_fits) = true)
    (lReader_statement_fits : K.lookup fReader_statement_fits = some ⟨ocReader_statement_fits, odReader_statement_fits, .func (PySem.W.fnOf "statement_fits" "Reader.statement_fits" (defArgs s_Reader_statement_fits) (defBody s_Reader_statement_fits) (defScope s_Reader_statement_fits) .none kVReader_statement_fits dcReader_statement_fits pmReader_statement_fits anReader_statement_fits cdReader_statement_fits ctReader_statement_fits), slReader_statement_fits⟩)
    (cReader_statement_fits : PySem.W.codeIn K cdReader_statement_fits "Reader.statement_fits" = true)
    (kReader_statement_fits : PySem.W.keepIn K (.ref fReader_statement_fits) = true)
    {fReader_take_statement : Addr} {odReader_take_statement anReader_take_statement : Option Addr} {slReader_take_statement : Array (Option Value)} {ocReader_take_statement kVReader_take_statement dcReader_take_statement pmReader_take_statement cdReader_take_statement ctReader_take_statement : Value}
    (aReader_take_statement : PySem.W.findIn K (.ref A_Reader) "take_statement" = some (some (.ref fReader_take_statement)))
    (iReader_take_statement : PySem.W.isFn K (.ref fReader_take_statement) = true)
    (lReader_take_statement : K.lookup fReader_take_statement = some ⟨ocReader_take_statement, odReader_take_statement, .func (PySem.W.fnOf "take_statement" "Reader.take_statement" (defArgs s_Reader_take_statement) (defBody s_Reader_take_statement) (defScope s_Reader_take_statement) .none kVReader_take_statement dcReader_take_statement pmReader_take_statement anReader_take_statement cdReader_take_statement ctReader_take_statement), slReader_take_statement⟩)
    (cReader_take_statement : PySem.W.codeIn K cdReader_take_statement "Reader.take_statement" = true)
    (kReader_take_statement : PySem.W.keepIn K (.ref fReader_take_statement) = true)
    {fReader_take_call : Addr} {odReader_take_call anReader_take_call : Option Addr} {slReader_take_call : Array (Option Value)} {ocReader_take_call kVReader_take_call dcReader_take_call pmReader_take_call cdReader_take_call ctReader_take_call : Value}
    (aReader_take_call : PySem.W.findIn K (.ref A_Reader) "take_call" = some (some (.ref fReader_take_call)))
    (iReader_take_call : PySem.W.isFn K (.ref fReader_take_call) = true)
    (lReader_take_call : K.lookup fReader_take_call = some ⟨ocReader_take_call, odReader_take_call, .func (PySem.W.fnOf "take_call" "Reader.take_call" (defArgs s_Reader_take_call) (defBody s_Reader_take_call) (defScope s_Reader_take_call) .none kVReader_take_call dcReader_take_call pmReader_take_call anReader_take_call cdReader_take_call ctReader_take_call), slReader_take_call⟩)
    (cReader_take_call : PySem.W.codeIn K cdReader_take_call "Reader.take_call" = true)
    (kReader_take_call : PySem.W.keepIn K (.ref fReader_take_call) = true)
    {fReader_take_if : Addr} {odReader_take_if anReader_take_if : Option Addr} {slReader_take_if : Array (Option Value)} {ocReader_take_if kVReader_take_if dcReader_take_if pmReader_take_if cdReader_take_if ctReader_take_if : Value}
    (aReader_take_if : PySem.W.findIn K (.ref A_Reader) "take_if" = some (some (.ref fReader_take_if)))
    (iReader_take_if : PySem.W.isFn K (.ref fReader_take_if) = true)
    (lReader_take_if : K.lookup fReader_take_if = some ⟨ocReader_take_if, odReader_take_if, .func (PySem.W.fnOf "take_if" "Reader.take_if" (defArgs s_Reader_take_if) (defBody s_Reader_take_if) (defScope s_Reader_take_if) .none kVReader_take_if dcReader_take_if pmReader_take_if anReader_take_if cdReader_take_if ctReader_take_if), slReader_take_if⟩)
    (cReader_take_if : PySem.W.codeIn K cdReader_take_if "Reader.take_if" = true)
    (kReader_take_if : PySem.W.keepIn K (.ref fReader_take_if) = true)
    {fReader_take_while : Addr} {odReader_take_while anReader_take_while : Option Addr} {slReader_take_while : Array (Option Value)} {ocReader_take_while kVReader_take_while dcReader_take_while pmReader_take_while cdReader_take_while ctReader_take_while : Value}
    (aReader_take_while : PySem.W.findIn K (.ref A_Reader) "take_while" = some (some (.ref fReader_take_while)))
    (iReader_take_while : PySem.W.isFn K (.ref fReader_take_while) = true)
    (lReader_take_while : K.lookup fReader_take_while = some ⟨ocReader_take_while, odReader_take_while, .func (PySem.W.fnOf "take_while" "Reader.take_while" (defArgs s_Reader_take_while) (defBody s_Reader_take_while) (defScope s_Reader_take_while) .none kVReader_take_while dcReader_take_while pmReader_take_while anReader_take_while cdReader_take_while ctReader_take_while), slReader_take_while⟩)
    (cReader_take_while : PySem.W.codeIn K cdReader_take_while "Reader.take_while" = true)
    (kReader_take_while : PySem.W.keepIn K (.ref fReader_take_while) = true)
    {fReader_take_expression : Addr} {odReader_take_expression anReader_take_expression : Option Addr} {slReader_take_expression : Array (Option Value)} {ocReader_take_expression kVReader_take_expression dcReader_take_expression pmReader_take_expression cdReader_take_expression ctReader_take_expression : Value}
    (aReader_take_expression : PySem.W.findIn K (.ref A_Reader) "take_expression" = some (some (.ref fReader_take_expression)))
    (iReader_take_expression : PySem.W.isFn K (.ref fReader_take_expression) = true)
    (lReader_take_expression : K.lookup fReader_take_expression = some ⟨ocReader_take_expression, odReader_take_expression, .func (PySem.W.fnOf "take_expression" "Reader.take_expression" (defArgs s_Reader_take_expression) (defBody s_Reader_take_expression) (defScope s_Reader_take_expression) .none kVReader_take_expression dcReader_take_expression pmReader_take_expression anReader_take_expression cdReader_take_expression ctReader_take_expression), slReader_take_expression⟩)
    (cReader_take_expression : PySem.W.codeIn K cdReader_take_expression "Reader.take_expression" = true)
    (kReader_take_expression : PySem.W.keepIn K (.ref fReader_take_expression) = true)
    (x_Reader_at : PySem.W.findIn K (.ref A_Reader) "at" = some none)
    (x_Reader_buffer_count : PySem.W.findIn K (.ref A_Reader) "buffer_count" = some none)
    (x_Reader_import_count : PySem.W.findIn K (.ref A_Reader) "import_count" = some none)
    (x_Reader_local_count : PySem.W.findIn K (.ref A_Reader) "local_count" = some none)
    (x_Reader_procedure_count : PySem.W.findIn K (.ref A_Reader) "procedure_count" = some none)
    (x_Reader_words : PySem.W.findIn K (.ref A_Reader) "words" = some none)
    (s_BadText_BlameError : PySem.W.subIn K (.ref A_BadText) (.ref A_BlameError) = some true) : Txt K mg ⟨A_BlameError, A_BadText, A_Component, A_Reader⟩ :=
  ⟨PySem.W.mg_of X G n_BlameError,
   ⟨ga_BlameError, rd_BlameError, it_BlameError⟩,
   PySem.W.mg_of X G n_BadText,
   ⟨⟨⟨_, _, _, _, _, _, _, _, _, _, _, _, _, _, _, xl_BadText, by first | rfl | simp [PySem.HandSPX.refsVE]⟩, sa_BadText, ex_BadText, ty_BadText, kc_BadText⟩, ga_BadText, gg_BadText, hd_BadText, cc_BadText, sp_BadText, tk_BadText, mo_BadText⟩,
   ⟨fBadText_init, _, aBadText_init, iBadText_init, fun_mk (st := s_BadText_init) lBadText_init cBadText_init kBadText_init⟩,
   x_BadText_at,
   PySem.W.mg_of X G n_Component,
   ⟨⟨pg_Component, hd_Component, po_Component, sa_Component⟩, mk_Component, kc_Component, cc_Component, sp_Component, tk_Component, mo_Component⟩,
   ⟨fComponent_init, _, aComponent_init, iComponent_init, fun_mk (st := s_Component_init) lComponent_init cComponent_init kComponent_init⟩,
   ⟨fComponent_eq, _, aComponent_eq, iComponent_eq, fun_mk (st := s_Component_eq) lComponent_eq cComponent_eq kComponent_eq⟩,
   x_Component_buffers,
   x_Component_procedures,
   x_Component_room,
   PySem.W.mg_of X G n_Reader,
   ⟨⟨pg_Reader, hd_Reader, po_Reader, sa_Reader⟩, mk_Reader, kc_Reader, cc_Reader, sp_Reader, tk_Reader, mo_Reader⟩,
   ⟨fReader_init, _, aReader_init, iReader_init, fun_mk (st := s_Reader_init) lReader_init cReader_init kReader_init⟩,
   ⟨fReader_next_word, _, aReader_next_word, iReader_next_word, fun_mk (st := s_Reader_next_word) lReader_next_word cReader_next_word kReader_next_word⟩,
   ⟨fReader_take_exactly, _, aReader_take_exactly, iReader_take_exactly, fun_mk (st := s_Reader_take_exactly) lReader_take_exactly cReader_take_exactly kReader_take_exactly⟩,
   ⟨fReader_take_number, _, aReader_take_number, iReader_take_number, fun_mk (st := s_Reader_take_number) lReader_take_number cReader_take_number kReader_take_number⟩,
   ⟨fReader_take_name, _, aReader_take_name, iReader_take_name, fun_mk (st := s_Reader_take_name) lReader_take_name cReader_take_name kReader_take_name⟩,
   ⟨fReader_take_local, _, aReader_take_local, iReader_take_local, fun_mk (st := s_Reader_take_local) lReader_take_local cReader_take_local kReader_take_local⟩,
   ⟨fReader_take_component, _, aReader_take_component, iReader_take_component, fun_mk (st := s_Reader_take_component) lReader_take_component cReader_take_component kReader_take_component⟩,
   ⟨fReader_take_buffers, _, aReader_take_buffers, iReader_take_buffers, fun_mk (st := s_Reader_take_buffers) lReader_take_buffers cReader_take_buffers kReader_take_buffers⟩,
   ⟨fReader_take_buffer, _, aReader_take_buffer, iReader_take_buffer, fun_mk (st := s_Reader_take_buffer) lReader_take_buffer cReader_take_buffer kReader_take_buffer⟩,
   ⟨fReader_take_procedure, _, aReader_take_procedure, iReader_take_procedure, fun_mk (st := s_Reader_take_procedure) lReader_take_procedure cReader_take_procedure kReader_take_procedure⟩,
   ⟨fReader_take_block, _, aReader_take_block, iReader_take_block, fun_mk (st := s_Reader_take_block) lReader_take_block cReader_take_block kReader_take_block⟩,
   ⟨fReader_statement_fits, _, aReader_statement_fits, iReader_statement_fits, fun_mk (st := s_Reader_statement_fits) lReader_statement_fits cReader_statement_fits kReader_statement_fits⟩,
   ⟨fReader_take_statement, _, aReader_take_statement, iReader_take_statement, fun_mk (st := s_Reader_take_statement) lReader_take_statement cReader_take_statement kReader_take_statement⟩,
   ⟨fReader_take_call, _, aReader_take_call, iReader_take_call, fun_mk (st := s_Reader_take_call) lReader_take_call cReader_take_call kReader_take_call⟩,
   ⟨fReader_take_if, _, aReader_take_if, iReader_take_if, fun_mk (st := s_Reader_take_if) lReader_take_if cReader_take_if kReader_take_if⟩,
   ⟨fReader_take_while, _, aReader_take_while, iReader_take_while, fun_mk (st := s_Reader_take_while) lReader_take_while cReader_take_while kReader_take_while⟩,
   ⟨fReader_take_expression, _, aReader_take_expression, iReader_take_expression, fun_mk (st := s_Reader_take_expression) lReader_take_expression cReader_take_expression kReader_take_expression⟩,
   x_Reader_at,
   x_Reader_buffer_count,
   x_Reader_import_count,
   x_Reader_local_count,
   x_Reader_procedure_count,
   x_Reader_words,
   exm_mk ex_BadText ic_BadText ty_BadText ss_BadText,
   kit_mk ic_BlameError ty_BlameError ss_BlameError s_BadText_BlameError⟩
theorem top_mk {K : PySem.W.Frag} {h : Heap} {mg : Str → Option Value} (X : K.In h) (G : h.Ns mainGlobals mg)
    {f1 : Addr} {od1 an1 : Option Addr} {sl1 : Array (Option Value)} {oc1 kV1 dc1 pm1 cd1 ct1 : Value}
    (a1 : PySem.W.nsIn K mainGlobals "split_words" = some (some (.ref f1))) (l1 : K.lookup f1 = some ⟨oc1, od1, .func (PySem.W.fnOf "split_words" "split_words" (defArgs s_split_words) (defBody s_split_words) (defScope s_split_words) .none kV1 dc1 pm1 an1 cd1 ct1), sl1⟩) (c1 : PySem.W.codeIn K cd1 "split_words" = true) (k1 : PySem.W.keepIn K (.ref f1) = true)
    {f2 : Addr} {od2 an2 : Option Addr} {sl2 : Array (Option Value)} {oc2 kV2 dc2 pm2 cd2 ct2 : Value}
    (a2 : PySem.W.nsIn K mainGlobals "number_of" = some (some (.ref f2))) (l2 : K.lookup f2 = some ⟨oc2, od2, .func (PySem.W.fnOf "number_of" "number_of" (defArgs s_number_of) (defBody s_number_of) (defScope s_number_of) .none kV2 dc2 pm2 an2 cd2 ct2), sl2⟩) (c2 : PySem.W.codeIn K cd2 "number_of" = true) (k2 : PySem.W.keepIn K (.ref f2) = true)
    {f3 : Addr} {od3 an3 : Option Addr} {sl3 : Array (Option Value)} {oc3 kV3 dc3 pm3 cd3 ct3 : Value}
    (a3 : PySem.W.nsIn K mainGlobals "is_digits" = some (some (.ref f3))) (l3 : K.lookup f3 = some ⟨oc3, od3, .func (PySem.W.fnOf "is_digits" "is_digits" (defArgs s_is_digits) (defBody s_is_digits) (defScope s_is_digits) .none kV3 dc3 pm3 an3 cd3 ct3), sl3⟩) (c3 : PySem.W.codeIn K cd3 "is_digits" = true) (k3 : PySem.W.keepIn K (.ref f3) = true)
    {f4 : Addr} {od4 an4 : Option Addr} {sl4 : Array (Option Value)} {oc4 kV4 dc4 pm4 cd4 ct4 : Value}
    (a4 : PySem.W.nsIn K mainGlobals "frozen" = some (some (.ref f4))) (l4 : K.lookup f4 = some ⟨oc4, od4, .func (PySem.W.fnOf "frozen" "frozen" (defArgs s_frozen) (defBody s_frozen) (defScope s_frozen) .none kV4 dc4 pm4 an4 cd4 ct4), sl4⟩) (c4 : PySem.W.codeIn K cd4 "frozen" = true) (k4 : PySem.W.keepIn K (.ref f4) = true)
    {f5 : Addr} {od5 an5 : Option Addr} {sl5 : Array (Option Value)} {oc5 kV5 dc5 pm5 cd5 ct5 : Value}
    (a5 : PySem.W.nsIn K mainGlobals "read_component" = some (some (.ref f5))) (l5 : K.lookup f5 = some ⟨oc5, od5, .func (PySem.W.fnOf "read_component" "read_component" (defArgs s_read_component) (defBody s_read_component) (defScope s_read_component) .none kV5 dc5 pm5 an5 cd5 ct5), sl5⟩) (c5 : PySem.W.codeIn K cd5 "read_component" = true) (k5 : PySem.W.keepIn K (.ref f5) = true)
    {f6 : Addr} {od6 an6 : Option Addr} {sl6 : Array (Option Value)} {oc6 kV6 dc6 pm6 cd6 ct6 : Value}
    (a6 : PySem.W.nsIn K mainGlobals "component_text" = some (some (.ref f6))) (l6 : K.lookup f6 = some ⟨oc6, od6, .func (PySem.W.fnOf "component_text" "component_text" (defArgs s_component_text) (defBody s_component_text) (defScope s_component_text) .none kV6 dc6 pm6 an6 cd6 ct6), sl6⟩) (c6 : PySem.W.codeIn K cd6 "component_text" = true) (k6 : PySem.W.keepIn K (.ref f6) = true)
    {f7 : Addr} {od7 an7 : Option Addr} {sl7 : Array (Option Value)} {oc7 kV7 dc7 pm7 cd7 ct7 : Value}
    (a7 : PySem.W.nsIn K mainGlobals "block_words" = some (some (.ref f7))) (l7 : K.lookup f7 = some ⟨oc7, od7, .func (PySem.W.fnOf "block_words" "block_words" (defArgs s_block_words) (defBody s_block_words) (defScope s_block_words) .none kV7 dc7 pm7 an7 cd7 ct7), sl7⟩) (c7 : PySem.W.codeIn K cd7 "block_words" = true) (k7 : PySem.W.keepIn K (.ref f7) = true)
    {f8 : Addr} {od8 an8 : Option Addr} {sl8 : Array (Option Value)} {oc8 kV8 dc8 pm8 cd8 ct8 : Value}
    (a8 : PySem.W.nsIn K mainGlobals "statement_words" = some (some (.ref f8))) (l8 : K.lookup f8 = some ⟨oc8, od8, .func (PySem.W.fnOf "statement_words" "statement_words" (defArgs s_statement_words) (defBody s_statement_words) (defScope s_statement_words) .none kV8 dc8 pm8 an8 cd8 ct8), sl8⟩) (c8 : PySem.W.codeIn K cd8 "statement_words" = true) (k8 : PySem.W.keepIn K (.ref f8) = true)
    {f9 : Addr} {od9 an9 : Option Addr} {sl9 : Array (Option Value)} {oc9 kV9 dc9 pm9 cd9 ct9 : Value}
    (a9 : PySem.W.nsIn K mainGlobals "if_words" = some (some (.ref f9))) (l9 : K.lookup f9 = some ⟨oc9, od9, .func (PySem.W.fnOf "if_words" "if_words" (defArgs s_if_words) (defBody s_if_words) (defScope s_if_words) .none kV9 dc9 pm9 an9 cd9 ct9), sl9⟩) (c9 : PySem.W.codeIn K cd9 "if_words" = true) (k9 : PySem.W.keepIn K (.ref f9) = true)
    {f10 : Addr} {od10 an10 : Option Addr} {sl10 : Array (Option Value)} {oc10 kV10 dc10 pm10 cd10 ct10 : Value}
    (a10 : PySem.W.nsIn K mainGlobals "expression_words" = some (some (.ref f10))) (l10 : K.lookup f10 = some ⟨oc10, od10, .func (PySem.W.fnOf "expression_words" "expression_words" (defArgs s_expression_words) (defBody s_expression_words) (defScope s_expression_words) .none kV10 dc10 pm10 an10 cd10 ct10), sl10⟩) (c10 : PySem.W.codeIn K cd10 "expression_words" = true) (k10 : PySem.W.keepIn K (.ref f10) = true)
    {f11 : Addr} {od11 an11 : Option Addr} {sl11 : Array (Option Value)} {oc11 kV11 dc11 pm11 cd11 ct11 : Value}
    (a11 : PySem.W.nsIn K mainGlobals "_law_pool" = some (some (.ref f11))) (l11 : K.lookup f11 = some ⟨oc11, od11, .func (PySem.W.fnOf "_law_pool" "_law_pool" (defArgs s_l_pool) (defBody s_l_pool) (defScope s_l_pool) .none kV11 dc11 pm11 an11 cd11 ct11), sl11⟩) (c11 : PySem.W.codeIn K cd11 "_law_pool" = true) (k11 : PySem.W.keepIn K (.ref f11) = true)
    {f12 : Addr} {od12 an12 : Option Addr} {sl12 : Array (Option Value)} {oc12 kV12 dc12 pm12 cd12 ct12 : Value}
    (a12 : PySem.W.nsIn K mainGlobals "_law_draw" = some (some (.ref f12))) (l12 : K.lookup f12 = some ⟨oc12, od12, .func (PySem.W.fnOf "_law_draw" "_law_draw" (defArgs s_l_draw) (defBody s_l_draw) (defScope s_l_draw) .none kV12 dc12 pm12 an12 cd12 ct12), sl12⟩) (c12 : PySem.W.codeIn K cd12 "_law_draw" = true) (k12 : PySem.W.keepIn K (.ref f12) = true)
    {f13 : Addr} {od13 an13 : Option Addr} {sl13 : Array (Option Value)} {oc13 kV13 dc13 pm13 cd13 ct13 : Value}
    (a13 : PySem.W.nsIn K mainGlobals "_law_spend" = some (some (.ref f13))) (l13 : K.lookup f13 = some ⟨oc13, od13, .func (PySem.W.fnOf "_law_spend" "_law_spend" (defArgs s_l_spend) (defBody s_l_spend) (defScope s_l_spend) .none kV13 dc13 pm13 an13 cd13 ct13), sl13⟩) (c13 : PySem.W.codeIn K cd13 "_law_spend" = true) (k13 : PySem.W.keepIn K (.ref f13) = true)
    {f14 : Addr} {od14 an14 : Option Addr} {sl14 : Array (Option Value)} {oc14 kV14 dc14 pm14 cd14 ct14 : Value}
    (a14 : PySem.W.nsIn K mainGlobals "_law_few" = some (some (.ref f14))) (l14 : K.lookup f14 = some ⟨oc14, od14, .func (PySem.W.fnOf "_law_few" "_law_few" (defArgs s_l_few) (defBody s_l_few) (defScope s_l_few) .none kV14 dc14 pm14 an14 cd14 ct14), sl14⟩) (c14 : PySem.W.codeIn K cd14 "_law_few" = true) (k14 : PySem.W.keepIn K (.ref f14) = true)
    {f15 : Addr} {od15 an15 : Option Addr} {sl15 : Array (Option Value)} {oc15 kV15 dc15 pm15 cd15 ct15 : Value}
    (a15 : PySem.W.nsIn K mainGlobals "_law_number" = some (some (.ref f15))) (l15 : K.lookup f15 = some ⟨oc15, od15, .func (PySem.W.fnOf "_law_number" "_law_number" (defArgs s_l_number) (defBody s_l_number) (defScope s_l_number) .none kV15 dc15 pm15 an15 cd15 ct15), sl15⟩) (c15 : PySem.W.codeIn K cd15 "_law_number" = true) (k15 : PySem.W.keepIn K (.ref f15) = true)
    {f16 : Addr} {od16 an16 : Option Addr} {sl16 : Array (Option Value)} {oc16 kV16 dc16 pm16 cd16 ct16 : Value}
    (a16 : PySem.W.nsIn K mainGlobals "_law_same" = some (some (.ref f16))) (l16 : K.lookup f16 = some ⟨oc16, od16, .func (PySem.W.fnOf "_law_same" "_law_same" (defArgs s_l_same) (defBody s_l_same) (defScope s_l_same) .none kV16 dc16 pm16 an16 cd16 ct16), sl16⟩) (c16 : PySem.W.codeIn K cd16 "_law_same" = true) (k16 : PySem.W.keepIn K (.ref f16) = true)
    {f17 : Addr} {od17 an17 : Option Addr} {sl17 : Array (Option Value)} {oc17 kV17 dc17 pm17 cd17 ct17 : Value}
    (a17 : PySem.W.nsIn K mainGlobals "_law_expression" = some (some (.ref f17))) (l17 : K.lookup f17 = some ⟨oc17, od17, .func (PySem.W.fnOf "_law_expression" "_law_expression" (defArgs s_l_expression) (defBody s_l_expression) (defScope s_l_expression) .none kV17 dc17 pm17 an17 cd17 ct17), sl17⟩) (c17 : PySem.W.codeIn K cd17 "_law_expression" = true) (k17 : PySem.W.keepIn K (.ref f17) = true)
    {f18 : Addr} {od18 an18 : Option Addr} {sl18 : Array (Option Value)} {oc18 kV18 dc18 pm18 cd18 ct18 : Value}
    (a18 : PySem.W.nsIn K mainGlobals "_law_index" = some (some (.ref f18))) (l18 : K.lookup f18 = some ⟨oc18, od18, .func (PySem.W.fnOf "_law_index" "_law_index" (defArgs s_l_index) (defBody s_l_index) (defScope s_l_index) .none kV18 dc18 pm18 an18 cd18 ct18), sl18⟩) (c18 : PySem.W.codeIn K cd18 "_law_index" = true) (k18 : PySem.W.keepIn K (.ref f18) = true)
    {f19 : Addr} {od19 an19 : Option Addr} {sl19 : Array (Option Value)} {oc19 kV19 dc19 pm19 cd19 ct19 : Value}
    (a19 : PySem.W.nsIn K mainGlobals "_law_block" = some (some (.ref f19))) (l19 : K.lookup f19 = some ⟨oc19, od19, .func (PySem.W.fnOf "_law_block" "_law_block" (defArgs s_l_block) (defBody s_l_block) (defScope s_l_block) .none kV19 dc19 pm19 an19 cd19 ct19), sl19⟩) (c19 : PySem.W.codeIn K cd19 "_law_block" = true) (k19 : PySem.W.keepIn K (.ref f19) = true)
    {f20 : Addr} {od20 an20 : Option Addr} {sl20 : Array (Option Value)} {oc20 kV20 dc20 pm20 cd20 ct20 : Value}
    (a20 : PySem.W.nsIn K mainGlobals "_law_statement" = some (some (.ref f20))) (l20 : K.lookup f20 = some ⟨oc20, od20, .func (PySem.W.fnOf "_law_statement" "_law_statement" (defArgs s_l_statement) (defBody s_l_statement) (defScope s_l_statement) .none kV20 dc20 pm20 an20 cd20 ct20), sl20⟩) (c20 : PySem.W.codeIn K cd20 "_law_statement" = true) (k20 : PySem.W.keepIn K (.ref f20) = true)
    {f21 : Addr} {od21 an21 : Option Addr} {sl21 : Array (Option Value)} {oc21 kV21 dc21 pm21 cd21 ct21 : Value}
    (a21 : PySem.W.nsIn K mainGlobals "_law_expression_words" = some (some (.ref f21))) (l21 : K.lookup f21 = some ⟨oc21, od21, .func (PySem.W.fnOf "_law_expression_words" "_law_expression_words" (defArgs s_l_expression_words) (defBody s_l_expression_words) (defScope s_l_expression_words) .none kV21 dc21 pm21 an21 cd21 ct21), sl21⟩) (c21 : PySem.W.codeIn K cd21 "_law_expression_words" = true) (k21 : PySem.W.keepIn K (.ref f21) = true)
    {f22 : Addr} {od22 an22 : Option Addr} {sl22 : Array (Option Value)} {oc22 kV22 dc22 pm22 cd22 ct22 : Value}
    (a22 : PySem.W.nsIn K mainGlobals "_law_block_words" = some (some (.ref f22))) (l22 : K.lookup f22 = some ⟨oc22, od22, .func (PySem.W.fnOf "_law_block_words" "_law_block_words" (defArgs s_l_block_words) (defBody s_l_block_words) (defScope s_l_block_words) .none kV22 dc22 pm22 an22 cd22 ct22), sl22⟩) (c22 : PySem.W.codeIn K cd22 "_law_block_words" = true) (k22 : PySem.W.keepIn K (.ref f22) = true)
    {f23 : Addr} {od23 an23 : Option Addr} {sl23 : Array (Option Value)} {oc23 kV23 dc23 pm23 cd23 ct23 : Value}
    (a23 : PySem.W.nsIn K mainGlobals "_law_words" = some (some (.ref f23))) (l23 : K.lookup f23 = some ⟨oc23, od23, .func (PySem.W.fnOf "_law_words" "_law_words" (defArgs s_l_words) (defBody s_l_words) (defScope s_l_words) .none kV23 dc23 pm23 an23 cd23 ct23), sl23⟩) (c23 : PySem.W.codeIn K cd23 "_law_words" = true) (k23 : PySem.W.keepIn K (.ref f23) = true)
    {f24 : Addr} {od24 an24 : Option Addr} {sl24 : Array (Option Value)} {oc24 kV24 dc24 pm24 cd24 ct24 : Value}
    (a24 : PySem.W.nsIn K mainGlobals "_law_wide" = some (some (.ref f24))) (l24 : K.lookup f24 = some ⟨oc24, od24, .func (PySem.W.fnOf "_law_wide" "_law_wide" (defArgs s_l_wide) (defBody s_l_wide) (defScope s_l_wide) .none kV24 dc24 pm24 an24 cd24 ct24), sl24⟩) (c24 : PySem.W.codeIn K cd24 "_law_wide" = true) (k24 : PySem.W.keepIn K (.ref f24) = true)
    {f25 : Addr} {od25 an25 : Option Addr} {sl25 : Array (Option Value)} {oc25 kV25 dc25 pm25 cd25 ct25 : Value}
    (a25 : PySem.W.nsIn K mainGlobals "_law_read" = some (some (.ref f25))) (l25 : K.lookup f25 = some ⟨oc25, od25, .func (PySem.W.fnOf "_law_read" "_law_read" (defArgs s_l_read) (defBody s_l_read) (defScope s_l_read) .none kV25 dc25 pm25 an25 cd25 ct25), sl25⟩) (c25 : PySem.W.codeIn K cd25 "_law_read" = true) (k25 : PySem.W.keepIn K (.ref f25) = true)
    {f26 : Addr} {od26 an26 : Option Addr} {sl26 : Array (Option Value)} {oc26 kV26 dc26 pm26 cd26 ct26 : Value}
    (a26 : PySem.W.nsIn K mainGlobals "_law_is_number" = some (some (.ref f26))) (l26 : K.lookup f26 = some ⟨oc26, od26, .func (PySem.W.fnOf "_law_is_number" "_law_is_number" (defArgs s_l_is_number) (defBody s_l_is_number) (defScope s_l_is_number) .none kV26 dc26 pm26 an26 cd26 ct26), sl26⟩) (c26 : PySem.W.codeIn K cd26 "_law_is_number" = true) (k26 : PySem.W.keepIn K (.ref f26) = true)
    {f27 : Addr} {od27 an27 : Option Addr} {sl27 : Array (Option Value)} {oc27 kV27 dc27 pm27 cd27 ct27 : Value}
    (a27 : PySem.W.nsIn K mainGlobals "_law_is_place" = some (some (.ref f27))) (l27 : K.lookup f27 = some ⟨oc27, od27, .func (PySem.W.fnOf "_law_is_place" "_law_is_place" (defArgs s_l_is_place) (defBody s_l_is_place) (defScope s_l_is_place) .none kV27 dc27 pm27 an27 cd27 ct27), sl27⟩) (c27 : PySem.W.codeIn K cd27 "_law_is_place" = true) (k27 : PySem.W.keepIn K (.ref f27) = true)
    {f28 : Addr} {od28 an28 : Option Addr} {sl28 : Array (Option Value)} {oc28 kV28 dc28 pm28 cd28 ct28 : Value}
    (a28 : PySem.W.nsIn K mainGlobals "_law_expects" = some (some (.ref f28))) (l28 : K.lookup f28 = some ⟨oc28, od28, .func (PySem.W.fnOf "_law_expects" "_law_expects" (defArgs s_l_expects) (defBody s_l_expects) (defScope s_l_expects) .none kV28 dc28 pm28 an28 cd28 ct28), sl28⟩) (c28 : PySem.W.codeIn K cd28 "_law_expects" = true) (k28 : PySem.W.keepIn K (.ref f28) = true)
    {f29 : Addr} {od29 an29 : Option Addr} {sl29 : Array (Option Value)} {oc29 kV29 dc29 pm29 cd29 ct29 : Value}
    (a29 : PySem.W.nsIn K mainGlobals "_law_begins" = some (some (.ref f29))) (l29 : K.lookup f29 = some ⟨oc29, od29, .func (PySem.W.fnOf "_law_begins" "_law_begins" (defArgs s_l_begins) (defBody s_l_begins) (defScope s_l_begins) .none kV29 dc29 pm29 an29 cd29 ct29), sl29⟩) (c29 : PySem.W.codeIn K cd29 "_law_begins" = true) (k29 : PySem.W.keepIn K (.ref f29) = true)
    {f30 : Addr} {od30 an30 : Option Addr} {sl30 : Array (Option Value)} {oc30 kV30 dc30 pm30 cd30 ct30 : Value}
    (a30 : PySem.W.nsIn K mainGlobals "_law_blocks" = some (some (.ref f30))) (l30 : K.lookup f30 = some ⟨oc30, od30, .func (PySem.W.fnOf "_law_blocks" "_law_blocks" (defArgs s_l_blocks) (defBody s_l_blocks) (defScope s_l_blocks) .none kV30 dc30 pm30 an30 cd30 ct30), sl30⟩) (c30 : PySem.W.codeIn K cd30 "_law_blocks" = true) (k30 : PySem.W.keepIn K (.ref f30) = true)
    {f31 : Addr} {od31 an31 : Option Addr} {sl31 : Array (Option Value)} {oc31 kV31 dc31 pm31 cd31 ct31 : Value}
    (a31 : PySem.W.nsIn K mainGlobals "_law_heads" = some (some (.ref f31))) (l31 : K.lookup f31 = some ⟨oc31, od31, .func (PySem.W.fnOf "_law_heads" "_law_heads" (defArgs s_l_heads) (defBody s_l_heads) (defScope s_l_heads) .none kV31 dc31 pm31 an31 cd31 ct31), sl31⟩) (c31 : PySem.W.codeIn K cd31 "_law_heads" = true) (k31 : PySem.W.keepIn K (.ref f31) = true)
    {f32 : Addr} {od32 an32 : Option Addr} {sl32 : Array (Option Value)} {oc32 kV32 dc32 pm32 cd32 ct32 : Value}
    (a32 : PySem.W.nsIn K mainGlobals "_law_next" = some (some (.ref f32))) (l32 : K.lookup f32 = some ⟨oc32, od32, .func (PySem.W.fnOf "_law_next" "_law_next" (defArgs s_l_next) (defBody s_l_next) (defScope s_l_next) .none kV32 dc32 pm32 an32 cd32 ct32), sl32⟩) (c32 : PySem.W.codeIn K cd32 "_law_next" = true) (k32 : PySem.W.keepIn K (.ref f32) = true)
    {f33 : Addr} {od33 an33 : Option Addr} {sl33 : Array (Option Value)} {oc33 kV33 dc33 pm33 cd33 ct33 : Value}
    (a33 : PySem.W.nsIn K mainGlobals "_law_wrong" = some (some (.ref f33))) (l33 : K.lookup f33 = some ⟨oc33, od33, .func (PySem.W.fnOf "_law_wrong" "_law_wrong" (defArgs s_l_wrong) (defBody s_l_wrong) (defScope s_l_wrong) .none kV33 dc33 pm33 an33 cd33 ct33), sl33⟩) (c33 : PySem.W.codeIn K cd33 "_law_wrong" = true) (k33 : PySem.W.keepIn K (.ref f33) = true)
    {f34 : Addr} {od34 an34 : Option Addr} {sl34 : Array (Option Value)} {oc34 kV34 dc34 pm34 cd34 ct34 : Value}
    (a34 : PySem.W.nsIn K mainGlobals "_law_menu" = some (some (.ref f34))) (l34 : K.lookup f34 = some ⟨oc34, od34, .func (PySem.W.fnOf "_law_menu" "_law_menu" (defArgs s_l_menu) (defBody s_l_menu) (defScope s_l_menu) .none kV34 dc34 pm34 an34 cd34 ct34), sl34⟩) (c34 : PySem.W.codeIn K cd34 "_law_menu" = true) (k34 : PySem.W.keepIn K (.ref f34) = true)
    {f35 : Addr} {od35 an35 : Option Addr} {sl35 : Array (Option Value)} {oc35 kV35 dc35 pm35 cd35 ct35 : Value}
    (a35 : PySem.W.nsIn K mainGlobals "_law_changed" = some (some (.ref f35))) (l35 : K.lookup f35 = some ⟨oc35, od35, .func (PySem.W.fnOf "_law_changed" "_law_changed" (defArgs s_l_changed) (defBody s_l_changed) (defScope s_l_changed) .none kV35 dc35 pm35 an35 cd35 ct35), sl35⟩) (c35 : PySem.W.codeIn K cd35 "_law_changed" = true) (k35 : PySem.W.keepIn K (.ref f35) = true)
    {f36 : Addr} {od36 an36 : Option Addr} {sl36 : Array (Option Value)} {oc36 kV36 dc36 pm36 cd36 ct36 : Value}
    (a36 : PySem.W.nsIn K mainGlobals "_law_walked" = some (some (.ref f36))) (l36 : K.lookup f36 = some ⟨oc36, od36, .func (PySem.W.fnOf "_law_walked" "_law_walked" (defArgs s_l_walked) (defBody s_l_walked) (defScope s_l_walked) .none kV36 dc36 pm36 an36 cd36 ct36), sl36⟩) (c36 : PySem.W.codeIn K cd36 "_law_walked" = true) (k36 : PySem.W.keepIn K (.ref f36) = true)
    {f37 : Addr} {od37 an37 : Option Addr} {sl37 : Array (Option Value)} {oc37 kV37 dc37 pm37 cd37 ct37 : Value}
    (a37 : PySem.W.nsIn K mainGlobals "law" = some (some (.ref f37))) (l37 : K.lookup f37 = some ⟨oc37, od37, .func (PySem.W.fnOf "law" "law" (defArgs s_law) (defBody s_law) (defScope s_law) .none kV37 dc37 pm37 an37 cd37 ct37), sl37⟩) (c37 : PySem.W.codeIn K cd37 "law" = true) (k37 : PySem.W.keepIn K (.ref f37) = true)
    {t_WORD_COUNT : Tok} (c_WORD_COUNT : PySem.W.nsIn K mainGlobals "WORD_COUNT" = some (some (.int 65536 t_WORD_COUNT)))
    {at_OPERATORS : Addr} {od_OPERATORS : Option Addr} {it_OPERATORS : Array Value} {nn_OPERATORS : Nat} {sl_OPERATORS : Array (Option Value)} (c_OPERATORS : PySem.W.nsIn K mainGlobals "OPERATORS" = some (some (.ref at_OPERATORS))) (lk_OPERATORS : K.lookup at_OPERATORS = some ⟨.type "tuple", od_OPERATORS, .seq it_OPERATORS nn_OPERATORS, sl_OPERATORS⟩) (sz_OPERATORS : it_OPERATORS.size ≤ sizeLine) (vv_OPERATORS : Vals ((["+", "-", "*", "/", "mod", "<", "="] : List Str).map V.str) it_OPERATORS.toList)
    {t_DIGITS : Tok} (c_DIGITS : PySem.W.nsIn K mainGlobals "DIGITS" = some (some (.str "0123456789" t_DIGITS)))
    {t_MOST_DIGITS : Tok} (c_MOST_DIGITS : PySem.W.nsIn K mainGlobals "MOST_DIGITS" = some (some (.int 5 t_MOST_DIGITS)))
    {t_MOST_ROOM : Tok} (c_MOST_ROOM : PySem.W.nsIn K mainGlobals "MOST_ROOM" = some (some (.int 20000 t_MOST_ROOM)))
    {t_MOST_PROCEDURES : Tok} (c_MOST_PROCEDURES : PySem.W.nsIn K mainGlobals "MOST_PROCEDURES" = some (some (.int 8 t_MOST_PROCEDURES)))
    {t_MOST_BUFFERS : Tok} (c_MOST_BUFFERS : PySem.W.nsIn K mainGlobals "MOST_BUFFERS" = some (some (.int 8 t_MOST_BUFFERS)))
    {t_MOST_BUFFER_WORDS : Tok} (c_MOST_BUFFER_WORDS : PySem.W.nsIn K mainGlobals "MOST_BUFFER_WORDS" = some (some (.int 1000 t_MOST_BUFFER_WORDS)))
    {t_MOST_LOCALS : Tok} (c_MOST_LOCALS : PySem.W.nsIn K mainGlobals "MOST_LOCALS" = some (some (.int 16 t_MOST_LOCALS)))
    {t_EXPRESSION_DEPTH : Tok} (c_EXPRESSION_DEPTH : PySem.W.nsIn K mainGlobals "EXPRESSION_DEPTH" = some (some (.int 4 t_EXPRESSION_DEPTH)))
    {t_BLOCK_DEPTH : Tok} (c_BLOCK_DEPTH : PySem.W.nsIn K mainGlobals "BLOCK_DEPTH" = some (some (.int 6 t_BLOCK_DEPTH)))
    (b_all : PySem.W.nsIn K mainGlobals "all" = some none)
    (b_bool : PySem.W.nsIn K mainGlobals "bool" = some none)
    (b_int : PySem.W.nsIn K mainGlobals "int" = some none)
    (b_isinstance : PySem.W.nsIn K mainGlobals "isinstance" = some none)
    (b_len : PySem.W.nsIn K mainGlobals "len" = some none)
    (b_list : PySem.W.nsIn K mainGlobals "list" = some none)
    (b_min : PySem.W.nsIn K mainGlobals "min" = some none)
    (b_range : PySem.W.nsIn K mainGlobals "range" = some none)
    (b_str : PySem.W.nsIn K mainGlobals "str" = some none)
    (b_tuple : PySem.W.nsIn K mainGlobals "tuple" = some none) : Top K mg :=
  ⟨⟨f1, _, PySem.W.mg_of X G a1, fun_mk (st := s_split_words) l1 c1 k1⟩,
   ⟨f2, _, PySem.W.mg_of X G a2, fun_mk (st := s_number_of) l2 c2 k2⟩,
   ⟨f3, _, PySem.W.mg_of X G a3, fun_mk (st := s_is_digits) l3 c3 k3⟩,
   ⟨f4, _, PySem.W.mg_of X G a4, fun_mk (st := s_frozen) l4 c4 k4⟩,
   ⟨f5, _, PySem.W.mg_of X G a5, fun_mk (st := s_read_component) l5 c5 k5⟩,
   ⟨f6, _, PySem.W.mg_of X G a6, fun_mk (st := s_component_text) l6 c6 k6⟩,
   ⟨f7, _, PySem.W.mg_of X G a7, fun_mk (st := s_block_words) l7 c7 k7⟩,
   ⟨f8, _, PySem.W.mg_of X G a8, fun_mk (st := s_statement_words) l8 c8 k8⟩,
   ⟨f9, _, PySem.W.mg_of X G a9, fun_mk (st := s_if_words) l9 c9 k9⟩,
   ⟨f10, _, PySem.W.mg_of X G a10, fun_mk (st := s_expression_words) l10 c10 k10⟩,
   ⟨f11, _, PySem.W.mg_of X G a11, fun_mk (st := s_l_pool) l11 c11 k11⟩,
   ⟨f12, _, PySem.W.mg_of X G a12, fun_mk (st := s_l_draw) l12 c12 k12⟩,
   ⟨f13, _, PySem.W.mg_of X G a13, fun_mk (st := s_l_spend) l13 c13 k13⟩,
   ⟨f14, _, PySem.W.mg_of X G a14, fun_mk (st := s_l_few) l14 c14 k14⟩,
   ⟨f15, _, PySem.W.mg_of X G a15, fun_mk (st := s_l_number) l15 c15 k15⟩,
   ⟨f16, _, PySem.W.mg_of X G a16, fun_mk (st := s_l_same) l16 c16 k16⟩,
   ⟨f17, _, PySem.W.mg_of X G a17, fun_mk (st := s_l_expression) l17 c17 k17⟩,
   ⟨f18, _, PySem.W.mg_of X G a18, fun_mk (st := s_l_index) l18 c18 k18⟩,
   ⟨f19, _, PySem.W.mg_of X G a19, fun_mk (st := s_l_block) l19 c19 k19⟩,
   ⟨f20, _, PySem.W.mg_of X G a20, fun_mk (st := s_l_statement) l20 c20 k20⟩,
   ⟨f21, _, PySem.W.mg_of X G a21, fun_mk (st := s_l_expression_words) l21 c21 k21⟩,
   ⟨f22, _, PySem.W.mg_of X G a22, fun_mk (st := s_l_block_words) l22 c22 k22⟩,
   ⟨f23, _, PySem.W.mg_of X G a23, fun_mk (st := s_l_words) l23 c23 k23⟩,
   ⟨f24, _, PySem.W.mg_of X G a24, fun_mk (st := s_l_wide) l24 c24 k24⟩,
   ⟨f25, _, PySem.W.mg_of X G a25, fun_mk (st := s_l_read) l25 c25 k25⟩,
   ⟨f26, _, PySem.W.mg_of X G a26, fun_mk (st := s_l_is_number) l26 c26 k26⟩,
   ⟨f27, _, PySem.W.mg_of X G a27, fun_mk (st := s_l_is_place) l27 c27 k27⟩,
   ⟨f28, _, PySem.W.mg_of X G a28, fun_mk (st := s_l_expects) l28 c28 k28⟩,
   ⟨f29, _, PySem.W.mg_of X G a29, fun_mk (st := s_l_begins) l29 c29 k29⟩,
   ⟨f30, _, PySem.W.mg_of X G a30, fun_mk (st := s_l_blocks) l30 c30 k30⟩,
   ⟨f31, _, PySem.W.mg_of X G a31, fun_mk (st := s_l_heads) l31 c31 k31⟩,
   ⟨f32, _, PySem.W.mg_of X G a32, fun_mk (st := s_l_next) l32 c32 k32⟩,
   ⟨f33, _, PySem.W.mg_of X G a33, fun_mk (st := s_l_wrong) l33 c33 k33⟩,
   ⟨f34, _, PySem.W.mg_of X G a34, fun_mk (st := s_l_menu) l34 c34 k34⟩,
   ⟨f35, _, PySem.W.mg_of X G a35, fun_mk (st := s_l_changed) l35 c35 k35⟩,
   ⟨f36, _, PySem.W.mg_of X G a36, fun_mk (st := s_l_walked) l36 c36 k36⟩,
   ⟨f37, _, PySem.W.mg_of X G a37, fun_mk (st := s_law) l37 c37 k37⟩,
   ⟨_, PySem.W.mg_of X G c_WORD_COUNT⟩,
   AV.modTup_str (PySem.W.mg_of X G c_OPERATORS) lk_OPERATORS rfl rfl sz_OPERATORS vv_OPERATORS,
   ⟨_, PySem.W.mg_of X G c_DIGITS⟩,
   ⟨_, PySem.W.mg_of X G c_MOST_DIGITS⟩,
   ⟨_, PySem.W.mg_of X G c_MOST_ROOM⟩,
   ⟨_, PySem.W.mg_of X G c_MOST_PROCEDURES⟩,
   ⟨_, PySem.W.mg_of X G c_MOST_BUFFERS⟩,
   ⟨_, PySem.W.mg_of X G c_MOST_BUFFER_WORDS⟩,
   ⟨_, PySem.W.mg_of X G c_MOST_LOCALS⟩,
   ⟨_, PySem.W.mg_of X G c_EXPRESSION_DEPTH⟩,
   ⟨_, PySem.W.mg_of X G c_BLOCK_DEPTH⟩,
   PySem.W.mg_none_of X G b_all,
   PySem.W.mg_none_of X G b_bool,
   PySem.W.mg_none_of X G b_int,
   PySem.W.mg_none_of X G b_isinstance,
   PySem.W.mg_none_of X G b_len,
   PySem.W.mg_none_of X G b_list,
   PySem.W.mg_none_of X G b_min,
   PySem.W.mg_none_of X G b_range,
   PySem.W.mg_none_of X G b_str,
   PySem.W.mg_none_of X G b_tuple⟩
theorem walk {l : PySem.W.OpenLaw} {q : Program} {loose : List Str} {XP : (Str → Option Value) → Heap → Prop} {YP : World → Heap → Prop} {d : DefRec} {K : Params → PySem.W.Frag} (hn : l.most = some 63) (hdf : d.params.defaults = []) (hd : d.name = "law")
    (hY : ∀ (w : World) (h : Heap), YP w h → (K w.params).In h)
    (F : ∀ (w : World) (mg : Str → Option Value) (h : Heap), (K w.params).In h → h.Ns mainGlobals mg → Top (K w.params) mg ∧ ∃ C, Txt (K w.params) mg C) :
    PySem.W.WalkO q loose XP YP l.row.toRowW d [] (fun f vs => PySem.call f vs) :=
  L2.walk_of (n := 63) (k := 36) (x := "script") (CX := fun _ => CX0) (sp := fun w => sp_law (K w.params)) hn (by decide) hdf ⟨rfl, by decide, by decide⟩ hY
    (fun w mg fa h KX G hfa => by
      obtain ⟨T, C, Z⟩ := F w mg h KX G
      obtain ⟨f, fd, m, Fn⟩ := T.f_law
      have e : fa = f := by
        rw [hd, m] at hfa
        injection hfa with e
        injection e with e
        exact e.symm
      subst e
      refine ⟨fd, fun s v => ?_, fun base _ _ => (ok_law (P := l.prog) (w := w) (base := base) T Z).at_ m Fn⟩
      obtain ⟨oc, od, kV, doc, pm, an, cdv, ct, osl, rfl, _, _⟩ := Fn.ex
      exact .of_eq rfl)
    (fun _ _ a ns hl _ hS => ⟨a, ns, rfl, hS, hl, fun _ => rfl⟩) fun _ _ _ _ _ z => z

end L
open PySem PySem.W PyProof.Rows in
set_option maxRecDepth 100000 in
set_option maxHeartbeats 0 in
theorem PySem.Challenge.cw_blameless_k08_whole_texts_are_read_exact_holds : PySem.Challenge.rw_blameless_k08_whole_texts_are_read_exact.Holds := by
  w_on; o_law; k_head; (case hw => w_witness2)
  k_fill
  refine L.walk (l := PySem.Challenge.rw_blameless_k08_whole_texts_are_read_exact) rfl rfl rfl (fun w h Y => PySem.W.kIn_of Y) ?F
  case F =>
    intro w mg h KX G
    refine' And.intro (L.top_mk KX G ?a1 ?l1 ?c1 ?k1 ?a2 ?l2 ?c2 ?k2 ?a3 ?l3 ?c3 ?k3 ?a4 ?l4 ?c4 ?k4 ?a5 ?l5 ?c5 ?k5 ?a6 ?l6 ?c6 ?k6 ?a7 ?l7 ?c7 ?k7 ?a8 ?l8 ?c8 ?k8 ?a9 ?l9 ?c9 ?k9 ?a10 ?l10 ?c10 ?k10 ?a11 ?l11 ?c11 ?k11 ?a12 ?l12 ?c12 ?k12 ?a13 ?l13 ?c13 ?k13 ?a14 ?l14 ?c14 ?k14 ?a15 ?l15 ?c15 ?k15 ?a16 ?l16 ?c16 ?k16 ?a17 ?l17 ?c17 ?k17 ?a18 ?l18 ?c18 ?k18 ?a19 ?l19 ?c19 ?k19 ?a20 ?l20 ?c20 ?k20 ?a21 ?l21 ?c21 ?k21 ?a22 ?l22 ?c22 ?k22 ?a23 ?l23 ?c23 ?k23 ?a24 ?l24 ?c24 ?k24 ?a25 ?l25 ?c25 ?k25 ?a26 ?l26 ?c26 ?k26 ?a27 ?l27 ?c27 ?k27 ?a28 ?l28 ?c28 ?k28 ?a29 ?l29 ?c29 ?k29 ?a30 ?l30 ?c30 ?k30 ?a31 ?l31 ?c31 ?k31 ?a32 ?l32 ?c32 ?k32 ?a33 ?l33 ?c33 ?k33 ?a34 ?l34 ?c34 ?k34 ?a35 ?l35 ?c35 ?k35 ?a36 ?l36 ?c36 ?k36 ?a37 ?l37 ?c37 ?k37 ?c_WORD_COUNT ?c_OPERATORS ?lk_OPERATORS ?sz_OPERATORS ?vv_OPERATORS ?c_DIGITS ?c_MOST_DIGITS ?c_MOST_ROOM ?c_MOST_PROCEDURES ?c_MOST_BUFFERS ?c_MOST_BUFFER_WORDS ?c_MOST_LOCALS ?c_EXPRESSION_DEPTH ?c_BLOCK_DEPTH ?b_all ?b_bool ?b_int ?b_isinstance ?b_len ?b_list ?b_min ?b_range ?b_str ?b_tuple) (Exists.intro _ (L.txt_mk KX G ?tn_BlameError ?tex_BlameError ?tty_BlameError ?tic_BlameError ?tss_BlameError ?tga_BlameError ?trd_BlameError ?tit_BlameError ?tn_BadText ?tex_BadText ?tty_BadText ?tic_BadText ?tss_BadText ?txl_BadText ?tsa_BadText ?tkc_BadText ?tga_BadText ?tgg_BadText ?thd_BadText ?tcc_BadText ?tsp_BadText ?ttk_BadText ?tmo_BadText ?taBadText_init ?tiBadText_init ?tlBadText_init ?tcBadText_init ?tkBadText_init ?tx_BadText_at ?tn_Component ?tpg_Component ?thd_Component ?tpo_Component ?tsa_Component ?tmk_Component ?tkc_Component ?tcc_Component ?tsp_Component ?ttk_Component ?tmo_Component ?taComponent_init ?tiComponent_init ?tlComponent_init ?tcComponent_init ?tkComponent_init ?taComponent_eq ?tiComponent_eq ?tlComponent_eq ?tcComponent_eq ?tkComponent_eq ?tx_Component_buffers ?tx_Component_procedures ?tx_Component_room ?tn_Reader ?tpg_Reader ?thd_Reader ?tpo_Reader ?tsa_Reader ?tmk_Reader ?tkc_Reader ?tcc_Reader ?tsp_Reader ?ttk_Reader ?tmo_Reader ?taReader_init ?tiReader_init ?tlReader_init ?tcReader_init ?tkReader_init ?taReader_next_word ?tiReader_next_word ?tlReader_next_word ?tcReader_next_word ?tkReader_next_word ?taReader_take_exactly ?tiReader_take_exactly ?tlReader_take_exactly ?tcReader_take_exactly ?tkReader_take_exactly ?taReader_take_number ?tiReader_take_number ?tlReader_take_number ?tcReader_take_number ?tkReader_take_number ?taReader_take_name ?tiReader_take_name ?tlReader_take_name ?tcReader_take_name ?tkReader_take_name ?taReader_take_local ?tiReader_take_local ?tlReader_take_local ?tcReader_take_local ?tkReader_take_local ?taReader_take_component ?tiReader_take_component ?tlReader_take_component ?tcReader_take_component ?tkReader_take_component ?taReader_take_buffers ?tiReader_take_buffers ?tlReader_take_buffers ?tcReader_take_buffers ?tkReader_take_buffers ?taReader_take_buffer ?tiReader_take_buffer ?tlReader_take_buffer ?tcReader_take_buffer ?tkReader_take_buffer ?taReader_take_procedure ?tiReader_take_procedure ?tlReader_take_procedure ?tcReader_take_procedure ?tkReader_take_procedure ?taReader_take_block ?tiReader_take_block ?tlReader_take_block ?tcReader_take_block ?tkReader_take_block ?taReader_statement_fits ?tiReader_statement_fits ?tlReader_statement_fits ?tcReader_statement_fits ?tkReader_statement_fits ?taReader_take_statement ?tiReader_take_statement ?tlReader_take_statement ?tcReader_take_statement ?tkReader_take_statement ?taReader_take_call ?tiReader_take_call ?tlReader_take_call ?tcReader_take_call ?tkReader_take_call ?taReader_take_if ?tiReader_take_if ?tlReader_take_if ?tcReader_take_if ?tkReader_take_if ?taReader_take_while ?tiReader_take_while ?tlReader_take_while ?tcReader_take_while ?tkReader_take_while ?taReader_take_expression ?tiReader_take_expression ?tlReader_take_expression ?tcReader_take_expression ?tkReader_take_expression ?tx_Reader_at ?tx_Reader_buffer_count ?tx_Reader_import_count ?tx_Reader_local_count ?tx_Reader_procedure_count ?tx_Reader_words ?ts_BadText_BlameError))
    (case a1 => k_is)
    (case l1 => k_is)
    (case c1 => k_is)
    (case k1 => k_is)
    (case a2 => k_is)
    (case l2 => k_is)
    (case c2 => k_is)
    (case k2 => k_is)
    (case a3 => k_is)
    (case l3 => k_is)
    (case c3 => k_is)
    (case k3 => k_is)
    (case a4 => k_is)
    (case l4 => k_is)
    (case c4 => k_is)
    (case k4 => k_is)
    (case a5 => k_is)
    (case l5 => k_is)
    (case c5 => k_is)
    (case k5 => k_is)
    (case a6 => k_is)
    (case l6 => k_is)
    (case c6 => k_is)
    (case k6 => k_is)
    (case a7 => k_is)
    (case l7 => k_is)
    (case c7 => k_is)
    (case k7 => k_is)
    (case a8 => k_is)
    (case l8 => k_is)
    (case c8 => k_is)
    (case k8 => k_is)
    (case a9 => k_is)
    (case l9 => k_is)
    (case c9 => k_is)
    (case k9 => k_is)
    (case a10 => k_is)
    (case l10 => k_is)
    (case c10 => k_is)
    (case k10 => k_is)
    (case a11 => k_is)
    (case l11 => k_is)
    (case c11 => k_is)
    (case k11 => k_is)
    (case a12 => k_is)
    (case l12 => k_is)
    (case c12 => k_is)
    (case k12 => k_is)
    (case a13 => k_is)
    (case l13 => k_is)
    (case c13 => k_is)
    (case k13 => k_is)
    (case a14 => k_is)
    (case l14 => k_is)
    (case c14 => k_is)
    (case k14 => k_is)
    (case a15 => k_is)
    (case l15 => k_is)
    (case c15 => k_is)
    (case k15 => k_is)
    (case a16 => k_is)
    (case l16 => k_is)
    (case c16 => k_is)
    (case k16 => k_is)
    (case a17 => k_is)
    (case l17 => k_is)
    (case c17 => k_is)
    (case k17 => k_is)
    (case a18 => k_is)
    (case l18 => k_is)
    (case c18 => k_is)
    (case k18 => k_is)
    (case a19 => k_is)
    (case l19 => k_is)
    (case c19 => k_is)
    (case k19 => k_is)
    (case a20 => k_is)
    (case l20 => k_is)
    (case c20 => k_is)
    (case k20 => k_is)
    (case a21 => k_is)
    (case l21 => k_is)
    (case c21 => k_is)
    (case k21 => k_is)
    (case a22 => k_is)
    (case l22 => k_is)
    (case c22 => k_is)
    (case k22 => k_is)
    (case a23 => k_is)
    (case l23 => k_is)
    (case c23 => k_is)
    (case k23 => k_is)
    (case a24 => k_is)
    (case l24 => k_is)
    (case c24 => k_is)
    (case k24 => k_is)
    (case a25 => k_is)
    (case l25 => k_is)
    (case c25 => k_is)
    (case k25 => k_is)
    (case a26 => k_is)
    (case l26 => k_is)
    (case c26 => k_is)
    (case k26 => k_is)
    (case a27 => k_is)
    (case l27 => k_is)
    (case c27 => k_is)
    (case k27 => k_is)
    (case a28 => k_is)
    (case l28 => k_is)
    (case c28 => k_is)
    (case k28 => k_is)
    (case a29 => k_is)
    (case l29 => k_is)
    (case c29 => k_is)
    (case k29 => k_is)
    (case a30 => k_is)
    (case l30 => k_is)
    (case c30 => k_is)
    (case k30 => k_is)
    (case a31 => k_is)
    (case l31 => k_is)
    (case c31 => k_is)
    (case k31 => k_is)
    (case a32 => k_is)
    (case l32 => k_is)
    (case c32 => k_is)
    (case k32 => k_is)
    (case a33 => k_is)
    (case l33 => k_is)
    (case c33 => k_is)
    (case k33 => k_is)
    (case a34 => k_is)
    (case l34 => k_is)
    (case c34 => k_is)
    (case k34 => k_is)
    (case a35 => k_is)
    (case l35 => k_is)
    (case c35 => k_is)
    (case k35 => k_is)
    (case a36 => k_is)
    (case l36 => k_is)
    (case c36 => k_is)
    (case k36 => k_is)
    (case a37 => k_is)
    (case l37 => k_is)
    (case c37 => k_is)
    (case k37 => k_is)
    (case c_WORD_COUNT => k_is)
    (case c_OPERATORS => k_is)
    (case lk_OPERATORS => k_is)
    (case sz_OPERATORS => decide)
    (case vv_OPERATORS => repeat (first | exact .nil | (refine .cons ⟨_, rfl⟩ ?_)))
    (case c_DIGITS => k_is)
    (case c_MOST_DIGITS => k_is)
    (case c_MOST_ROOM => k_is)
    (case c_MOST_PROCEDURES => k_is)
    (case c_MOST_BUFFERS => k_is)
    (case c_MOST_BUFFER_WORDS => k_is)
    (case c_MOST_LOCALS => k_is)
    (case c_EXPRESSION_DEPTH => k_is)
    (case c_BLOCK_DEPTH => k_is)
    (case b_all => k_is)
    (case b_bool => k_is)
    (case b_int => k_is)
    (case b_isinstance => k_is)
    (case b_len => k_is)
    (case b_list => k_is)
    (case b_min => k_is)
    (case b_range => k_is)
    (case b_str => k_is)
    (case b_tuple => k_is)
    (case tn_BlameError => k_is)
    (case tex_BlameError => k_is)
    (case tty_BlameError => k_is)
    (case tic_BlameError => k_is)
    (case tss_BlameError => k_is)
    (case tga_BlameError => k_is)
    (case trd_BlameError => k_is)
    (case tit_BlameError => k_is)
    (case tn_BadText => k_is)
    (case tex_BadText => k_is)
    (case tty_BadText => k_is)
    (case tic_BadText => k_is)
    (case tss_BadText => k_is)
    (case txl_BadText => k_is)
    (case tsa_BadText => k_is)
    (case tkc_BadText => k_is)
    (case tga_BadText => k_is)
    (case tgg_BadText => k_is)
    (case thd_BadText => k_is)
    (case tcc_BadText => k_is)
    (case tsp_BadText => k_is)
    (case ttk_BadText => k_is)
    (case tmo_BadText => k_is)
    (case taBadText_init => k_is)
    (case tiBadText_init => k_is)
    (case tlBadText_init => k_is)
    (case tcBadText_init => k_is)
    (case tkBadText_init => k_is)
    (case tx_BadText_at => k_is)
    (case tn_Component => k_is)
    (case tpg_Component => k_is)
    (case thd_Component => k_is)
    (case tpo_Component => k_is)
    (case tsa_Component => k_is)
    (case tmk_Component => k_is)
    (case tkc_Component => k_is)
    (case tcc_Component => k_is)
    (case tsp_Component => k_is)
    (case ttk_Component => k_is)
    (case tmo_Component => k_is)
    (case taComponent_init => k_is)
    (case tiComponent_init => k_is)
    (case tlComponent_init => k_is)
    (case tcComponent_init => k_is)
    (case tkComponent_init => k_is)
    (case taComponent_eq => k_is)
    (case tiComponent_eq => k_is)
    (case tlComponent_eq => k_is)
    (case tcComponent_eq => k_is)
    (case tkComponent_eq => k_is)
    (case tx_Component_buffers => k_is)
    (case tx_Component_procedures => k_is)
    (case tx_Component_room => k_is)
    (case tn_Reader => k_is)
    (case tpg_Reader => k_is)
    (case thd_Reader => k_is)
    (case tpo_Reader => k_is)
    (case tsa_Reader => k_is)
    (case tmk_Reader => k_is)
    (case tkc_Reader => k_is)
    (case tcc_Reader => k_is)
    (case tsp_Reader => k_is)
    (case ttk_Reader => k_is)
    (case tmo_Reader => k_is)
    (case taReader_init => k_is)
    (case tiReader_init => k_is)
    (case tlReader_init => k_is)
    (case tcReader_init => k_is)
    (case tkReader_init => k_is)
    (case taReader_next_word => k_is)
    (case tiReader_next_word => k_is)
    (case tlReader_next_word => k_is)
    (case tcReader_next_word => k_is)
    (case tkReader_next_word => k_is)
    (case taReader_take_exactly => k_is)
    (case tiReader_take_exactly => k_is)
    (case tlReader_take_exactly => k_is)
    (case tcReader_take_exactly => k_is)
    (case tkReader_take_exactly => k_is)
    (case taReader_take_number => k_is)
    (case tiReader_take_number => k_is)
    (case tlReader_take_number => k_is)
    (case tcReader_take_number => k_is)
    (case tkReader_take_number => k_is)
    (case taReader_take_name => k_is)
    (case tiReader_take_name => k_is)
    (case tlReader_take_name => k_is)
    (case tcReader_take_name => k_is)
    (case tkReader_take_name => k_is)
    (case taReader_take_local => k_is)
    (case tiReader_take_local => k_is)
    (case tlReader_take_local => k_is)
    (case tcReader_take_local => k_is)
    (case tkReader_take_local => k_is)
    (case taReader_take_component => k_is)
    (case tiReader_take_component => k_is)
    (case tlReader_take_component => k_is)
    (case tcReader_take_component => k_is)
    (case tkReader_take_component => k_is)
    (case taReader_take_buffers => k_is)
    (case tiReader_take_buffers => k_is)
    (case tlReader_take_buffers => k_is)
    (case tcReader_take_buffers => k_is)
    (case tkReader_take_buffers => k_is)
    (case taReader_take_buffer => k_is)
    (case tiReader_take_buffer => k_is)
    (case tlReader_take_buffer => k_is)
    (case tcReader_take_buffer => k_is)
    (case tkReader_take_buffer => k_is)
    (case taReader_take_procedure => k_is)
    (case tiReader_take_procedure => k_is)
    (case tlReader_take_procedure => k_is)
    (case tcReader_take_procedure => k_is)
    (case tkReader_take_procedure => k_is)
    (case taReader_take_block => k_is)
    (case tiReader_take_block => k_is)
    (case tlReader_take_block => k_is)
    (case tcReader_take_block => k_is)
    (case tkReader_take_block => k_is)
    (case taReader_statement_fits => k_is)
    (case tiReader_statement_fits => k_is)
    (case tlReader_statement_fits => k_is)
    (case tcReader_statement_fits => k_is)
    (case tkReader_statement_fits => k_is)
    (case taReader_take_statement => k_is)
    (case tiReader_take_statement => k_is)
    (case tlReader_take_statement => k_is)
    (case tcReader_take_statement => k_is)
    (case tkReader_take_statement => k_is)
    (case taReader_take_call => k_is)
    (case tiReader_take_call => k_is)
    (case tlReader_take_call => k_is)
    (case tcReader_take_call => k_is)
    (case tkReader_take_call => k_is)
    (case taReader_take_if => k_is)
    (case tiReader_take_if => k_is)
    (case tlReader_take_if => k_is)
    (case tcReader_take_if => k_is)
    (case tkReader_take_if => k_is)
    (case taReader_take_while => k_is)
    (case tiReader_take_while => k_is)
    (case tlReader_take_while => k_is)
    (case tcReader_take_while => k_is)
    (case tkReader_take_while => k_is)
    (case taReader_take_expression => k_is)
    (case tiReader_take_expression => k_is)
    (case tlReader_take_expression => k_is)
    (case tcReader_take_expression => k_is)
    (case tkReader_take_expression => k_is)
    (case tx_Reader_at => k_is)
    (case tx_Reader_buffer_count => k_is)
    (case tx_Reader_import_count => k_is)
    (case tx_Reader_local_count => k_is)
    (case tx_Reader_procedure_count => k_is)
    (case tx_Reader_words => k_is)
    (case ts_BadText_BlameError => k_is)
