import PyProof.Rows.All
import Wide.All
import OpenK.AllK
import Wide.FinOn
import HandS.ForMost
import HandS.Codes
import HandS.IsInst
import HandS.Walk
import HandS.Zip
import HandS.ExcInit
import HandS.ExcValue
import HandS.Nested
import KE.KExcSuper
import KE.KExcIs
import HandS.ExcField
import HandS.ExcIs
import PySem.Challenge.RW_everstock_k06_refusals_made_by_hand
set_option Elab.async false
set_option linter.all false
set_option maxRecDepth 100000
set_option maxHeartbeats 4000000
namespace My
open PySem PySem.Spec PyProof.Rows L2
open C8 (pss_cut)
open RZ (pi_zipA for_zipL for_zipT)
def topS (i : Nat) : Stmt := PySem.Challenge.pw_everstock_k06_refusals_made_by_hand.main.body.getD i (.Pass ⟨0, 0, 0, 0⟩)
/-! ### the pen: what the drawing defs keep -/
def sOpen : Stmt := topS 15
def sSpread : Stmt := topS 16
def sTake : Stmt := topS 17
/-- all that was there but the one at p is as it was -/
def Kp (p : Addr) (H H' : Hp) : Prop := ∀ b o, H b = some o → b ≠ p → H' b = some o
theorem Kp.refl (p : Addr) (H : Hp) : Kp p H H := fun _ _ e _ => e
theorem Kp.trans {p : Addr} {H H1 H2 : Hp} (a : Kp p H H1) (b : Kp p H1 H2) : Kp p H H2 := fun c o e n => b c o (a c o e n) n
theorem Kp.same {p : Addr} {H H1 H2 : Hp} (a : Kp p H H1) (b : Same H1 H2) : Kp p H H2 := fun c o e n => b c o (a c o e n)
theorem _root_.L2.Same.kp {p : Addr} {H H1 : Hp} (a : Same H H1) : Kp p H H1 := fun c o e _ => a c o e
theorem same_upd {H : Hp} {p : Addr} {o : HO} (h : H p = none) : Same H (upd H p o) := fun b x e => by
  rw [upd_ne (ne_of_none e h)]
  exact e
theorem kp_upd (p : Addr) (H : Hp) (o : HO) : Kp p H (upd H p o) := fun b x e n => by
  rw [upd_ne n]
  exact e
/-- the pen at p: its cells' list at c, at most n cells taken -/
structure Pen (H : Hp) (p c : Addr) (ns : List Int) (n : Nat) : Prop where
  pe : ∃ at_ left : Int, H p = some (.lst [.ref c, .int at_, .int left]) ∧ 0 ≤ at_ ∧ at_ ≤ (n : Int) ∧ 0 ≤ left
  ce : H c = some (.lst (ns.map V.int))
theorem Pen.ne {H : Hp} {p c : Addr} {ns : List Int} {n : Nat} (h : Pen H p c ns n) : c ≠ p := by
  obtain ⟨⟨a, l, h1, _⟩, h2⟩ := h
  intro e
  subst e
  rw [h1] at h2
  cases ns with
  | nil => cases h2
  | cons x r => cases h2
theorem Pen.same {H H' : Hp} {p c : Addr} {ns : List Int} {n : Nat} (h : Pen H p c ns n) (s : Same H H') : Pen H' p c ns n := by
  obtain ⟨⟨a, l, h1, h3⟩, h2⟩ := h
  exact ⟨⟨a, l, s _ _ h1, h3⟩, s _ _ h2⟩
theorem Pen.mono {H : Hp} {p c : Addr} {ns : List Int} {n m : Nat} (h : Pen H p c ns n) (hn : n ≤ m) : Pen H p c ns m := by
  obtain ⟨⟨a, l, h1, h3, h4, h5⟩, h2⟩ := h
  exact ⟨⟨a, l, h1, h3, by omega, h5⟩, h2⟩
/-- at most so many cells are taken in all -/
def penMost : Nat := 1000000
def spOpen (K : PySem.W.Frag) : Sp := fun vs H Q _ => ∃ (a : Addr) (ns : List Int), vs = [.ref a] ∧ SqL K H a (ns.map V.int) ∧ ns.length ≤ 63 ∧
  ∀ H' p c ms, Same H H' → Pen H' p c ms 0 → H p = none → Q (.ref p) H'
def spSpread : Sp := fun vs H Q _ => ∃ (cell at_ : Int), vs = [.int cell, .int at_] ∧ 0 ≤ at_ ∧ at_ ≤ 1000000 ∧ ∀ r H', 0 ≤ r → Same H H' → Q (.int r) H'
def spTake : Sp := fun vs H Q _ => ∃ (p c : Addr) (ns : List Int) (n : Nat) (m : Int), vs = [.ref p, .int m] ∧ Pen H p c ns n ∧ n < penMost ∧ 1 ≤ m ∧ m < 1000000000 ∧
  ∀ r H', 0 ≤ r → r < m → Kp p H H' → Pen H' p c ns (n + 1) → Q (.int r) H'
theorem at_ints {ns : List Int} {k : Int} (h0 : 0 ≤ k) (h1 : k < ns.length) : ∃ z, atI (ns.map V.int) k = some (.int z) := by
  obtain ⟨j, rfl⟩ : ∃ j : Nat, k = (j : Int) := ⟨k.toNat, by omega⟩
  have hj : j < ns.length := by omega
  exact ⟨ns[j], atI_nat (by rw [List.getElem?_map, List.getElem?_eq_getElem hj] <;> rfl)⟩
theorem ixN_of {n : Nat} {k : Int} (h0 : 0 ≤ k) (h1 : k < n) : ixN n k = some k.toNat := by
  unfold ixN
  rw [if_pos h0, if_pos h1]
theorem ints_get {ns : List Int} {i : Nat} {v : V} (h : (ns.map V.int)[i]? = some v) : ∃ z, ns[i]? = some z ∧ v = .int z := by
  rw [List.getElem?_map] at h
  cases e : ns[i]? with
  | none =>
    rw [e] at h
    cases h
  | some z =>
    rw [e] at h
    exact ⟨z, rfl, (Option.some.inj h).symm⟩
theorem cut_ints (ns : List Int) (lo hi : Option Int) : ∃ ms : List Int, cutV (ns.map V.int) lo hi = ms.map V.int ∧ ms.length ≤ ns.length := by
  unfold cutV
  refine ⟨(ns.drop (HT.sIx (ns.map V.int).length 0 lo)).take (HT.sIx (ns.map V.int).length (ns.map V.int).length hi - HT.sIx (ns.map V.int).length 0 lo), ?_, ?_⟩
  · rw [List.map_take, List.map_drop]
  · rw [List.length_take, List.length_drop]
    omega
theorem cut12 (ns : List Int) : cutV (ns.map V.int) none (some 12) = (ns.take 12).map V.int := by
  unfold cutV
  rw [show HT.sIx (ns.map V.int).length (ns.map V.int).length (some 12) = min 12 (ns.map V.int).length from HT.sIx_nat _ _ 12, HT.sIx_none, List.map_take, List.drop_zero, Nat.sub_zero]
  by_cases h : 12 ≤ (ns.map V.int).length
  · rw [Nat.min_eq_left h]
  · rw [Nat.min_eq_right (by omega), List.take_length, List.take_of_length_le (by omega)]
theorem cut1263 (ns : List Int) (h : ns.length ≤ 12) : cutV (ns.map V.int) (some 12) (some 63) = [] := by
  unfold cutV
  rw [show HT.sIx (ns.map V.int).length 0 (some 12) = min 12 (ns.map V.int).length from HT.sIx_nat _ _ 12, Nat.min_eq_right (by rw [List.length_map]; exact h), List.drop_length, List.take_nil]
/-- the divisors of the spreading -/
def prL : List V := [V.int 2147483629, V.int 2147483587, V.int 2147483579, V.int 2147483563, V.int 2147483549, V.int 2147483543, V.int 2147483497, V.int 2147483489] ++
  [V.int 2147483477, V.int 2147483423, V.int 2147483399, V.int 2147483353, V.int 2147483323]
theorem pr_at : ∀ j : Nat, j < 13 → ∃ q : Int, prL[j]? = some (.int q) ∧ 0 < q ∧ q < 2147483648
  | 0, _ => ⟨_, rfl, by decide, by decide⟩ | 1, _ => ⟨_, rfl, by decide, by decide⟩ | 2, _ => ⟨_, rfl, by decide, by decide⟩ | 3, _ => ⟨_, rfl, by decide, by decide⟩
  | 4, _ => ⟨_, rfl, by decide, by decide⟩ | 5, _ => ⟨_, rfl, by decide, by decide⟩ | 6, _ => ⟨_, rfl, by decide, by decide⟩ | 7, _ => ⟨_, rfl, by decide, by decide⟩
  | 8, _ => ⟨_, rfl, by decide, by decide⟩ | 9, _ => ⟨_, rfl, by decide, by decide⟩ | 10, _ => ⟨_, rfl, by decide, by decide⟩ | 11, _ => ⟨_, rfl, by decide, by decide⟩
  | 12, _ => ⟨_, rfl, by decide, by decide⟩ | n + 13, h => absurd h (by omega)
theorem pr_mod (k : Int) : ∃ q : Int, atI prL (k % 13) = some (.int q) ∧ 0 < q ∧ q < 2147483648 := by
  have h0 := Int.emod_nonneg k (by decide : (13 : Int) ≠ 0)
  have h1 := Int.emod_lt_of_pos k (by decide : (0 : Int) < 13)
  obtain ⟨q, e, a, b⟩ := pr_at (k % 13).toNat (by omega)
  have e2 : k % 13 = ((k % 13).toNat : Int) := by omega
  rw [e2]
  exact ⟨q, atI_nat e, a, b⟩
theorem abs64 {x : Int} (h0 : 0 ≤ x) (h : x < 18446744073709551616) : x.natAbs < 2 ^ 64 := by
  have : (2 : Nat) ^ 64 = 18446744073709551616 := by decide
  omega
theorem mul_le_mul' {a b c d : Int} (ha : 0 ≤ a) (hb : a ≤ c) (hc : 0 ≤ b) (hd : b ≤ d) : a * b ≤ c * d :=
  Int.le_trans (Int.mul_le_mul_of_nonneg_right hb hc) (Int.mul_le_mul_of_nonneg_left hd (Int.le_trans ha hb))
section
variable {P : Program} {w : World} {K : PySem.W.Frag} {mg : Str → Option Value} {base : Heap}
theorem scSpread : FnScope ["cell", "at", "primes", "one", "two", "three"] ["cell", "at"] (defScope sSpread) := ⟨rfl, rfl, rfl, by decide +kernel, rfl, by decide +kernel, by decide +kernel⟩

theorem ok_spread {f : Addr} {fd : FuncData} {k : Nat} (F : Fun K "_law_spread" "_law_spread" sSpread f fd) : FnOk P w K mg base CX0 (k + 1) f fd ["cell", "at"] spSpread := by
  refine F.ok scSpread (fun vs H Q E h => ?_) (fun cdv A outer s H vs Q E hr h => ?_)
  · obtain ⟨cell, at_, rfl, _⟩ := h
    rfl
  · obtain ⟨cell, a, rfl, ha0, ha1, q⟩ := h
    refine ⟨_, pss_cons (ps_if (pt_cmpR op_ge (pv 0) (pe_op op_pow pe_int pe_int) (nomark _)) (pss_one (ps_ret (pv 0))) pss_nil)
      (pss_cons (ps_set (i := 2) scSpread.nd rfl (.inl rfl) (pe_lst (pa_cons pe_int (pa_cons pe_int (pa_cons pe_int (pa_cons pe_int (pa_cons pe_int (pa_cons pe_int (pa_cons pe_int (pa_cons pe_int pa_nil))))))))))
      (pss_cons (ps_set (i := 2) scSpread.nd rfl (.inl rfl) (pe_op op_cat (pv 2) (pe_lst (pa_cons pe_int (pa_cons pe_int (pa_cons pe_int (pa_cons pe_int (pa_cons pe_int pa_nil))))))))
      (pss_cons (ps_set (i := 3) scSpread.nd rfl (.inl rfl) (pe_op op_mod (pe_op op_pow (pe_op op_add (pe_op op_add (pe_op op_mul (pe_op op_mod (pv 0) pe_int) (pe_op op_add (pe_op op_mul pe_int (pv 1)) pe_int)) (pe_op op_mul (pv 1) pe_int)) pe_int) pe_int) (pe_ix ix_list (pv 2) (pe_op op_mod (pv 1) pe_int) (fun _ _ => rfl))))
      (pss_cons (ps_set (i := 4) scSpread.nd rfl (.inl rfl) (pe_op op_mod (pe_op op_pow (pe_op op_add (pe_op op_add (pe_op op_mul (pv 3) (pe_op op_add (pv 1) pe_int)) (pe_op op_mod (pv 0) pe_int)) pe_int) pe_int) (pe_ix ix_list (pv 2) (pe_op op_mod (pe_op op_add (pv 1) pe_int) pe_int) (fun _ _ => rfl))))
      (pss_cons (ps_set (i := 5) scSpread.nd rfl (.inl rfl) (pe_op op_mod (pe_op op_pow (pe_op op_add (pe_op op_add (pv 4) (pe_op op_mod (pv 3) pe_int)) (pv 1)) pe_int) (pe_ix ix_list (pv 2) (pe_op op_mod (pe_op op_add (pv 1) pe_int) pe_int) (fun _ _ => rfl))))
      (pss_one (ps_ret (pe_op op_add (pe_op op_mul (pe_op op_add (pe_op op_mul (pv 3) pe_int) (pv 4)) pe_int) (pv 5))))))))), ?_⟩
    -- cell >= 10 ** 18
    refine ⟨_, rfl, 10, 18, rfl, rfl, ⟨by decide, by decide, by decide⟩, _, _, rfl, rfl, _, rfl, ?_⟩
    refine ite2 (fun hc => ?_) (fun _ => ?_)
    · refine ⟨_, rfl, q _ _ ?_ (Same.refl H)⟩
      have hc' := of_decide_eq_true hc
      exact Int.le_trans (by decide) hc'
    · -- primes
      refine ⟨by show 8 ≤ sizeLine; decide, fun p1 n1 => ?_⟩
      refine ⟨_, rfl, by show 5 ≤ sizeLine; decide, fun p2 n2 => ?_⟩
      have n12 : p1 ≠ p2 := ne_of_none (upd_same (H := H)) n2
      refine ⟨p1, p2, _, _, rfl, rfl, (by rw [upd_ne n12]; exact upd_same), upd_same, by show 13 ≤ sizeLine; decide, fun p3 n3 => ?_⟩
      have s1 := same_upd (o := .lst [V.int 2147483629, V.int 2147483587, V.int 2147483579, V.int 2147483563, V.int 2147483549, V.int 2147483543, V.int 2147483497, V.int 2147483489]) n1
      have s2 := same_upd (o := .lst [V.int 2147483477, V.int 2147483423, V.int 2147483399, V.int 2147483353, V.int 2147483323]) n2
      have s3 := (s1.trans s2).trans (same_upd (o := .lst prL) n3)
      have hL : SqL K (upd (upd (upd H p1 (.lst [V.int 2147483629, V.int 2147483587, V.int 2147483579, V.int 2147483563, V.int 2147483549, V.int 2147483543, V.int 2147483497, V.int 2147483489])) p2 (.lst [V.int 2147483477, V.int 2147483423, V.int 2147483399, V.int 2147483353, V.int 2147483323])) p3 (.lst prL)) p3 prL := SqL.of upd_same
      -- one
      have c0 := Int.emod_nonneg cell (by decide : (1000000007 : Int) ≠ 0)
      have c1 := Int.emod_lt_of_pos cell (by decide : (0 : Int) < 1000000007)
      refine ⟨_, rfl, cell, 1000000007, rfl, rfl, (by show (0 : Int) < 1000000007; decide), _, rfl, 2, a, rfl, rfl, .inl ⟨by decide, by decide⟩, _, _, rfl, rfl, _, _, rfl, rfl, .inr ⟨by omega, by omega⟩, _, rfl, _, _, rfl, rfl, .inr ⟨by decide, by decide⟩, _, _, rfl, rfl, _, _, rfl, rfl, ?_⟩
      have b0 : 0 ≤ cell % 1000000007 * (2 * a + 69069) := Int.mul_nonneg c0 (by omega)
      have b1 : cell % 1000000007 * (2 * a + 69069) ≤ 1000000007 * 2069069 := mul_le_mul' c0 (by omega) (by omega) (by omega)
      dsimp only
      generalize e1 : cell % 1000000007 * (2 * a + 69069) + a * 40503 + 977 = one
      have o0 : 0 ≤ one := by omega
      have o1 : one < 18446744073709551616 := by omega
      clear e1 b0 b1
      -- one ** 3 % primes[at % 13]
      obtain ⟨q1, i1, q10, q11⟩ := pr_mod a
      refine ⟨one, 3, rfl, rfl, ⟨by decide, by decide, abs64 o0 o1⟩, _, rfl, _, rfl, a, 13, rfl, rfl, (by show (0 : Int) < 13; decide), p3, prL, _, _, rfl, rfl, hL, i1, _, q1, rfl, rfl, q10, ?_⟩
      have w0 := Int.emod_nonneg (one ^ (3 : Int).toNat) (Int.ne_of_gt q10)
      have w1 := Int.emod_lt_of_pos (one ^ (3 : Int).toNat) q10
      dsimp only
      generalize e2 : one ^ (3 : Int).toNat % q1 = on2 at w0 w1 ⊢
      clear e2
      -- two
      obtain ⟨q2, i2, q20, q21⟩ := pr_mod (a + 5)
      have d0 := Int.emod_nonneg cell (by decide : (65537 : Int) ≠ 0)
      have d1 := Int.emod_lt_of_pos cell (by decide : (0 : Int) < 65537)
      have f0 : 0 ≤ on2 * (a + 3) := Int.mul_nonneg w0 (by omega)
      have f1 : on2 * (a + 3) ≤ 2147483648 * 1000003 := mul_le_mul' w0 (by omega) (by omega) (by omega)
      refine ⟨_, rfl, _, rfl, a, 3, rfl, rfl, on2, _, rfl, rfl, .inl ⟨by omega, by omega⟩, _, rfl, cell, 65537, rfl, rfl, (by show (0 : Int) < 65537; decide), _, _, rfl, rfl, _, _, rfl, rfl, _, 5, rfl, rfl, ⟨by decide, by decide, abs64 (by omega) (by omega)⟩, _, rfl, _, rfl, a, 5, rfl, rfl, _, 13, rfl, rfl, (by show (0 : Int) < 13; decide), p3, prL, _, _, rfl, rfl, hL, i2, _, q2, rfl, rfl, q20, ?_⟩
      have x0 := Int.emod_nonneg ((on2 * (a + 3) + cell % 65537 + 5) ^ (5 : Int).toNat) (Int.ne_of_gt q20)
      have x1 := Int.emod_lt_of_pos ((on2 * (a + 3) + cell % 65537 + 5) ^ (5 : Int).toNat) q20
      dsimp only
      generalize e3 : (on2 * (a + 3) + cell % 65537 + 5) ^ (5 : Int).toNat % q2 = two at x0 x1 ⊢
      clear e3
      -- three
      obtain ⟨q3, i3, q30, q31⟩ := pr_mod (a + 7)
      have g0 := Int.emod_nonneg on2 (by decide : (1009 : Int) ≠ 0)
      have g1 := Int.emod_lt_of_pos on2 (by decide : (0 : Int) < 1009)
      refine ⟨_, rfl, _, rfl, on2, 1009, rfl, rfl, (by show (0 : Int) < 1009; decide), _, _, rfl, rfl, _, rfl, _, _, rfl, rfl, _, 3, rfl, rfl, ⟨by decide, by decide, abs64 (by omega) (by omega)⟩, _, rfl, _, rfl, a, 7, rfl, rfl, _, 13, rfl, rfl, (by show (0 : Int) < 13; decide), p3, prL, _, _, rfl, rfl, hL, i3, _, q3, rfl, rfl, q30, ?_⟩
      have y0 := Int.emod_nonneg ((two + on2 % 1009 + a) ^ (3 : Int).toNat) (Int.ne_of_gt q30)
      dsimp only
      generalize e4 : (two + on2 % 1009 + a) ^ (3 : Int).toNat % q3 = three at y0 ⊢
      clear e4
      refine ⟨_, rfl, on2, 2147483647, rfl, rfl, .inr ⟨by decide, by decide⟩, _, rfl, _, _, rfl, rfl, _, 2147483647, rfl, rfl, .inr ⟨by decide, by decide⟩, _, rfl, _, _, rfl, rfl, ?_⟩
      refine q _ _ ?_ s3
      have z1 : 0 ≤ on2 * 2147483647 := Int.mul_nonneg w0 (by decide)
      have z2 : 0 ≤ (on2 * 2147483647 + two) * 2147483647 := Int.mul_nonneg (by omega) (by decide)
      omega
theorem scOpen : FnScope ["script", "cells", "k", "cell"] ["script"] (defScope sOpen) := ⟨rfl, rfl, rfl, by decide +kernel, rfl, by decide +kernel, by decide +kernel⟩
theorem ok_open {f : Addr} {fd : FuncData} {k : Nat} (F : Fun K "_law_open" "_law_open" sOpen f fd) (ml : mg "list" = none) (me : mg "enumerate" = none) : FnOk P w K mg base CX0 (k + 1) f fd ["script"] (spOpen K) := by
  refine F.ok scOpen (fun vs H Q E h => ?_) (fun cdv A outer s H vs Q E hr h => ?_)
  · obtain ⟨a, ns, rfl, _⟩ := h
    rfl
  · obtain ⟨a, ns, rfl, hS, hlen, q⟩ := h
    refine ⟨_, pss_cons (ps_set (i := 1) scOpen.nd rfl (.inl rfl) (pe_callTy call_list_of (by rfl) ml (by decide +kernel) (pa_cons (pe_slice sl_list (pv 0) po_none (po_some pe_int)) pa_nil)))
      (pss_cons (ps_for PassesOwn.never rfl (pi_enum (by rfl) me (pa_cons (pe_slice sl_list (pv 0) (po_some pe_int) (po_some pe_int)) pa_nil))
          (pg_tup rfl (pgs_cons (pg_name (i := 2) scOpen.nd rfl (.inl rfl)) (pgs_cons (pg_name (i := 3) scOpen.nd rfl (.inl rfl)) pgs_nil)))
          (pss_one (ps_asg (pe_op op_add (pe_ix ix_list (pv 1) (pe_op op_mod (pv 2) pe_int) (fun _ _ => rfl)) (pv 3)) (pg_sub (pv 1) (pe_op op_mod (pv 2) pe_int) set_list))))
      (pss_one (ps_ret (pe_lst (pa_cons (pv 1) (pa_cons pe_int (pa_cons pe_int pa_nil))))))), ?_⟩
    -- cells = list(script[:12])
    refine ⟨_, rfl, 12, rfl, a, _, rfl, hS, fun p1 n1 => ?_⟩
    rw [cut12]
    have s1 := same_upd (o := .lst ((ns.take 12).map V.int)) n1
    refine ⟨p1, _, rfl, .inl (SqL.of upd_same), fun c nc => ?_⟩
    have s2 := s1.trans (same_upd (o := .lst ((ns.take 12).map V.int)) nc)
    have nHc : H c = none := s1.free nc
    -- enumerate(script[12:63])
    refine ⟨_, rfl, 12, rfl, 63, rfl, a, _, rfl, s2.seq hS, fun p2 n2 => ?_⟩
    obtain ⟨ms, em, hm⟩ : ∃ ms : List Int, cutV (ns.map V.int) (some 12) (some 63) = ms.map V.int ∧ (ms = [] ∨ 12 ≤ ns.length) := by
      by_cases h : 12 ≤ ns.length
      · obtain ⟨ms, e, _⟩ := cut_ints ns (some 12) (some 63)
        exact ⟨ms, e, .inr h⟩
      · exact ⟨[], cut1263 ns (by omega), .inl rfl⟩
    rw [em]
    have s3 := s2.trans (same_upd (o := .lst (ms.map V.int)) n2)
    have ncp2 : c ≠ p2 := ne_of_none (upd_same) n2
    refine ⟨p2, ms.map V.int, rfl, SqL.of upd_same, ?_⟩
    refine for_it (walk_enum (K := K) (a := p2) (xs := ms.map V.int)) (fun i σ H2 => ∃ (y2 y3 : Option V) (cs : List Int), σ = [some (.ref a), some (.ref c), y2, y3] ∧ Same H H2 ∧ H2 c = some (.lst (cs.map V.int)) ∧ H2 p2 = some (.lst (ms.map V.int)) ∧ cs.length = min 12 ns.length)
      ⟨none, none, ns.take 12, rfl, s3, ?_, upd_same, by rw [List.length_take]⟩ ?_ ?_ ?_
    · rw [upd_ne ncp2, upd_same]
    · rintro i σ H2 _ ⟨_, _, _, _, _, _, h2, _⟩
      exact SqL.of h2
    · rintro i x σ H2 H3 hi ⟨y2, y3, cs, rfl, sm, hc, hp, hl⟩ ⟨T, x1, x2, rfl, nT, rfl, f1, f2⟩
      have f1 := Option.some.inj f1
      subst f1
      obtain ⟨z, hz, rfl⟩ := ints_get f2
      have hne : 12 ≤ ns.length := by
        rcases hm with rfl | h
        · simp at hz
        · exact h
      rw [Nat.min_eq_left hne] at hl
      have ncT : c ≠ T := ne_of_none hc nT
      have npT : p2 ≠ T := ne_of_none hp nT
      have h0 := Int.emod_nonneg (i : Int) (by decide : (12 : Int) ≠ 0)
      have h1 := Int.emod_lt_of_pos (i : Int) (by decide : (0 : Int) < 12)
      obtain ⟨u, hu⟩ := at_ints (ns := cs) h0 (by omega)
      have hcT : ∀ o, (upd H2 T o) c = some (.lst (cs.map V.int)) := fun o => by
        rw [upd_ne ncT]
        exact hc
      refine ⟨T, _, rfl, SqT.of upd_same, rfl, _, _, rfl, _, _, rfl, rfl, ?_⟩
      refine ⟨_, rfl, _, rfl, i, 12, rfl, rfl, (by show (0 : Int) < 12; decide), c, _, _, _, rfl, rfl, SqL.of (hcT _), hu, _, rfl, u, z, rfl, rfl, ?_⟩
      refine ⟨_, rfl, _, rfl, i, 12, rfl, rfl, (by show (0 : Int) < 12; decide), c, _, _, _, rfl, rfl, hcT _, ixN_of h0 (by rw [List.length_map]; omega), ?_⟩
      refine ⟨_, _, cs.set ((i : Int) % 12).toNat (u + z), rfl, fun b o e => ?_, ?_, ?_, ?_⟩
      · rw [upd_ne (ne_of_none e nHc), upd_ne (ne_of_none (sm _ _ e) nT)]
        exact sm _ _ e
      · rw [upd_same, List.map_set]
      · rw [upd_ne (Ne.symm ncp2), upd_ne npT]
        exact hp
      · rw [List.length_set]
        omega
    · rintro σ H2 ⟨y2, y3, cs, rfl, sm, hc, hp, hl⟩
      refine ⟨_, rfl, by show 3 ≤ sizeLine; decide, fun p np => ?_⟩
      have s4 := same_upd (o := .lst [V.ref c, V.int 0, V.int 0]) np
      exact q _ p c cs (sm.trans s4) ⟨⟨0, 0, upd_same, by omega, by omega, by omega⟩, s4 _ _ hc⟩ (sm.free np)
theorem scTake : FnScope ["pen", "amount", "at", "cell", "found"] ["pen", "amount"] (defScope sTake) := ⟨rfl, rfl, rfl, by decide +kernel, rfl, by decide +kernel, by decide +kernel⟩
theorem ok_take {f fS : Addr} {fd fdS : FuncData} {k : Nat} (F : Fun K "_law_take" "_law_take" sTake f fd) (FS : Fun K "_law_spread" "_law_spread" sSpread fS fdS) (bS : Binds K fdS ["cell", "at"] []) (gS : mg "_law_spread" = some (.ref fS)) (ml : mg "len" = none) :
    FnOk P w K mg base CX0 (k + 2) f fd ["pen", "amount"] spTake := by
  have GS : FnOk P w K mg base CX0 (k + 1) fS fdS ["cell", "at"] spSpread := ok_spread FS
  refine F.ok scTake (fun vs H Q E h => ?_) (fun cdv A outer s H vs Q E hr h => ?_)
  · obtain ⟨p, c, ns, n, m, rfl, _⟩ := h
    rfl
  · obtain ⟨p, c, ns, n, m, rfl, hP, hn, m0, m1, q⟩ := h
    have hn' : (n : Int) < 1000000 := by unfold penMost at hn; omega
    have hcp := hP.ne
    obtain ⟨⟨at_, left, hp, a0, a1, l0⟩, hc⟩ := hP
    have SP : ∀ {H1 : Hp} {xs : List V}, H1 p = some (.lst xs) → SqL K H1 p xs := fun h => SqL.of h
    refine ⟨_, pss_cut (ps_if (pt_cmpR op_lt (pe_ix ix_list (pv 0) pe_int (fun _ _ => rfl)) (pv 1) (nomark _))
        (pss_cons (ps_set (i := 2) scTake.nd rfl (.inl rfl) (pe_ix ix_list (pv 0) pe_int (fun _ _ => rfl)))
        (pss_cons (ps_set (i := 3) scTake.nd rfl (.inl rfl) pe_int)
        (pss_cut (ps_if (pt_cmpR op_lt (pv 2) (pe_callB call_len_seq (by rfl) ml PySem.boot_len (pa_cons (pe_ix ix_list (pv 0) pe_int (fun _ _ => rfl)) pa_nil)) (nomark _))
            (pss_one (ps_set (i := 3) scTake.nd rfl (.inl rfl) (pe_ix ix_list (pe_ix ix_list (pv 0) pe_int (fun _ _ => rfl)) (pv 2) (fun _ _ => rfl))))
            (pss_one (ps_if (pt_cmpR op_gt (pe_callB call_len_seq (by rfl) ml PySem.boot_len (pa_cons (pe_ix ix_list (pv 0) pe_int (fun _ _ => rfl)) pa_nil)) pe_int (nomark _))
              (pss_one (ps_set (i := 3) scTake.nd rfl (.inl rfl) (pe_op op_mod (pe_ix ix_list (pe_ix ix_list (pv 0) pe_int (fun _ _ => rfl)) (pe_op op_mod (pe_op op_add (pe_op op_mul (pv 2) pe_int) pe_int) (pe_callB call_len_seq (by rfl) ml PySem.boot_len (pa_cons (pe_ix ix_list (pv 0) pe_int (fun _ _ => rfl)) pa_nil))) (fun _ _ => rfl))
                (pe_op op_add (pe_op op_pow pe_int pe_int) (pv 2))))) pss_nil)))
        (pss_cons (ps_asg (pe_op op_add (pv 2) pe_int) (pg_sub (pv 0) pe_int set_list))
        (pss_one (ps_asg (pe_call GS hr (by rfl) gS FS.kp bS .nil pass0 (pa_cons (pv 3) (pa_cons (pv 2) pa_nil))) (pg_sub (pv 0) pe_int set_list)))))))
        pss_nil)
      (pss_cons (ps_set (i := 4) scTake.nd rfl (.inl rfl) (pe_op op_mod (pe_ix ix_list (pv 0) pe_int (fun _ _ => rfl)) (pv 1)))
      (pss_cons (ps_asg (pe_op op_fdiv (pe_ix ix_list (pv 0) pe_int (fun _ _ => rfl)) (pv 1)) (pg_sub (pv 0) pe_int set_list))
      (pss_one (ps_ret (pv 4))))), ?_⟩
    -- behind the if: the pen's list again
    refine ⟨fun σ H1 => ∃ (y2 y3 y4 : Option V) (at1 l1 : Int), σ = [some (.ref p), some (.int m), y2, y3, y4] ∧ Kp p H H1 ∧ H1 p = some (.lst [.ref c, .int at1, .int l1]) ∧ 0 ≤ at1 ∧ at1 ≤ (n : Int) + 1 ∧ 0 ≤ l1, ?_, ?_⟩
    · refine ⟨_, rfl, p, _, 2, .int left, rfl, rfl, SP hp, atI_nat (j := 2) rfl, _, rfl, left, m, rfl, rfl, _, rfl, ?_⟩
      refine ite2 (fun hlt => ?_) (fun _ => ?_)
      · refine ⟨_, rfl, p, _, 1, .int at_, rfl, rfl, SP hp, atI_nat (j := 1) rfl, ?_⟩
        -- the cell
        refine ⟨fun σ H1 => H1 = H ∧ ∃ (z : Int) (y4 : Option V), σ = [some (.ref p), some (.int m), some (.int at_), some (.int z), y4], ?_, ?_⟩
        · refine ⟨_, rfl, _, rfl, p, _, 0, .ref c, rfl, rfl, SP hp, atI_nat (j := 0) rfl, c, _, rfl, .inl (SqL.of hc), at_, _, rfl, rfl, _, rfl, ?_⟩
          refine ite2 (fun h1 => ?_) (fun h1 => ?_)
          · have h1 := of_decide_eq_true h1
            rw [List.length_map] at h1
            obtain ⟨z, hz⟩ := at_ints (ns := ns) a0 h1
            exact ⟨_, rfl, p, _, 0, .ref c, rfl, rfl, SP hp, atI_nat (j := 0) rfl, _, rfl, c, _, at_, _, rfl, rfl, SqL.of hc, hz, rfl, z, _, rfl⟩
          · refine ⟨_, rfl, p, _, 0, .ref c, rfl, rfl, SP hp, atI_nat (j := 0) rfl, c, _, rfl, .inl (SqL.of hc), _, 0, rfl, rfl, _, rfl, ?_⟩
            refine ite2 (fun h2 => ?_) (fun h2 => ?_)
            · have h2 := of_decide_eq_true h2
              rw [List.length_map] at h2
              have k0 := Int.emod_nonneg (at_ * 5 + 3) (Int.ne_of_gt h2)
              have k1 := Int.emod_lt_of_pos (at_ * 5 + 3) h2
              obtain ⟨z, hz⟩ := at_ints (ns := ns) k0 k1
              refine ⟨_, rfl, p, _, 0, .ref c, rfl, rfl, SP hp, atI_nat (j := 0) rfl, _, rfl, at_, 5, rfl, rfl, .inr ⟨by decide, by decide⟩, _, 3, rfl, rfl, _, rfl, p, _, 0, .ref c, rfl, rfl, SP hp, atI_nat (j := 0) rfl, c, _, rfl, .inl (SqL.of hc), _, _, rfl, rfl, by rw [List.length_map]; exact h2, c, _, _, _, rfl, rfl, SqL.of hc, by rw [List.length_map]; exact hz, 10, 17, rfl, rfl, ⟨by decide, by decide, by decide⟩, _, rfl, _, at_, rfl, rfl, z, _, rfl, rfl, ?_, rfl, _, _, rfl⟩
              have : (0 : Int) < 10 ^ (17 : Int).toNat := by decide
              show (0 : Int) < 10 ^ (17 : Int).toNat + at_
              omega
            · exact ⟨rfl, 0, _, rfl⟩
        · rintro σ H1 ⟨rfl, z, y4, rfl⟩
          refine ⟨_, rfl, at_, 1, rfl, rfl, _, rfl, p, _, 1, 1, rfl, rfl, hp, rfl, ?_⟩
          refine ⟨_, rfl, _, rfl, z, at_, rfl, a0, by omega, fun r H2 r0 s2 => ?_⟩
          have hp2 := s2 _ _ (upd_same (H := H1) (a := p) (o := .lst ([V.ref c, V.int at_, V.int left].set 1 (V.int (at_ + 1)))))
          refine ⟨_, rfl, p, _, 2, 2, rfl, rfl, hp2, rfl, ?_⟩
          refine ⟨_, _, _, at_ + 1, r, rfl, ?_, upd_same, by omega, by omega, r0⟩
          exact ((kp_upd p H1 _).same s2).trans (kp_upd p H2 _)
      · exact ⟨_, _, _, at_, left, rfl, Kp.refl p H, hp, a0, by omega, l0⟩
    · rintro σ H1 ⟨y2, y3, y4, at1, l1, rfl, kp, h1, b0, b1, c0⟩
      refine ⟨_, rfl, p, _, 2, .int l1, rfl, rfl, SP h1, atI_nat (j := 2) rfl, _, rfl, l1, m, rfl, rfl, by show (0 : Int) < m; omega, ?_⟩
      refine ⟨_, rfl, p, _, 2, .int l1, rfl, rfl, SP h1, atI_nat (j := 2) rfl, _, rfl, l1, m, rfl, rfl, ⟨by omega, by omega⟩, _, rfl, p, _, 2, 2, rfl, rfl, h1, rfl, ?_⟩
      refine ⟨_, rfl, q _ _ (Int.emod_nonneg l1 (by omega)) (Int.emod_lt_of_pos l1 (by omega)) (kp.trans (kp_upd p H1 _)) ⟨⟨at1, l1 / m, upd_same, b0, by omega, Int.ediv_nonneg c0 (by omega)⟩, ?_⟩⟩
      rw [upd_ne hcp]
      exact kp _ _ hc hcp
end
/-! ### refusals made by hand: their classes, as the written part tells them -/
open NdefX (NF NScope nscope_by CellsAt ncx startF envF inv_startN)
open PySem.W (kxs_mw)
def iA (f : Str) (p1 p2 : Pos) : Arguments := { posonlyargs := [], args := [{ arg := "self", annotation := none, pos := p1 }, { arg := f, annotation := none, pos := p2 }], vararg := none, kwonlyargs := [], kw_defaults := [], kwarg := none, defaults := [] }
def iB (f txt : Str) (q0 q1 q2 q3 q4 q5 r1 r2 r3 r4 : Pos) : List Stmt :=
  [.Expr (.Call (.Attribute (.Call (.Name "super" q0) [] [] q1) "__init__" q2) [.Constant (.str txt) 0 q3] [] q4) q5, .Assign [.Attribute (.Name "self" r1) f r2] (.Name f r3) r4]
def iS (f : Str) : Scope := { kind := .function, names := [(PySem.Str.ofString "self", .local), (f, .local), (PySem.Str.ofString "__class__", .free), (PySem.Str.ofString "super", .globalImplicit)], isGenerator := false, isCoroutine := false, more := [] }
/-- an exception object at a of the class at C: without a dict, or with one of one field -/
def Xo (H : Hp) (a C : Addr) : Option (Str × V) → Prop
  | none => H a = some (exo a C none)
  | some fv => ∃ d, H a = some (exo a C (some d)) ∧ H d = some (exd d [fv])
theorem Xo.same {H H' : Hp} {a C : Addr} {o : Option (Str × V)} (h : Xo H a C o) (s : Same H H') : Xo H' a C o := by
  cases o with
  | none => exact s _ _ h
  | some fv =>
    obtain ⟨d, h1, h2⟩ := h
    exact ⟨d, s _ _ h1, s _ _ h2⟩
section
open PySem.W
variable {prog : Program} {w : World} {A : Around} {E : Value → Shared → Prop} {h : Heap} {g : Array GenState} {d : Drawn} {t : Nat} {os : OsState}
theorem call_mw {C u e t0 : Addr} {rest : List Value} {nm qn : Str} {N : Addr} {bs bm : List Value} {hdct : Bool} {sn : List Str} {sub : List Value} {ab : Bool} {col : Option Bool} {dd : Option Addr} {k0 k1 k2 k3 k5 : Option Value} {Q : Value → Shared → Prop}
    (hC : h.get? C = some (excClassObj nm qn C N bs bm hdct sn sub ab col dd k0 k1 k2 k3 k5 "ValueError.__new__")) (he : h.get? e = some (PySem.HandSPX.excO C t0)) (hu : h.get? u = some (kxs_mw "ValueError.__init__" e)) (hrest : rest.length ≤ sizeLine)
    (hq : ∀ h' t1, (∀ b o, b ≠ e → h.get? b = some o → h'.get? b = some o) → h'.get? e = some (PySem.HandSPX.excO C t1) → Q .none ⟨h', g, d, t, os⟩) :
    wpAny (model prog w) A (call (.ref u) rest) Q E ⟨h, g, d, t, os⟩ := by
  refine wpAny_call (codeAny_of_tree ?_)
  show wpAny _ A.in1 (callAny (.ref u) ⟨rest, []⟩) _ _ _
  simp only [callAny]
  refine wpAny_bind (wpAny_load hu ?_)
  simp only [kxs_mw, show (Value.type "method-wrapper" == Value.type "method" || Value.type "method-wrapper" == Value.type "builtin_function_or_method" || Value.type "method-wrapper" == Value.type "method-wrapper") = true by decide, if_true]
  refine KFB.if_so (by decide) ?_
  refine wpAny_bind (check_bound_init PySem.F.excBase_ValueError.toExcCallFacts hC he rfl ?_)
  refine wpAny_bind (wpAny_pure (wpAny_pure ?_))
  refine ⟨plainId_quiet PySem.F.excBase_ValueError.init.plain _, codeAny_builtin PySem.F.excBase_ValueError.initEntry ?_⟩
  exact exc_init_tree (cls := .ref C) (t0 := t0) (dv := none) (c2 := .none) (c3 := .none) (b4 := .bool false) he hrest fun h' k e' _ => hq h' _ k e'
end
theorem eval_sup {q0 q1 q2 q3 q4 : Pos} {txt : Str} {env : Env} (hline : (q2.endLine == q4.line) = true) : eval (.Call (.Attribute (.Call (.Name "super" q0) [] [] q1) "__init__" q2) [.Constant (.str txt) 0 q3] [] q4) env = (do
    let ov ← attributeBase (.Call (.Name "super" q0) [] [] q1) "__init__" env (eval (.Call (.Name "super" q0) [] [] q1) env)
    standAt q2.atName
    let (f, first) ← holding [ov] (getMethod ov "__init__" (do return (← importBound (.Call (.Name "super" q0) [] [] q1) env).getD true))
    callWith q4 f first (backTo q4 (starEach [.Constant (.str txt) 0 q3] env)) []) := by
  rw [arm_eval_Call]
  unfold methodCall methodCallPos calleeOf
  rw [show methodCallForm ([Expr.Constant (Const.str txt) 0 q3].length + ([] : List Keyword).length) (backTo q4 (starEach [Expr.Constant (Const.str txt) 0 q3] env)) (backToKw q4 (keywordEach [] env)) = true from rfl, hline]
  rfl
structure InitTxt (P : Program) (K : PySem.W.Frag) (mg : Str → Option Value) (C fI : Addr) (f : Str) : Prop where
  T : OexC K C
  noF : PySem.W.findIn K (.ref C) f = some none
  iC : PySem.W.findIn K (.ref C) "__init__" = some (some (.ref fI))
  tI : PySem.W.typeIn K (.ref fI) = some (.type "function")
  fn : ∃ (qual txt : Str) (cc cda : Addr) (p1 p2 q0 q1 q2 q3 q4 q5 r1 r2 r3 r4 : Pos) (oc : Value) (od : Option Addr) (doc pm ctv : Value) (osl : Array (Option Value)) (ccl : Value) (cdd : Option Addr) (vs : Array Value) (ccs : Array (Option Value)) (file : Str) (tf : Tok) (cl : Value) (cld : Option Addr) (csl : Array (Option Value)),
    (q2.endLine == q4.line) = true ∧ K.lookup fI = some ⟨oc, od, .func ((⟨"__init__", qual, iA f p1 p2, iB f txt q0 q1 q2 q3 q4 q5 r1 r2 r3 r4, iS f, [("__class__", cc)], cda⟩ : NF).fd doc pm ctv), osl⟩ ∧ PySem.W.codeIn K (.ref cda) qual = true ∧
      K.lookup cda = some ⟨ccl, cdd, .fields vs, ccs⟩ ∧ vs[2]? = some (.str file tf) ∧ ((P.main.file : Str) == file) = true ∧ K.lookup cc = some ⟨cl, cld, .cell (some (.ref C)), csl⟩
  cd : (PySem.W.clsIn K C).isSome = true
  sub : PySem.W.mroIn K C (.ref C) = some true
  noSup : mg "super" = none
  htop : (P.main.scope.names.lookup ("super" : Str)).isSome = false
  st : PySem.W.nsIn K cStatics "thirdparty.any" = some none
  along : PySem.W.ks_superIn K C C "__init__" = some (some (.builtin "ValueError.__init__"))
  hB : PySem.W.subIn K (.ref C) (.type "ValueError") = some true
/-- its __init__: the field is kept, in a new dict -/
def spInit (C : Addr) (f : Str) : Sp := fun vs H Q _ => ∃ (a : Addr) (v : V), vs = [.ref a, v] ∧ H a = some (exo a C none) ∧ ∀ d, H d = none → d ≠ a → Q .non (upd (upd H d (exd d [(f, v)])) a (exo a C (some d)))
/-- what is asked of the field's name -/
structure FName (f : Str) : Prop where
  sc : NScope ["self", f, "__class__"] ["self", f] ["__class__"] (iS f)
  sup : (iS f).names.lookup ("super" : Str) = some .globalImplicit
  cls : (iS f).names.lookup ("__class__" : Str) = some .free
  slf : (iS f).names.lookup ("self" : Str) = some .local
  fl : (iS f).names.lookup f = some .local
  nd : (f == ("__debug__" : Str)) = false
  nc : (f == ("__classdict__" : Str)) = false
  cs : f = "number" ∨ f = "name" ∨ f = "most"
section
open PySem.W
variable {P : Program} {w : World} {K : PySem.W.Frag} {mg : Str → Option Value} {base : Heap}
theorem ok_init {C fI : Addr} {f : Str} (Z : InitTxt P K mg C fI f) (D : FName f) : ∃ fd, FnOk P w K mg base CX0 1 fI fd ["self", f] (spInit C f) ∧ Binds K fd ["self", f] [] := by
  obtain ⟨qual, txt, cc, cda, p1, p2, q0, q1, q2, q3, q4, q5, r1, r2, r3, r4, oc, od, doc, pm, ctv, osl, ccl, cdd, cvs, ccs, file, tf, cl, cld, csl, hline, lk, hcd, lkc, hfl, hfile, lcell⟩ := Z.fn
  generalize hF : (⟨"__init__", qual, iA f p1 p2, iB f txt q0 q1 q2 q3 q4 q5 r1 r2 r3 r4, iS f, [("__class__", cc)], cda⟩ : NF) = F at lk
  refine ⟨F.fd doc pm ctv, ⟨fun vs H Q E h => ?_, fun A outer s H args us vs Q E hr e0 hb r hsp => ?_⟩, fun h us hX hl => ?_⟩
  · obtain ⟨a, v, rfl, _⟩ := h
    rfl
  · obtain ⟨a, v, rfl, ha, q⟩ := hsp
    have KX : K.In s.heap := e0.mod.kin.keeps fun b o e => (e0.bs b o e).1
    have lim : s.heap.NoLimit := e0.mod.nolimit.keeps fun b o e => (e0.bs b o e).1
    have hFs : F.scope = iS f := by rw [← hF]
    have S : NScope ["self", f, "__class__"] ["self", f] ["__class__"] F.scope := by rw [hFs]; exact D.sc
    have hbase : base.get? cc = some ⟨cl, cld, .cell (some (.ref C)), csl⟩ := e0.mod.kin _ _ lcell
    have CA : CellsAt F.cl ["__class__"] [some (.ref C)] s.heap H := by
      rw [← hF]
      have one : ∀ (y : Str) (c : Addr), List.lookup y [(("__class__" : Str), cc)] = some c → y = "__class__" ∧ c = cc := fun y c e => by
        rw [List.lookup_cons] at e
        split at e
        · rename_i hy
          exact ⟨by simpa using hy, (Option.some.inj e).symm⟩
        · cases e
      have cell : s.heap.IsCell cc (some (.ref C)) := ⟨_, KX _ _ lcell, rfl⟩
      refine ⟨rfl, fun y c e => ?_, fun x y c e1 e2 => ?_, fun i y e => ?_⟩
      · obtain ⟨_, rfl⟩ := one y c e
        exact ⟨(e0.bs _ _ hbase).2, _, cell⟩
      · rw [(one x c e1).1, (one y c e2).1]
      · match i, e with
        | 0, e =>
          obtain rfl : ("__class__" : Str) = y := Option.some.inj e
          refine ⟨cc, by simp [List.lookup], fun v hv => ?_⟩
          obtain rfl : V.ref C = v := Option.some.inj (Option.some.inj hv)
          exact ⟨.ref C, rfl, cell⟩
        | i + 1, e => cases e
    have hl : us.length = 2 := by rw [← Paired.length r]; rfl
    obtain ⟨hp, g, d, tk, os⟩ := s
    refine ks_codeAny_call_defAt (fd := F.fd doc pm ctv) (body := F.body) hr.depth (KX _ _ lk) rfl lim (PySem.W.codeRec_of KX (by show PySem.W.codeIn K (.ref F.c) F.qual = true; rw [← hF]; exact hcd)) rfl hb ?_ ?_ (fun h₀ hns kp => ?_) S.co S.gen S.kind
    · exact S.nocell
    · rintro ⟨n, u⟩ hy
      exact S.par n (List.of_mem_zip hy).1
    have I0 : L2.Inv (ncx CX0 P w K mg base ["self", f, "__class__"] F fI A outer ⟨hp, g, d, tk, os⟩ H E) [] (startF ["self", f, "__class__"] [.ref a, v] [some (.ref C)]) H { (⟨hp, g, d, tk, os⟩ : Shared) with heap := h₀, toks := tk + ((["self", f] : List Str).zip us).length } := inv_startN S hr.hd e0 rfl r CA hns kp
    obtain ⟨nm, qn, N, bs, bm, sn, sub, ab, col, dd, k0, k1, k2, k3, k5, hC, hbm⟩ := Z.T.cls
    obtain ⟨cdC, hcd2⟩ := Option.isSome_iff_exists.mp Z.cd
    obtain ⟨oD, hD1, hD2⟩ : ∃ oD, K.lookup C = some oD ∧ oD.data = .cls cdC := by
      have hcd3 := hcd2
      unfold PySem.W.clsIn at hcd3
      split at hcd3
      · rename_i c d' cd' sl ho
        cases hcd3
        exact ⟨_, ho, rfl⟩
      · cases hcd3
    have X0 : K.In h₀ := KX.keeps kp
    obtain ⟨t0, hx0⟩ := exo_at e0.hok ha
    have hx1 := kp _ _ hx0
    obtain ⟨mb, hb1, hb2⟩ := e0.mod.blt
    have bk : ∀ b o, base.get? b = some o → h₀.get? b = some o := fun b o e => kp _ _ (e0.bs b o e).1
    have usv : us = [Value.ref a, us.getD 1 .none] := by
      match us, r with
      | [u0, u1], .cons r0 _ =>
        obtain rfl : u0 = Value.ref a := r0
        rfl
    have hself : ((["self", f] : List Str).zip us).reverse.lookup ("self" : Str) = some (Value.ref a) := by
      refine NdefX.zip_look (i := 0) ?_ rfl ?_
      · exact S.nd.sublist (by exact List.take_sublist 2 (["self", f, "__class__"] : List Str))
      · rw [usv]
        rfl
    subst hF
    show PySem.wpAt _ _ _ (execs (iB f txt q0 q1 q2 q3 q4 q5 r1 r2 r3 r4) _) _ _ _
    refine ks_wpAt_execs_cons (ks_wpAt_Expr_any (ks_wpAt_MethodCall ?_ (eval_sup hline)))
    refine ks_wpAt_super_base (ar := { arg := "self", annotation := none, pos := p1 }) D.sup D.cls (by decide) rfl (X0 _ _ lk) rfl rfl rfl (X0 _ _ lkc) rfl hfl hfile Z.htop ?_
    refine ks_loadName_global rfl D.sup (Calls.loadGlobal_builtin (e0.mod.glob.keeps bk) Z.noSup (hb1.keeps bk) ((hb2 _ (by decide)).trans (by decide +kernel)) ⟨rfl, ?_⟩)
    refine wpAny_loadName_free (c := cc) rfl D.cls (by first | rfl | simp [List.lookup]) ⟨_, X0 _ _ lcell, rfl⟩ ?_
    refine wpAny_loadName_local rfl D.slf hns hself ?_
    refine ks_wpAny_isType_cls (X0 _ _ hD1) hD2 ⟨rfl, ?_⟩
    refine ks_wpAny_call_super (X0 _ _ hD1) hD2 hx1 rfl (fun c e => by cases e) (looks_mroIn X0 Z.sub) (fun h1 eso k1 => ?_)
    have X1 : K.In h1 := X0.keeps k1
    have hx2 := k1 _ _ hx1
    have IA : PySem.W.InstAt h1 a (PySem.HandSPX.excO C t0) C none := ⟨hx2, rfl, rfl, trivial⟩
    have hal : alongIn K "__init__" ((cdC.mro.dropWhile (· != .ref C)).drop 1) = some (some (.builtin "ValueError.__init__")) := by
      have z := Z.along
      unfold PySem.W.ks_superIn at z
      rw [hcd2] at z
      exact z
    refine kxs_getMethod kxs_ValueError eso (looks_opaque X1 Z.st) (l₀ := cdC.mro) (fun A Q E s k q => wpAny_bind ((looks_clsIn X1 hcd2) A _ E s k (wpAny_pure q))) rfl X1 hal (IA.type.andThen (looks_subIn X1 Z.hB)) (ks_ne X1 IA hcd2) (by decide) ?_
    refine kxs_callWith (i := "ValueError.__init__") (x := a) (by rfl) (Calls.evalArgs_plain (Calls.spliced_cons (Calls.Constant_str (k := 0) (pos := q3) (Calls.spliced_nil ⟨Heap.get?_push_size _ rfl, ?_⟩))))
    refine call_mw (t0 := t0) (Heap.get?_push_of_some _ (X1 _ _ hC)) (Heap.get?_push_of_some _ hx2) (Heap.get?_push_size _ rfl) (by show 1 ≤ sizeLine; rw [sizeLine_eq]; omega) (fun h2 t2 k2 hx3 => ?_)
    have J1 := I0.kept (t' := tk) (h' := h1.push (kxs_mw "ValueError.__init__" a)) (fun b o e => Heap.get?_push_of_some _ (k1 b o e))
    have J2 := J1.write (x := a) (e := a) (o := exo a C none) (h' := h2) (t' := tk + ((["self", f] : List Str).zip us).length + 1 + 1) (by rw [ha]; exact True.intro) (.inl rfl) k2 ⟨_, hx3⟩ (exo_ok hx3)
    have eu : upd H a (exo a C none) = H := by
      funext b
      by_cases hb : b = a
      · rw [hb, upd_same, ha]
      · rw [upd_ne hb]
    rw [eu] at J2
    refine PySem.wpAt_of_wpAny ?_
    have rest : PSs (ncx CX0 P w K mg base ["self", f, "__class__"] (⟨"__init__", qual, iA f p1 p2, iB f txt q0 q1 q2 q3 q4 q5 r1 r2 r3 r4, iS f, [("__class__", cc)], cda⟩ : NF) fI A outer ⟨hp, g, d, tk, os⟩ H E) [.Assign [.Attribute (.Name "self" r1) f r2] (.Name f r3) r4] _ := pss_one (ps_ost (f := f) (pv 0 rfl (.inl D.slf)) (pv 1 rfl (.inl D.fl) D.nd D.nc))
    refine wpAny_mono (rest.run [] _ _ H { nx := fun _ H' => Q .non H', rt := Q } J2 ?_) (fun fl s' hs => ?_) fun e s' hs => hs
    · exact ⟨v, rfl, .ref a, rfl, a, C, rfl, Z.T, Z.noF, .inl ⟨ha, fun dx nd ne => q dx nd ne⟩⟩
    · have fin : ∀ {σ' : L2.St} {H' : Hp} {v : V} {u : Value}, L2.Inv (ncx CX0 P w K mg base ["self", f, "__class__"] (⟨"__init__", qual, iA f p1 p2, iB f txt q0 q1 q2 q3 q4 q5 r1 r2 r3 r4, iS f, [("__class__", cc)], cda⟩ : NF) fI A outer ⟨hp, g, d, tk, os⟩ H E) [] σ' H' s' → L2.RelV v u → Q v H' → CE outer P w H ⟨hp, g, d, tk, os⟩ Q u s' :=
        fun {σ' H' v u} J rv q => ⟨v, H', J.os, J.bare, J.base, J.hok, rv, q⟩
      cases fl with
      | ret u =>
        obtain ⟨v, σ', H', J, rv, q⟩ := hs
        exact fin J rv q
      | next =>
        obtain ⟨σ', H', J, q⟩ := hs
        exact fin (v := V.non) (u := Value.none) J rfl q
      | brk =>
        obtain ⟨_, _, _, q⟩ := hs
        exact False.elim q
      | cont =>
        obtain ⟨_, _, _, q⟩ := hs
        exact False.elim q
  · subst hF
    have hl : us.length = 2 := by
      rw [List.append_nil] at hl
      exact hl
    rcases D.cs with rfl | rfl | rfl <;> (match us, hl with
      | [_, _], _ => exact .of_eq rfl)
theorem fname_number : FName "number" := ⟨nscope_by (by decide +kernel), by decide +kernel, by decide +kernel, by decide +kernel, by decide +kernel, by decide, by decide, .inl rfl⟩
theorem fname_name : FName "name" := ⟨nscope_by (by decide +kernel), by decide +kernel, by decide +kernel, by decide +kernel, by decide +kernel, by decide, by decide, .inr (.inl rfl)⟩
theorem fname_most : FName "most" := ⟨nscope_by (by decide +kernel), by decide +kernel, by decide +kernel, by decide +kernel, by decide +kernel, by decide, by decide, .inr (.inr rfl)⟩
/-- C(e), C's own __init__ keeping the field f: a new exception object -/
def tMkX (C : Addr) (f : Str) (ta : TA) : TE := fun σ H Q => ta σ H fun vs H1 => ∃ v, vs = [v] ∧ ∀ a H2, H1 a = none → Same H1 H2 → Xo H2 a C (some (f, v)) → Q (.ref a) H2
theorem same_new2 {H : Hp} {a d : Addr} {o1 o2 o3 : HO} (ha : H a = none) (hd : H d = none) : Same H (upd (upd (upd H a o1) d o2) a o3) := fun b x e => by
  rw [upd_ne (ne_of_none e ha), upd_ne (ne_of_none e hd), upd_ne (ne_of_none e ha)]
  exact e
theorem pe_mkX {X : Cx} {C fI : Addr} {f x : Str} {fd : FuncData} {e : Expr} {es : List Expr} {ta : TA} {p pos : Pos} (Z : InitTxt X.prog X.K X.mg C fI f) (F1 : FnOk X.prog X.w X.K X.mg X.base CX0 1 fI fd ["self", f] (spInit C f)) (hb : Binds X.K fd ["self", f] [])
    (hr : Room 2 X.A) (kC : PySem.W.keepIn X.K (.ref C) = true) (hg : Gl X x) (hm : X.mg x = some (.ref C)) (ha : PA X (e :: es) ta)
    (hdb : (x == ("__debug__" : Str)) = false := by decide) (he : starEach (e :: es) X.env = (false, eval e X.env) :: starEach es X.env := by rfl) (hpl : (backTo pos (starEach es X.env)).any (·.1) = false := by rfl) :
    PE X (.Call (.Name x p) (e :: es) [] pos) (tMkX C f ta) := by
  refine ⟨fun pins s σ H Q I h => ?_⟩
  obtain ⟨nm, q, N, bs, bm, sn, sub, ab, col, dd, k0, k1, k2, k3, k5, hC, hbm⟩ := Z.T.cls
  refine wpAny_Call_Name_kw (ld_glob I hg hm ?_ hdb)
  refine PySem.W.callWith_K (h₀ := X.base) I.ok.mod.kin kC (thn (ha.run pos pins s σ H _ I h) fun us s1 ⟨vs, H1, I1, r1, v, ev, q1⟩ => ⟨I1.kIn, ?_⟩) he hpl
  subst ev
  show wpAny _ _ (call (.ref C) us) _ _ _
  obtain ⟨hp, g, dr, tk, os⟩ := s1
  have hsz : hp.objs.size ≤ hp.objs.size + 1 := Nat.le_succ _
  have hn : H1 (hp.objs.size + 1) = none := I1.hok.fresh hsz
  have kk : ∀ b o, hp.get? b = some o → ((hp.push (PySem.W.kdv_tup us)).push (PySem.HandSPX.excO C hp.objs.size)).get? b = some o := fun b o e => Heap.get?_push_of_some _ (Heap.get?_push_of_some _ e)
  have hget : ((hp.push (PySem.W.kdv_tup us)).push (PySem.HandSPX.excO C hp.objs.size)).get? (hp.objs.size + 1) = some (PySem.HandSPX.excO C hp.objs.size) := by heap_get
  have I2 : L2.Inv X pins σ (upd H1 (hp.objs.size + 1) (exo (hp.objs.size + 1) C none)) ⟨(hp.push (PySem.W.kdv_tup us)).push (PySem.HandSPX.excO C hp.objs.size), g, dr, tk, os⟩ :=
    I1.laid (t' := tk) (a := hp.objs.size + 1) (o := exo (hp.objs.size + 1) C none) (h' := (hp.push (PySem.W.kdv_tup us)).push (PySem.HandSPX.excO C hp.objs.size)) kk hsz (exo_ok hget)
  have r2 : Vals [V.ref (hp.objs.size + 1), v] (Value.ref (hp.objs.size + 1) :: us) := .cons rfl r1
  have hus : us.length = 1 := by
    rw [← Paired.length r1]
    rfl
  refine wpAny_call (PySem.HandSPX.call_own F.excBase_ValueError (fun Y => PySem.HandSPX.refsVE_contains Y bm hbm) (I1.kIn _ _ hC) (PySem.W.looks_findIn I1.kIn Z.iC) (fun self => PySem.W.bind_fn I1.kIn self Z.tI) (by rw [hus, sizeLine_eq]; omega)
    (codeAny_mono (F1.run _ X.stack _ _ ⟨Value.ref (hp.objs.size + 1) :: us, []⟩ (Value.ref (hp.objs.size + 1) :: us) _ (fun x H2 => x = .non ∧ Q (.ref (hp.objs.size + 1)) H2) (fun _ _ _ => False) (hr.make C us []) (I2.env0.make C us [])
      (by
        have z := hb ⟨(hp.push (PySem.W.kdv_tup us)).push (PySem.HandSPX.excO C hp.objs.size), g, dr, tk, os⟩ (Value.ref (hp.objs.size + 1) :: us) I2.kIn (by rw [List.append_nil, List.length_cons, hus]; rfl)
        rw [List.append_nil] at z
        exact z) r2 ⟨_, v, rfl, upd_same, fun d nd ne => ⟨rfl, ?_⟩⟩) fun r s' hq' => ?_))
  · have nd1 : H1 d = none := by
      rw [upd_ne ne] at nd
      exact nd
    refine q1 _ _ hn (same_new2 hn nd1) ⟨d, upd_same, ?_⟩
    rw [upd_ne ne]
    exact upd_same
  · cases r with
    | error er => exact False.elim hq'
    | ok fl =>
      cases fl with
      | ret u =>
        obtain ⟨x2, H2, I3, rv, ev, q2⟩ := I2.after hq'
        subst ev
        obtain rfl : u = Value.none := rv
        exact ⟨rfl, .ref (hp.objs.size + 1), H2, I3, rfl, q2⟩
      | next => exact False.elim hq'
      | brk => exact False.elim hq'
      | cont => exact False.elim hq'
/-- C(e), C without an own __init__ -/
def tMk0 (C : Addr) (te : TE) : TE := fun σ H Q => te σ H fun _ H1 => ∀ a H2, H1 a = none → Same H1 H2 → Xo H2 a C none → Q (.ref a) H2
theorem pe_mk0 {X : Cx} {C : Addr} {bmB : List Value} {B initId : String} {x : Str} {e : Expr} {te : TE} {p pos : Pos} (F : ExcBaseFacts B "ValueError.__new__" initId bmB) (q : PySem.W.excIn X.K C bmB "ValueError.__new__" = true) (gC : X.mg x = some (.ref C)) (kC : PySem.W.keepIn X.K (.ref C) = true) (hg : Gl X x)
    (he : PE X e te) (hs : starEach [e] X.env = (false, eval e X.env) :: starEach [] X.env := by rfl) (hdb : (x == ("__debug__" : Str)) = false := by decide) :
    PE X (.Call (.Name x p) [e] [] pos) (tMk0 C te) := by
  refine ⟨fun pins s σ H Q I h => ?_⟩
  refine wpAny_Call_Name_kw (ld_glob I hg gC ?_ hdb)
  refine PySem.W.callWith_K (h₀ := X.base) I.ok.mod.kin kC ?_ hs (by rfl)
  rw [hs]
  show wpAny _ _ (spliced ((false, eval e X.env) :: backTo pos (starEach [] X.env))) _ _ s
  refine Calls.spliced_cons (thn (he.run pins s σ H _ I h) fun u s1 ⟨v, H1, I1, r1, q1⟩ => ?_)
  refine Calls.spliced_nil ⟨I1.kIn, ?_⟩
  show wpAny _ _ (call (.ref C) [u]) _ _ _
  obtain ⟨bm, N, nm, qn, bs, hdct, sn, sub, ab, col, dd, k0, k1, k2, k3, k5, mN, hC, hN, hni, T⟩ := exc_obj I1.kIn q
  refine wpAny_call_exc_subT F T hC hN hni (fun h' a hm => ?_) (by show 1 ≤ sizeLine; rw [sizeLine_eq]; omega)
  have hn : H1 a = none := I1.hok.gone hm.new
  obtain ⟨t, ht, _, _⟩ := hm.there
  exact ⟨.ref a, upd H1 a (exo a C none), I1.laidN hm.keeps hm.new hn (exo_ok (d := none) ht), rfl, q1 a _ hn (same_upd hn) upd_same⟩
/-- what the class C must say, so that isinstance asks its instances rightly, and their fields are read -/
structure XisC (K : PySem.W.Frag) (C : Addr) : Prop where
  hc : (PySem.W.clsIn K C).isSome = true
  hg : PySem.W.findIn K (.ref C) "__getattribute__" = some (some (.builtin "BaseException.__getattribute__"))
  hk : PySem.W.findIn K (.ref C) "__getattr__" = some none
  hs : PySem.W.subIn K (.ref C) (.type "BaseException") = some true
  ha : PySem.W.findIn K (.ref C) "__class__" = some (some (.builtin "object.__class__"))
  hn : PySem.W.specialIn K (.builtin "object.__class__") "__get__" = some (some (.builtin "getset_descriptor.__get__"))
  ht : PySem.W.takesIn K (.builtin "object.__class__") = some true
  hm : PySem.W.mroIn K C (.type "object") = some true
theorem xo_at {P : Program} {w : World} {H : Hp} {h : Heap} {a C : Addr} {o : Option (Str × V)} (hok : HOk P w H h) (x : Xo H a C o) : ∃ ox od, PySem.W.InstAt h a ox C od ∧ ∀ f v, o = some (f, v) → ∃ dd mA d, ox.dict = some d ∧ h.get? d = some dd ∧ od = some dd ∧ h.Ns1 d mA ∧ ∀ g, RelO ([(f, v)].lookup g) (mA g) := by
  cases o with
  | none =>
    obtain ⟨t1, hx⟩ := exo_at hok x
    exact ⟨_, none, ⟨hx, rfl, rfl, trivial⟩, fun _ _ z => nomatch z⟩
  | some fv =>
    obtain ⟨d, h1, h2⟩ := x
    obtain ⟨t1, hx⟩ := exo_at hok h1
    obtain ⟨mA, hns, hr⟩ := exd_at hok h2
    obtain ⟨od, ho, _⟩ := lookIn_ns hns
    exact ⟨_, some od, ⟨hx, rfl, rfl, ho⟩, fun f v z => ⟨od, mA, d, rfl, ho, rfl, hns, by cases z; exact hr⟩⟩
/-- isinstance(e, c), e such an exception object -/
def rIsX (K : PySem.W.Frag) : List V → Hp → VK → Prop := fun xs H Q => ∃ (a C : Addr) (o : Option (Str × V)) (c : V) (cv : Value) (b : Bool), xs = [.ref a, c] ∧ (∀ u, RelV c u → u = cv) ∧ XisC K C ∧ Xo H a C o ∧ PySem.W.kitOne K (.ref C) cv = some b ∧ Q (.bl b) H
theorem call_isX {X : Cx} : CallR X (.builtin "isinstance") (rIsX X.K) := by
  intro pins s σ H xs us Q I r h
  obtain ⟨a, C, o, c, cv, b, rfl, hcv, D, hx, e, q⟩ := h
  cases r with
  | cons rx rr =>
    cases rr with
    | cons rt rr =>
      cases rr
      cases rx
      have ec := hcv _ rt
      subst ec
      obtain ⟨ox, od, J, _⟩ := xo_at I.hok hx
      exact PySem.W.kia_one (PySem.W.kitx_exc D.hc D.hg D.hk D.hs D.ha D.hn D.ht D.hm) I.kIn J e (fun z => nomatch z) fun tk => ⟨.bl b, H, I.kept (t' := tk) fun _ _ z => z, rfl, q⟩
/-- e.f, e such an exception object -/
def tXa (K : PySem.W.Frag) (f : Str) (te : TE) : TE := fun σ H Q => te σ H fun x H1 => ∃ (a C : Addr) (v : V), x = .ref a ∧ XfC K C ∧ PySem.W.findIn K (.ref C) f = some none ∧ Xo H1 a C (some (f, v)) ∧ Q v H1
theorem pe_xa {X : Cx} {e : Expr} {te : TE} {pos : Pos} {n : Str} (he : PE X e te) (hb : attributeBase e n X.env (eval e X.env) = eval e X.env := by rfl) : PE X (.Attribute e n pos) (tXa X.K n te) := by
  refine ⟨fun pins s σ H Q I h => ?_⟩
  refine attr_of hb (thn (he.run pins s σ H _ I h) fun u s1 hh => ?_)
  obtain ⟨x, H1, I1, rx, a, C, v, ex, T, hno, hx, q⟩ := hh
  subst ex
  obtain rfl : u = Value.ref a := rx
  obtain ⟨ox, od, J, fld⟩ := xo_at I1.hok hx
  obtain ⟨dd, mA, d, _, hd, rfl, hns, hr⟩ := fld n v rfl
  obtain ⟨od2, ho, hl⟩ := lookIn_ns hns
  have e2 : dd = od2 := Option.some.inj (hd.symm.trans ho)
  subst e2
  have l : ([(n, v)] : List (Str × V)).lookup n = some v := by simp [List.lookup]
  obtain ⟨u, hu, ru⟩ := RelO.some_of (v := v) (o := mA n) (by rw [← l]; exact hr n)
  exact PySem.HandSPX.exc_get I1.kIn J T.ga T.gg T.exC (PySem.W.findObj_own T.hdC hno rfl (by rw [hl, hu])) (handed_of ru) ⟨v, H1, I1.tok _, ru, q⟩
end
/-! ### data that stands -/
theorem _root_.L2.Same.seqT {K : PySem.W.Frag} {H H' : Hp} {a : Addr} {xs : List V} (e : Same H H') (h : SqT K H a xs) : SqT K H' a xs := by
  rcases h with (h | ⟨o, h⟩) | h
  · exact .inl (.inl (e _ _ h))
  · exact .inl (.inr ⟨o, e _ _ h⟩)
  · exact .inr h
mutual
theorem dp_same {K : PySem.W.Frag} {H H' : Hp} (s : Same H H') : ∀ {v : V} {d : PyData}, Dp K H v d → Dp K H' v d
  | _, _, .non => .non
  | _, _, .bl b => .bl b
  | _, _, .int i => .int i
  | _, _, .str x => .str x
  | _, _, .lst q r => .lst (s.seq q) (dpAll_same s r)
  | _, _, .tup q r => .tup (s.seqT q) (dpAll_same s r)
theorem dpAll_same {K : PySem.W.Frag} {H H' : Hp} (s : Same H H') : ∀ {v : List V} {d : List PyData}, DpAll K H v d → DpAll K H' v d
  | _, _, .nil => .nil
  | _, _, .cons q r => .cons (dp_same s q) (dpAll_same s r)
end
/- data without a list in it -/
mutual
def noL : PyData → Bool
  | .list _ => false
  | .tuple ds => noLAll ds
  | _ => true
def noLAll : List PyData → Bool
  | [] => true
  | d :: ds => noL d && noLAll ds
end
theorem Kp.seqT {K : PySem.W.Frag} {p a : Addr} {H H' : Hp} {l xs : List V} (e : Kp p H H') (hp : H p = some (.lst l)) (h : SqT K H a xs) : SqT K H' a xs := by
  rcases h with (h | ⟨o, h⟩) | h
  · exact .inl (.inl (e _ _ h fun z => by rw [z, hp] at h; cases h))
  · exact .inl (.inr ⟨o, e _ _ h fun z => by rw [z, hp] at h; cases h⟩)
  · exact .inr h
mutual
theorem dp_kp {K : PySem.W.Frag} {p : Addr} {H H' : Hp} {l : List V} (s : Kp p H H') (hp : H p = some (.lst l)) : ∀ {v : V} {d : PyData}, Dp K H v d → noL d = true → Dp K H' v d
  | _, _, .non, _ => .non
  | _, _, .bl b, _ => .bl b
  | _, _, .int i, _ => .int i
  | _, _, .str x, _ => .str x
  | _, _, .lst q r, h => by simp [noL] at h
  | _, _, .tup q r, h => .tup (s.seqT hp q) (dpAll_kp s hp r (by simpa [noL] using h))
theorem dpAll_kp {K : PySem.W.Frag} {p : Addr} {H H' : Hp} {l : List V} (s : Kp p H H') (hp : H p = some (.lst l)) : ∀ {v : List V} {d : List PyData}, DpAll K H v d → noLAll d = true → DpAll K H' v d
  | _, _, .nil, _ => .nil
  | _, _, .cons q r, h => by
    simp only [noLAll, Bool.and_eq_true] at h
    exact .cons (dp_kp s hp q h.1) (dpAll_kp s hp r h.2)
end
theorem dpAll_len {K : PySem.W.Frag} {H : Hp} : ∀ {vs : List V} {ds : List PyData}, DpAll K H vs ds → vs.length = ds.length
  | _, _, .nil => rfl
  | _, _, .cons _ r => by rw [List.length_cons, List.length_cons, dpAll_len r]
theorem dpAll_get {K : PySem.W.Frag} {H : Hp} : ∀ {vs : List V} {ds : List PyData} {i : Nat} {v : V}, DpAll K H vs ds → vs[i]? = some v → ∃ d, ds[i]? = some d ∧ Dp K H v d
  | _, _, _, _, .nil, h => by simp at h
  | _, _, 0, _, .cons q r, h => by
    simp at h
    subst h
    exact ⟨_, rfl, q⟩
  | _, _, i + 1, v, .cons q r, h => by
    obtain ⟨d, h1, h2⟩ := dpAll_get (i := i) (v := v) r (by simpa using h)
    exact ⟨d, by simpa using h1, h2⟩
theorem dpAll_getD {K : PySem.W.Frag} {H : Hp} : ∀ {vs : List V} {ds : List PyData} {i : Nat} {d : PyData}, DpAll K H vs ds → ds[i]? = some d → ∃ v, vs[i]? = some v ∧ Dp K H v d
  | _, _, _, _, .nil, h => by simp at h
  | _, _, 0, _, .cons q r, h => by
    simp at h
    subst h
    exact ⟨_, rfl, q⟩
  | _, _, i + 1, v, .cons q r, h => by
    obtain ⟨d, h1, h2⟩ := dpAll_getD (i := i) (d := v) r (by simpa using h)
    exact ⟨d, by simpa using h1, h2⟩
theorem dpAll_app {K : PySem.W.Frag} {H : Hp} : ∀ {vs ws : List V} {ds es : List PyData}, DpAll K H vs ds → DpAll K H ws es → DpAll K H (vs ++ ws) (ds ++ es)
  | _, _, _, _, .nil, s => s
  | _, _, _, _, .cons q r, s => .cons q (dpAll_app r s)
theorem dpAll_ints {K : PySem.W.Frag} {H : Hp} : ∀ (ns : List Int), DpAll K H (ns.map V.int) (ns.map PyData.int)
  | [] => .nil
  | _ :: r => .cons (.int _) (dpAll_ints r)
theorem dpAll_bls {K : PySem.W.Frag} {H : Hp} : ∀ (ns : List Bool), DpAll K H (ns.map V.bl) (ns.map PyData.bool)
  | [] => .nil
  | _ :: r => .cons (.bl _) (dpAll_bls r)
theorem ints_of_dp {K : PySem.W.Frag} {H : Hp} : ∀ {vs : List V} {ns : List Int}, DpAll K H vs (ns.map PyData.int) → vs = ns.map V.int
  | _, [], .nil => rfl
  | _, _ :: _, .cons q r => by
    cases q
    rw [ints_of_dp r] <;> rfl
theorem tyx_l {K : PySem.W.Frag} {H : Hp} {a : Addr} {xs : List V} (h : SqL K H a xs) : TyX K H (.ref a) (.type "list") := by
  rcases h with (h | ⟨o, h⟩) | ⟨o, its, n, h, hc, _⟩
  · exact .base (.lst h)
  · exact .base (.frz h)
  · exact .kList h hc
theorem tyx_t {K : PySem.W.Frag} {H : Hp} {a : Addr} {xs : List V} (h : SqT K H a xs) : TyX K H (.ref a) (.type "tuple") := by
  rcases h with (h | ⟨o, h⟩) | ⟨o, its, n, h, hc, _⟩
  · exact .base (.tup h)
  · exact .fTuple h
  · exact .kTuple h hc
theorem walk_zipT {K : PySem.W.Frag} {a b : Addr} {xs ys : List V} {n : Nat} (hn : n = min xs.length ys.length) : Walk (RZ.ItzT K a b) n (fun H => SqT K H a xs ∧ SqT K H b ys) (YPair (fun i => xs[i]?) (fun i => ys[i]?)) := by
  subst hn
  refine ⟨fun i _ hi q => ?_, fun _ q => ⟨xs, ys, q.1, q.2, by omega⟩, fun i H v H' _ q y => ?_⟩
  · have h1 : i < xs.length := by omega
    have h2 : i < ys.length := by omega
    exact ⟨xs, ys, xs[i], ys[i], q.1, q.2, by simp [h1], by simp [h2]⟩
  · obtain ⟨T, x, z, h1, h2, h3, h4, h5⟩ := y
    exact ⟨T, x, z, h1, h2, h3, h4 xs q.1, h5 ys q.2⟩
/-! ### alike -/
def sSame : Stmt := topS 18
/- data of so many levels, no list of it too long -/
mutual
def okD : Nat → PyData → Bool
  | 0, _ => false
  | _ + 1, .none => true
  | _ + 1, .bool _ => true
  | _ + 1, .int _ => true
  | _ + 1, .str _ => true
  | n + 1, .list ds => decide (ds.length ≤ 1000000) && okAll n ds
  | n + 1, .tuple ds => decide (ds.length ≤ 1000000) && okAll n ds
  | _ + 1, _ => false
def okAll : Nat → List PyData → Bool
  | _, [] => true
  | n, d :: ds => okD n d && okAll n ds
end
theorem okAll_get : ∀ {n : Nat} {ds : List PyData} {i : Nat} {d : PyData}, okAll n ds = true → ds[i]? = some d → okD n d = true
  | _, [], _, _, _, h => by simp at h
  | n, a :: r, 0, d, o, h => by
    simp at h
    subst h
    simp only [okAll, Bool.and_eq_true] at o
    exact o.1
  | n, a :: r, i + 1, d, o, h => by
    simp only [okAll, Bool.and_eq_true] at o
    exact okAll_get (i := i) o.2 (by simpa using h)
theorem okAll_of : ∀ {n : Nat} {ds : List PyData}, (∀ d ∈ ds, okD n d = true) → okAll n ds = true
  | _, [], _ => rfl
  | n, a :: r, h => by
    simp only [okAll, Bool.and_eq_true]
    exact ⟨h a List.mem_cons_self, okAll_of fun d hd => h d (List.mem_cons_of_mem _ hd)⟩
def spSame (K : PySem.W.Frag) (n : Nat) : Sp := fun vs H Q _ => ∃ (x y : V) (d : PyData), vs = [x, y] ∧ Dp K H x d ∧ Dp K H y d ∧ okD n d = true ∧ ∀ H', Same H H' → Q (.bl true) H'
theorem inV_rep : ∀ n : Nat, inV (.bl false) (List.replicate n (V.bl true)) = false
  | 0 => rfl
  | n + 1 => by
    rw [List.replicate_succ]
    exact inV_rep n
theorem flat_rep : ∀ n : Nat, (List.replicate n (V.bl true)).all flatV = true
  | 0 => rfl
  | n + 1 => by
    rw [List.replicate_succ]
    exact flat_rep n
theorem ifT {c : Bool} {A B : Prop} (h : c = true) (a : A) : if c = true then A else B := by
  rw [if_pos h]
  exact a
theorem ifF {c : Bool} {A B : Prop} (h : c = false) (b : B) : if c = true then A else B := by
  rw [h, if_neg Bool.false_ne_true]
  exact b
section
variable {P : Program} {w : World} {K : PySem.W.Frag} {mg : Str → Option Value} {base : Heap}
theorem scSame : FnScope ["found", "due", "one", "other"] ["found", "due"] (defScope sSame) := ⟨rfl, rfl, rfl, by decide +kernel, rfl, by decide +kernel, by decide +kernel⟩
/-- the built-in names that are looked up -/
structure Blt (mg : Str → Option Value) : Prop where
  isinstance : mg "isinstance" = none
  bool : mg "bool" = none
  int : mg "int" = none
  str : mg "str" = none
  tuple : mg "tuple" = none
  list : mg "list" = none
  len : mg "len" = none
  zip : mg "zip" = none
theorem ok_same {f : Addr} {fd : FuncData} (F : Fun K "_law_same" "_law_same" sSame f fd) (bS : Binds K fd ["found", "due"] []) (gS : mg "_law_same" = some (.ref f)) (B : Blt mg) : ∀ n : Nat, FnOk P w K mg base CX0 (n + 1) f fd ["found", "due"] (spSame K n)
  | 0 => F.ok scSame (fun vs H Q E h => by obtain ⟨x, y, d, _, _, _, h, _⟩ := h; unfold okD at h; cases h) (fun cdv A outer s H vs Q E hr h => by obtain ⟨x, y, d, _, _, _, h, _⟩ := h; unfold okD at h; cases h)
  | n + 1 => by
    have G : FnOk P w K mg base CX0 (n + 1) f fd ["found", "due"] (spSame K n) := ok_same F bS gS B n
    refine F.ok scSame (fun vs H Q E h => ?_) (fun cdv A outer s H vs Q E hr h => ?_)
    · obtain ⟨x, y, d, rfl, _⟩ := h
      rfl
    · obtain ⟨x, y, d, rfl, hx, hy, hok, q⟩ := h
      refine ⟨_, pss_cons (ps_if (PW.pt (pw_or (pt_cmp (pc_isN (pv 1))) (pw_or1 (pt_cmp (pc_isN (pv 0))))))
          (pss_one (ps_ret (pe_and (pe_cmp (pc_isN (pv 1))) (pe_one (pe_cmp (pc_isN (pv 0))))))) pss_nil)
        (pss_cons (ps_if (PW.pt (pw_or (pt_val (pe_callB call_isi (by rfl) B.isinstance (by decide +kernel) (pa_cons (pv 1) (pa_cons (pe_bltn (v := .ty "bool") (by rfl) B.bool (by decide +kernel) rfl) pa_nil))))
            (pw_or1 (pt_val (pe_callB call_isi (by rfl) B.isinstance (by decide +kernel) (pa_cons (pv 0) (pa_cons (pe_bltn (v := .ty "bool") (by rfl) B.bool (by decide +kernel) rfl) pa_nil)))))))
          (pss_one (ps_ret (pe_and (pe_callB call_isi (by rfl) B.isinstance (by decide +kernel) (pa_cons (pv 1) (pa_cons (pe_bltn (v := .ty "bool") (by rfl) B.bool (by decide +kernel) rfl) pa_nil)))
            (pe_and (pe_callB call_isi (by rfl) B.isinstance (by decide +kernel) (pa_cons (pv 0) (pa_cons (pe_bltn (v := .ty "bool") (by rfl) B.bool (by decide +kernel) rfl) pa_nil)))
              (pe_one (pe_cmpR op_eq (pv 0) (pv 1) (nomark _))))))) pss_nil)
        (pss_cons (ps_if (pt_val (pe_callB call_isiT (by rfl) B.isinstance (by decide +kernel) (pa_cons (pv 1) (pa_cons (pe_tup (pa_cons (pe_bltn (v := .ty "int") (by rfl) B.int (by decide +kernel) rfl) (pa_cons (pe_bltn (v := .ty "str") (by rfl) B.str (by decide +kernel) rfl) pa_nil))) pa_nil))))
          (pss_cons (ps_if (pt_cmpR op_ne (pe_callB call_isi (by rfl) B.isinstance (by decide +kernel) (pa_cons (pv 0) (pa_cons (pe_bltn (v := .ty "int") (by rfl) B.int (by decide +kernel) rfl) pa_nil)))
              (pe_callB call_isi (by rfl) B.isinstance (by decide +kernel) (pa_cons (pv 1) (pa_cons (pe_bltn (v := .ty "int") (by rfl) B.int (by decide +kernel) rfl) pa_nil))) (nomark _))
            (pss_one (ps_ret pe_bl)) pss_nil)
          (pss_one (ps_ret (pe_and (pe_callB call_isiT (by rfl) B.isinstance (by decide +kernel) (pa_cons (pv 0) (pa_cons (pe_tup (pa_cons (pe_bltn (v := .ty "int") (by rfl) B.int (by decide +kernel) rfl) (pa_cons (pe_bltn (v := .ty "str") (by rfl) B.str (by decide +kernel) rfl) pa_nil))) pa_nil)))
            (pe_one (pe_cmpR op_eq (pv 0) (pv 1) (nomark _))))))) pss_nil)
        (pss_cons (ps_if (PW.pt (pw_or (pt_cmpR op_ne (pe_callB call_isi (by rfl) B.isinstance (by decide +kernel) (pa_cons (pv 1) (pa_cons (pe_bltn (v := .ty "tuple") (by rfl) B.tuple (by decide +kernel) rfl) pa_nil)))
              (pe_callB call_isi (by rfl) B.isinstance (by decide +kernel) (pa_cons (pv 0) (pa_cons (pe_bltn (v := .ty "tuple") (by rfl) B.tuple (by decide +kernel) rfl) pa_nil))) (nomark _))
            (pw_or1 (pt_cmpR op_ne (pe_callB call_isi (by rfl) B.isinstance (by decide +kernel) (pa_cons (pv 1) (pa_cons (pe_bltn (v := .ty "list") (by rfl) B.list (by decide +kernel) rfl) pa_nil)))
              (pe_callB call_isi (by rfl) B.isinstance (by decide +kernel) (pa_cons (pv 0) (pa_cons (pe_bltn (v := .ty "list") (by rfl) B.list (by decide +kernel) rfl) pa_nil))) (nomark _)))))
          (pss_one (ps_ret pe_bl)) pss_nil)
        (pss_cons (ps_if (pt_cmpR op_ne (pe_callB call_len_seq (by rfl) B.len PySem.boot_len (pa_cons (pv 0) pa_nil)) (pe_callB call_len_seq (by rfl) B.len PySem.boot_len (pa_cons (pv 1) pa_nil)) (nomark _))
          (pss_one (ps_ret pe_bl)) pss_nil)
        (pss_one (ps_ret (pe_cmpR op_notIn_seq pe_bl (pe_lc (own := [("one", 2), ("other", 3)]) (g := gTup K 2 (gCons (gName 2) (gCons (gName 3) gNil))) (tt := tYes) rfl scSame.nd (pi_zipA (by rfl) B.zip (pa_cons (pv 0) (pa_cons (pv 1) pa_nil)))
          (blkOk_by (N := ["found", "due", "one", "other"]) (sc := defScope sSame) (by decide +kernel))
          (fun _ _ _ _ _ => by refine pg_tup rfl (pgs_cons ?_ (pgs_cons ?_ pgs_nil)); exact pg_name (i := 2) scSame.nd rfl (.inl rfl); exact pg_name (i := 3) scSame.nd rfl (.inl rfl))
          (fun _ _ _ _ _ => pts_nil) (fun _ _ _ _ _ => by exact pe_call G hr (by rfl) gS F.kp bS .nil pass0 (pa_cons (pv 2) (pa_cons (pv 3) pa_nil)))) (by rfl)))))))), ?_⟩
      cases d with
      | none =>
        cases hx; cases hy
        exact ⟨_, rfl, _, rfl, ifT rfl (ifT rfl ⟨_, rfl, _, rfl, ifT rfl ⟨_, rfl, q H (Same.refl H)⟩⟩)⟩
      | bool b =>
        cases hx; cases hy
        have e : decide (V.bl b = V.bl b) = true := decide_eq_true rfl
        refine ⟨_, rfl, _, rfl, ifF rfl ⟨_, rfl, _, rfl, ifF rfl ⟨_, rfl, _, _, _, _, true, rfl, .ty _, .base (.bl b), kit_ty (by decide +kernel), _, rfl, ifT rfl (ifT rfl ⟨_, rfl, _, _, _, _, true, rfl, .ty _, .base (.bl b), kit_ty (by decide +kernel), _, rfl, ifT rfl ⟨_, rfl, _, _, _, _, true, rfl, .ty _, .base (.bl b), kit_ty (by decide +kernel), _, rfl, ifT rfl ⟨_, rfl, _, rfl, rfl, ?_⟩⟩⟩)⟩⟩⟩
        rw [e]
        exact q H (Same.refl H)
      | int i =>
        cases hx; cases hy
        have e : decide (V.int i = V.int i) = true := decide_eq_true rfl
        refine ⟨_, rfl, _, rfl, ifF rfl ⟨_, rfl, _, rfl, ifF rfl ⟨_, rfl, _, _, _, _, false, rfl, .ty _, .base (.int i), kit_ty (by decide +kernel), _, rfl, ifF rfl ⟨_, rfl, _, _, _, _, false, rfl, .ty _, .base (.int i), kit_ty (by decide +kernel), _, rfl, ifF rfl ⟨_, rfl, by show 2 ≤ sizeLine; decide, fun p1 np1 => ⟨_, p1, _, _, _, true, rfl, upd_same, .cons (.ty _) (.cons (.ty _) .nil), .base (.int i), kitAny_cons (b := true) (kit_ty (by decide +kernel)) (fun h => nomatch h) (fun _ => rfl), _, rfl, ifT rfl ⟨_, rfl, _, _, _, _, true, rfl, .ty _, .base (.int i), kit_ty (by decide +kernel), _, rfl, _, _, _, _, true, rfl, .ty _, .base (.int i), kit_ty (by decide +kernel), rfl, _, rfl, ifF rfl ⟨_, rfl, by show 2 ≤ sizeLine; decide, fun p2 np2 => ⟨_, p2, _, _, _, true, rfl, upd_same, .cons (.ty _) (.cons (.ty _) .nil), .base (.int i), kitAny_cons (b := true) (kit_ty (by decide +kernel)) (fun h => nomatch h) (fun _ => rfl), _, rfl, ifT rfl ⟨_, rfl, _, rfl, rfl, ?_⟩⟩⟩⟩⟩⟩⟩⟩⟩⟩
        rw [e]
        exact q _ ((same_upd np1).trans (same_upd np2))
      | str i =>
        cases hx; cases hy
        have e : decide (V.str i = V.str i) = true := decide_eq_true rfl
        refine ⟨_, rfl, _, rfl, ifF rfl ⟨_, rfl, _, rfl, ifF rfl ⟨_, rfl, _, _, _, _, false, rfl, .ty _, .base (.str i), kit_ty (by decide +kernel), _, rfl, ifF rfl ⟨_, rfl, _, _, _, _, false, rfl, .ty _, .base (.str i), kit_ty (by decide +kernel), _, rfl, ifF rfl ⟨_, rfl, by show 2 ≤ sizeLine; decide, fun p1 np1 => ⟨_, p1, _, _, _, true, rfl, upd_same, .cons (.ty _) (.cons (.ty _) .nil), .base (.str i), kitAny_cons (b := false) (kit_ty (by decide +kernel)) (fun _ => kitAny_cons (b := true) (kit_ty (by decide +kernel)) (fun h => nomatch h) (fun _ => rfl)) (fun h => nomatch h), _, rfl, ifT rfl ⟨_, rfl, _, _, _, _, false, rfl, .ty _, .base (.str i), kit_ty (by decide +kernel), _, rfl, _, _, _, _, false, rfl, .ty _, .base (.str i), kit_ty (by decide +kernel), rfl, _, rfl, ifF rfl ⟨_, rfl, by show 2 ≤ sizeLine; decide, fun p2 np2 => ⟨_, p2, _, _, _, true, rfl, upd_same, .cons (.ty _) (.cons (.ty _) .nil), .base (.str i), kitAny_cons (b := false) (kit_ty (by decide +kernel)) (fun _ => kitAny_cons (b := true) (kit_ty (by decide +kernel)) (fun h => nomatch h) (fun _ => rfl)) (fun h => nomatch h), _, rfl, ifT rfl ⟨_, rfl, _, rfl, rfl, ?_⟩⟩⟩⟩⟩⟩⟩⟩⟩⟩
        rw [e]
        exact q _ ((same_upd np1).trans (same_upd np2))
      | list ds =>
        cases hx with
        | @lst a xs _ hqx hax =>
        cases hy with
        | @lst b ys _ hqy hay =>
        simp only [okD, Bool.and_eq_true, decide_eq_true_eq] at hok
        have lx := dpAll_len hax
        have ly := dpAll_len hay
        have e : decide (V.int (xs.length : Int) = V.int (ys.length : Int)) = true := decide_eq_true (by rw [lx, ly])
        refine ⟨_, rfl, _, rfl, ifF rfl ⟨_, rfl, _, rfl, ifF rfl ⟨_, rfl, _, _, _, _, false, rfl, .ty _, (tyx_l hqy), kit_ty (by decide +kernel), _, rfl, ifF rfl ⟨_, rfl, _, _, _, _, false, rfl, .ty _, (tyx_l hqx), kit_ty (by decide +kernel), _, rfl, ifF rfl ⟨_, rfl, by show 2 ≤ sizeLine; decide, fun p1 np1 => ⟨_, p1, _, _, _, false, rfl, upd_same, .cons (.ty _) (.cons (.ty _) .nil), (tyx_l ((same_upd np1).seq hqy)), kitAny_cons (b := false) (kit_ty (by decide +kernel)) (fun _ => kitAny_cons (b := false) (kit_ty (by decide +kernel)) (fun _ => kitAny_nil) (fun h => nomatch h)) (fun h => nomatch h), _, rfl, ifF rfl ?_⟩⟩⟩⟩⟩⟩
        have s1 := same_upd (o := .tup [V.ty "int", V.ty "str"]) np1
        refine ⟨_, rfl, _, _, _, _, false, rfl, .ty _, (tyx_l (s1.seq hqy)), kit_ty (by decide +kernel), _, rfl, _, _, _, _, false, rfl, .ty _, (tyx_l (s1.seq hqx)), kit_ty (by decide +kernel), rfl, _, rfl, ifF rfl ⟨_, rfl, _, _, _, _, true, rfl, .ty _, (tyx_l (s1.seq hqy)), kit_ty (by decide +kernel), _, rfl, _, _, _, _, true, rfl, .ty _, (tyx_l (s1.seq hqx)), kit_ty (by decide +kernel), rfl, _, rfl, ifF rfl ?_⟩⟩
        refine ⟨_, rfl, a, xs, rfl, .inl (s1.seq hqx), _, rfl, b, ys, rfl, .inl (s1.seq hqy), rfl, _, rfl, ?_⟩
        rw [e]
        refine ifF rfl ?_
        refine ⟨_, rfl, _, rfl, a, b, xs, ys, rfl, .inl ⟨s1.seq hqx, s1.seq hqy, fun D nD => ?_⟩⟩
        refine lc_it (walk_zip (K := K) (a := a) (b := b) (xs := xs) (ys := ys) (n := ds.length) (by omega)) (fun i H2 => Same (upd H p1 (.tup [V.ty "int", V.ty "str"])) H2 ∧ H2 D = some (.lst (List.replicate i (V.bl true)))) ⟨same_upd nD, upd_same⟩ ?_ ?_ ?_
        · rintro i H2 _ ⟨s2, _⟩
          exact ⟨s2.seq (s1.seq hqx), s2.seq (s1.seq hqy)⟩
        · rintro i v H2 H3 hi ⟨s2, hD⟩ ⟨T, x1, x2, rfl, nT, rfl, f1, f2⟩
          have sT := same_upd (o := .tup [x1, x2]) nT
          obtain ⟨d1, g1, h1⟩ := dpAll_get hax f1
          obtain ⟨d2, g2, h2⟩ := dpAll_get hay f2
          have ed : d1 = d2 := Option.some.inj (g1.symm.trans g2)
          subst ed
          have s3 : Same H (upd H2 T (.tup [x1, x2])) := (s1.trans s2).trans sT
          refine ⟨T, _, rfl, SqT.of upd_same, rfl, _, _, rfl, _, _, rfl, rfl, rfl, ?_⟩
          refine ⟨_, rfl, _, rfl, x1, x2, d1, rfl, dp_same s3 h1, dp_same s3 h2, okAll_get hok.2 g1, fun H4 s4 => ?_⟩
          refine ⟨_, s4 _ _ (sT _ _ hD), ?_, fun b' o' e' => ?_, ?_⟩
          · rw [List.length_replicate]
            exact Nat.lt_of_lt_of_le (Nat.lt_of_lt_of_le hi hok.1) (by decide)
          · rw [upd_ne (ne_of_none e' nD)]
            exact s4 _ _ (sT _ _ (s2 _ _ e'))
          · rw [upd_same, List.replicate_succ']
        · rintro H2 ⟨s2, hD⟩
          refine ⟨D, _, rfl, .inl (SqL.of hD), rfl, flat_rep _, ?_⟩
          rw [inV_rep]
          exact q H2 (s1.trans s2)
      | tuple ds =>
        cases hx with
        | @tup a xs _ hqx hax =>
        cases hy with
        | @tup b ys _ hqy hay =>
        simp only [okD, Bool.and_eq_true, decide_eq_true_eq] at hok
        have lx := dpAll_len hax
        have ly := dpAll_len hay
        have e : decide (V.int (xs.length : Int) = V.int (ys.length : Int)) = true := decide_eq_true (by rw [lx, ly])
        refine ⟨_, rfl, _, rfl, ifF rfl ⟨_, rfl, _, rfl, ifF rfl ⟨_, rfl, _, _, _, _, false, rfl, .ty _, (tyx_t hqy), kit_ty (by decide +kernel), _, rfl, ifF rfl ⟨_, rfl, _, _, _, _, false, rfl, .ty _, (tyx_t hqx), kit_ty (by decide +kernel), _, rfl, ifF rfl ⟨_, rfl, by show 2 ≤ sizeLine; decide, fun p1 np1 => ⟨_, p1, _, _, _, false, rfl, upd_same, .cons (.ty _) (.cons (.ty _) .nil), (tyx_t ((same_upd np1).seqT hqy)), kitAny_cons (b := false) (kit_ty (by decide +kernel)) (fun _ => kitAny_cons (b := false) (kit_ty (by decide +kernel)) (fun _ => kitAny_nil) (fun h => nomatch h)) (fun h => nomatch h), _, rfl, ifF rfl ?_⟩⟩⟩⟩⟩⟩
        have s1 := same_upd (o := .tup [V.ty "int", V.ty "str"]) np1
        refine ⟨_, rfl, _, _, _, _, true, rfl, .ty _, (tyx_t (s1.seqT hqy)), kit_ty (by decide +kernel), _, rfl, _, _, _, _, true, rfl, .ty _, (tyx_t (s1.seqT hqx)), kit_ty (by decide +kernel), rfl, _, rfl, ifF rfl ⟨_, rfl, _, _, _, _, false, rfl, .ty _, (tyx_t (s1.seqT hqy)), kit_ty (by decide +kernel), _, rfl, _, _, _, _, false, rfl, .ty _, (tyx_t (s1.seqT hqx)), kit_ty (by decide +kernel), rfl, _, rfl, ifF rfl ?_⟩⟩
        refine ⟨_, rfl, a, xs, rfl, .inr (s1.seqT hqx), _, rfl, b, ys, rfl, .inr (s1.seqT hqy), rfl, _, rfl, ?_⟩
        rw [e]
        refine ifF rfl ?_
        refine ⟨_, rfl, _, rfl, a, b, xs, ys, rfl, .inr ⟨s1.seqT hqx, s1.seqT hqy, fun D nD => ?_⟩⟩
        refine lc_it (walk_zipT (K := K) (a := a) (b := b) (xs := xs) (ys := ys) (n := ds.length) (by omega)) (fun i H2 => Same (upd H p1 (.tup [V.ty "int", V.ty "str"])) H2 ∧ H2 D = some (.lst (List.replicate i (V.bl true)))) ⟨same_upd nD, upd_same⟩ ?_ ?_ ?_
        · rintro i H2 _ ⟨s2, _⟩
          exact ⟨s2.seqT (s1.seqT hqx), s2.seqT (s1.seqT hqy)⟩
        · rintro i v H2 H3 hi ⟨s2, hD⟩ ⟨T, x1, x2, rfl, nT, rfl, f1, f2⟩
          have sT := same_upd (o := .tup [x1, x2]) nT
          obtain ⟨d1, g1, h1⟩ := dpAll_get hax f1
          obtain ⟨d2, g2, h2⟩ := dpAll_get hay f2
          have ed : d1 = d2 := Option.some.inj (g1.symm.trans g2)
          subst ed
          have s3 : Same H (upd H2 T (.tup [x1, x2])) := (s1.trans s2).trans sT
          refine ⟨T, _, rfl, SqT.of upd_same, rfl, _, _, rfl, _, _, rfl, rfl, rfl, ?_⟩
          refine ⟨_, rfl, _, rfl, x1, x2, d1, rfl, dp_same s3 h1, dp_same s3 h2, okAll_get hok.2 g1, fun H4 s4 => ?_⟩
          refine ⟨_, s4 _ _ (sT _ _ hD), ?_, fun b' o' e' => ?_, ?_⟩
          · rw [List.length_replicate]
            exact Nat.lt_of_lt_of_le (Nat.lt_of_lt_of_le hi hok.1) (by decide)
          · rw [upd_ne (ne_of_none e' nD)]
            exact s4 _ _ (sT _ _ (s2 _ _ e'))
          · rw [upd_same, List.replicate_succ']
        · rintro H2 ⟨s2, hD⟩
          refine ⟨D, _, rfl, .inl (SqL.of hD), rfl, flat_rep _, ?_⟩
          rw [inV_rep]
          exact q H2 (s1.trans s2)
      | _ => exact absurd hok (by simp [okD])
end
def sKinds : Stmt := topS 19
/-- the twelve classes, and the one above them -/
structure Cls (K : PySem.W.Frag) (mg : Str → Option Value) (c0 c1 c2 c3 c4 c5 c6 c7 c8 c9 c10 c11 cS : Addr) : Prop where
  g0 : mg "NoAsk" = some (.ref c0)
  g1 : mg "NoKind" = some (.ref c1)
  g2 : mg "NoName" = some (.ref c2)
  g3 : mg "Taken" = some (.ref c3)
  g4 : mg "Full" = some (.ref c4)
  g5 : mg "NoHouse" = some (.ref c5)
  g6 : mg "NoStore" = some (.ref c6)
  g7 : mg "NoWay" = some (.ref c7)
  g8 : mg "NoSpare" = some (.ref c8)
  g9 : mg "NoGuide" = some (.ref c9)
  g10 : mg "NoBook" = some (.ref c10)
  g11 : mg "NoRound" = some (.ref c11)
  gS : mg "StockError" = some (.ref cS)
  is : ∀ c ∈ ([c0, c1, c2, c3, c4, c5, c6, c7, c8, c9, c10, c11] : List Addr), XisC K c
  kit : ∀ (i j : Nat) (c d : Addr), ([c0, c1, c2, c3, c4, c5, c6, c7, c8, c9, c10, c11] : List Addr)[i]? = some c → ([c0, c1, c2, c3, c4, c5, c6, c7, c8, c9, c10, c11] : List Addr)[j]? = some d → PySem.W.kitOne K (.ref c) (.ref d) = some (decide (i = j))
  kS : ∀ c ∈ ([c0, c1, c2, c3, c4, c5, c6, c7, c8, c9, c10, c11] : List Addr), PySem.W.kitOne K (.ref c) (.ref cS) = some true
  kV : ∀ c ∈ ([c0, c1, c2, c3, c4, c5, c6, c7, c8, c9, c10, c11] : List Addr), PySem.W.kitOne K (.ref c) (.type "ValueError") = some true
/-- of which classes the one is whose class has the number i -/
def kindsV (i : Nat) : List V := [.bl (decide (i = 0)), .bl (decide (i = 1)), .bl (decide (i = 2)), .bl (decide (i = 3)), .bl (decide (i = 4)), .bl (decide (i = 5)), .bl (decide (i = 6)), .bl (decide (i = 7)), .bl (decide (i = 8)), .bl (decide (i = 9)), .bl (decide (i = 10)), .bl (decide (i = 11))]
theorem kindsV_map (i : Nat) : kindsV i = ((List.range 12).map fun j => decide (i = j)).map V.bl := rfl
def spKinds (K : PySem.W.Frag) (Cs : List Addr) : Sp := fun vs H Q _ => ∃ (a C : Addr) (i : Nat) (o : Option (Str × V)), vs = [.ref a] ∧ Cs[i]? = some C ∧ Xo H a C o ∧ ∀ H' q, Same H H' → H q = none → H' q = some (.lst (kindsV i)) → Q (.ref q) H'
section
variable {P : Program} {w : World} {K : PySem.W.Frag} {mg : Str → Option Value} {base : Heap}
theorem scKinds : FnScope ["one", "found"] ["one"] (defScope sKinds) := ⟨rfl, rfl, rfl, by decide +kernel, rfl, by decide +kernel, by decide +kernel⟩
theorem ok_kinds {f c0 c1 c2 c3 c4 c5 c6 c7 c8 c9 c10 c11 cS : Addr} {fd : FuncData} {k : Nat} (F : Fun K "_law_kinds" "_law_kinds" sKinds f fd) (T : Cls K mg c0 c1 c2 c3 c4 c5 c6 c7 c8 c9 c10 c11 cS) (mi : mg "isinstance" = none) : FnOk P w K mg base CX0 (k + 1) f fd ["one"] (spKinds K [c0, c1, c2, c3, c4, c5, c6, c7, c8, c9, c10, c11]) := by
  refine F.ok scKinds (fun vs H Q E h => ?_) (fun cdv A outer s H vs Q E hr h => ?_)
  · obtain ⟨a, C, i, o, rfl, _⟩ := h
    rfl
  · obtain ⟨a, C, i, o, rfl, hC, hx, q⟩ := h
    refine ⟨_, pss_cons (ps_set (i := 1) scKinds.nd rfl (.inl rfl) (pe_lst (pa_cons (pe_callB call_isX (by rfl) mi (by decide +kernel) (pa_cons (pv 0) (pa_cons (pe_glob (v := .ref c0) (by rfl) T.g0 rfl) pa_nil))) (pa_cons (pe_callB call_isX (by rfl) mi (by decide +kernel) (pa_cons (pv 0) (pa_cons (pe_glob (v := .ref c1) (by rfl) T.g1 rfl) pa_nil))) (pa_cons (pe_callB call_isX (by rfl) mi (by decide +kernel) (pa_cons (pv 0) (pa_cons (pe_glob (v := .ref c2) (by rfl) T.g2 rfl) pa_nil))) (pa_cons (pe_callB call_isX (by rfl) mi (by decide +kernel) (pa_cons (pv 0) (pa_cons (pe_glob (v := .ref c3) (by rfl) T.g3 rfl) pa_nil))) pa_nil))))))
      (pss_cons (ps_set (i := 1) scKinds.nd rfl (.inl rfl) (pe_op op_cat (pv 1) (pe_lst (pa_cons (pe_callB call_isX (by rfl) mi (by decide +kernel) (pa_cons (pv 0) (pa_cons (pe_glob (v := .ref c4) (by rfl) T.g4 rfl) pa_nil))) (pa_cons (pe_callB call_isX (by rfl) mi (by decide +kernel) (pa_cons (pv 0) (pa_cons (pe_glob (v := .ref c5) (by rfl) T.g5 rfl) pa_nil))) (pa_cons (pe_callB call_isX (by rfl) mi (by decide +kernel) (pa_cons (pv 0) (pa_cons (pe_glob (v := .ref c6) (by rfl) T.g6 rfl) pa_nil))) pa_nil))))))
      (pss_cons (ps_set (i := 1) scKinds.nd rfl (.inl rfl) (pe_op op_cat (pv 1) (pe_lst (pa_cons (pe_callB call_isX (by rfl) mi (by decide +kernel) (pa_cons (pv 0) (pa_cons (pe_glob (v := .ref c7) (by rfl) T.g7 rfl) pa_nil))) (pa_cons (pe_callB call_isX (by rfl) mi (by decide +kernel) (pa_cons (pv 0) (pa_cons (pe_glob (v := .ref c8) (by rfl) T.g8 rfl) pa_nil))) (pa_cons (pe_callB call_isX (by rfl) mi (by decide +kernel) (pa_cons (pv 0) (pa_cons (pe_glob (v := .ref c9) (by rfl) T.g9 rfl) pa_nil))) pa_nil))))))
      (pss_one (ps_ret (pe_op op_cat (pv 1) (pe_lst (pa_cons (pe_callB call_isX (by rfl) mi (by decide +kernel) (pa_cons (pv 0) (pa_cons (pe_glob (v := .ref c10) (by rfl) T.g10 rfl) pa_nil))) (pa_cons (pe_callB call_isX (by rfl) mi (by decide +kernel) (pa_cons (pv 0) (pa_cons (pe_glob (v := .ref c11) (by rfl) T.g11 rfl) pa_nil))) pa_nil)))))))), ?_⟩
    have D := T.is C (List.mem_of_getElem? hC)
    have kt : ∀ (j : Nat) (d : Addr), ([c0, c1, c2, c3, c4, c5, c6, c7, c8, c9, c10, c11] : List Addr)[j]? = some d → PySem.W.kitOne K (.ref C) (.ref d) = some (decide (i = j)) := fun j d e => T.kit i j C d hC e
    refine ⟨_, rfl, a, C, o, .ref c0, .ref c0, decide (i = 0), rfl, fun u h => h, D, hx, kt 0 c0 rfl, _, rfl, a, C, o, .ref c1, .ref c1, decide (i = 1), rfl, fun u h => h, D, hx, kt 1 c1 rfl, _, rfl, a, C, o, .ref c2, .ref c2, decide (i = 2), rfl, fun u h => h, D, hx, kt 2 c2 rfl, _, rfl, a, C, o, .ref c3, .ref c3, decide (i = 3), rfl, fun u h => h, D, hx, kt 3 c3 rfl, by show 4 ≤ sizeLine; decide, fun l1 n1 => ?_⟩
    have s1 := same_upd (o := .lst [V.bl (decide (i = 0)), V.bl (decide (i = 1)), V.bl (decide (i = 2)), V.bl (decide (i = 3))]) n1
    have x1 := hx.same s1
    refine ⟨_, rfl, _, rfl, a, C, o, .ref c4, .ref c4, decide (i = 4), rfl, fun u h => h, D, x1, kt 4 c4 rfl, _, rfl, a, C, o, .ref c5, .ref c5, decide (i = 5), rfl, fun u h => h, D, x1, kt 5 c5 rfl, _, rfl, a, C, o, .ref c6, .ref c6, decide (i = 6), rfl, fun u h => h, D, x1, kt 6 c6 rfl, by show 3 ≤ sizeLine; decide, fun m2 k2 => ?_⟩
    have t2 := same_upd (o := .lst [V.bl (decide (i = 4)), V.bl (decide (i = 5)), V.bl (decide (i = 6))]) k2
    refine ⟨l1, m2, _, _, rfl, rfl, t2 _ _ upd_same, upd_same, by show 7 ≤ sizeLine; decide, fun l2 n2 => ?_⟩
    have s2 := (t2).trans (same_upd (o := .lst [V.bl (decide (i = 0)), V.bl (decide (i = 1)), V.bl (decide (i = 2)), V.bl (decide (i = 3)), V.bl (decide (i = 4)), V.bl (decide (i = 5)), V.bl (decide (i = 6))]) n2)
    have x2 := x1.same s2
    refine ⟨_, rfl, _, rfl, a, C, o, .ref c7, .ref c7, decide (i = 7), rfl, fun u h => h, D, x2, kt 7 c7 rfl, _, rfl, a, C, o, .ref c8, .ref c8, decide (i = 8), rfl, fun u h => h, D, x2, kt 8 c8 rfl, _, rfl, a, C, o, .ref c9, .ref c9, decide (i = 9), rfl, fun u h => h, D, x2, kt 9 c9 rfl, by show 3 ≤ sizeLine; decide, fun m3 k3 => ?_⟩
    have t3 := same_upd (o := .lst [V.bl (decide (i = 7)), V.bl (decide (i = 8)), V.bl (decide (i = 9))]) k3
    refine ⟨l2, m3, _, _, rfl, rfl, t3 _ _ upd_same, upd_same, by show 10 ≤ sizeLine; decide, fun l3 n3 => ?_⟩
    have s3 := (t3).trans (same_upd (o := .lst [V.bl (decide (i = 0)), V.bl (decide (i = 1)), V.bl (decide (i = 2)), V.bl (decide (i = 3)), V.bl (decide (i = 4)), V.bl (decide (i = 5)), V.bl (decide (i = 6)), V.bl (decide (i = 7)), V.bl (decide (i = 8)), V.bl (decide (i = 9))]) n3)
    have x3 := x2.same s3
    refine ⟨_, rfl, _, rfl, a, C, o, .ref c10, .ref c10, decide (i = 10), rfl, fun u h => h, D, x3, kt 10 c10 rfl, _, rfl, a, C, o, .ref c11, .ref c11, decide (i = 11), rfl, fun u h => h, D, x3, kt 11 c11 rfl, by show 2 ≤ sizeLine; decide, fun m4 k4 => ?_⟩
    have t4 := same_upd (o := .lst [V.bl (decide (i = 10)), V.bl (decide (i = 11))]) k4
    refine ⟨l3, m4, _, _, rfl, rfl, t4 _ _ upd_same, upd_same, by show 12 ≤ sizeLine; decide, fun l4 n4 => ?_⟩
    have s4 := (t4).trans (same_upd (o := .lst [V.bl (decide (i = 0)), V.bl (decide (i = 1)), V.bl (decide (i = 2)), V.bl (decide (i = 3)), V.bl (decide (i = 4)), V.bl (decide (i = 5)), V.bl (decide (i = 6)), V.bl (decide (i = 7)), V.bl (decide (i = 8)), V.bl (decide (i = 9)), V.bl (decide (i = 10)), V.bl (decide (i = 11))]) n4)
    exact q _ _ ((s1.trans s2).trans (s3.trans s4)) (((s1.trans s2).trans (s3.trans t4)).free n4) upd_same
end
theorem small_line {n : Nat} (h : n ≤ 100000) : n < sizeLine := Nat.lt_of_le_of_lt h (by decide)
theorem Pen.nep {H : Hp} {p c a : Addr} {ns : List Int} {n : Nat} (h : Pen H p c ns n) (q : H a = none) : p ≠ a ∧ c ≠ a := by
  obtain ⟨⟨x, y, h1, h2⟩, h3⟩ := h
  exact ⟨ne_of_none h1 q, ne_of_none h3 q⟩
def sLaw : Stmt := topS 20
def spLaw (K : PySem.W.Frag) : Sp := fun vs H Q _ => ∃ (a : Addr) (ns : List Int), vs = [.ref a] ∧ SqL K H a (ns.map V.int) ∧ ns.length ≤ 63 ∧ ∀ H', Q (.bl true) H'
theorem at3t {a b c : Str} {r : Int} (h0 : 0 ≤ r) (h1 : r < 3) : ∃ z : Str, atI [V.str a, V.str b, V.str c] r = some (.str z) := by
  have : r = 0 ∨ r = 1 ∨ r = 2 := by omega
  rcases this with rfl | rfl | rfl
  · exact ⟨_, atI_nat (j := 0) rfl⟩
  · exact ⟨_, atI_nat (j := 1) rfl⟩
  · exact ⟨_, atI_nat (j := 2) rfl⟩
theorem at8t {K : PySem.W.Frag} {H : Hp} {la ta : Addr} {s0 s1 s2 s3 : Str} {i7 i1 j1 : Int} {bt : Bool} {r : Int} (hl : H la = some (.lst [.str s1])) (ht : H ta = some (.tup [.str s2, .int i1])) (h0 : 0 ≤ r) (h1 : r < 8) :
    ∃ v d, atI [V.non, V.str s0, V.ref la, V.ref ta, V.int i7, V.bl bt, V.str s3, V.int j1] r = some v ∧ Dp K H v d ∧ okD 2 d = true := by
  have : r = 0 ∨ r = 1 ∨ r = 2 ∨ r = 3 ∨ r = 4 ∨ r = 5 ∨ r = 6 ∨ r = 7 := by omega
  rcases this with rfl | rfl | rfl | rfl | rfl | rfl | rfl | rfl
  · exact ⟨_, _, atI_nat (j := 0) rfl, .non, rfl⟩
  · exact ⟨_, _, atI_nat (j := 1) rfl, .str _, rfl⟩
  · exact ⟨_, _, atI_nat (j := 2) rfl, .lst (SqL.of hl) (.cons (.str _) .nil), by simp [okD, okAll]⟩
  · exact ⟨_, _, atI_nat (j := 3) rfl, .tup (SqT.of ht) (.cons (.str _) (.cons (.int _) .nil)), by simp [okD, okAll]⟩
  · exact ⟨_, _, atI_nat (j := 4) rfl, .int _, rfl⟩
  · exact ⟨_, _, atI_nat (j := 5) rfl, .bl _, rfl⟩
  · exact ⟨_, _, atI_nat (j := 6) rfl, .str _, rfl⟩
  · exact ⟨_, _, atI_nat (j := 7) rfl, .int _, rfl⟩
theorem okD_up : ∀ {n : Nat} {d : PyData}, okD 2 d = true → okD (n + 2) d = true
  | n, .none, _ => rfl
  | n, .bool _, _ => rfl
  | n, .int _, _ => rfl
  | n, .str _, _ => rfl
  | n, .list ds, h => by
    simp only [okD, Bool.and_eq_true] at h ⊢
    exact ⟨h.1, okAll_up h.2⟩
  | n, .tuple ds, h => by
    simp only [okD, Bool.and_eq_true] at h ⊢
    exact ⟨h.1, okAll_up h.2⟩
where
  okAll_up : ∀ {n : Nat} {ds : List PyData}, okAll 1 ds = true → okAll (n + 1) ds = true
    | _, [], _ => rfl
    | n, d :: r, h => by
      simp only [okAll, Bool.and_eq_true] at h ⊢
      refine ⟨?_, okAll_up h.2⟩
      cases d with
      | none => rfl
      | bool _ => rfl
      | int _ => rfl
      | str _ => rfl
      | list es =>
        have h1 := h.1
        simp only [okD, Bool.and_eq_true] at h1 ⊢
        refine ⟨h1.1, ?_⟩
        cases es with
        | nil => cases n <;> rfl
        | cons e es =>
          have z := h1.2
          simp [okAll, okD] at z
      | tuple es =>
        have h1 := h.1
        simp only [okD, Bool.and_eq_true] at h1 ⊢
        refine ⟨h1.1, ?_⟩
        cases es with
        | nil => cases n <;> rfl
        | cons e es =>
          have z := h1.2
          simp [okAll, okD] at z
      | _ => simp [okD] at h
section
variable {P : Program} {w : World} {K : PySem.W.Frag} {mg : Str → Option Value} {base : Heap}
structure Txt (mg : Str → Option Value) (fO fT fS fK : Addr) : Prop where
  gO : mg "_law_open" = some (.ref fO)
  gT : mg "_law_take" = some (.ref fT)
  gS : mg "_law_same" = some (.ref fS)
  gK : mg "_law_kinds" = some (.ref fK)
  range : mg "range" = none
  enumerate : mg "enumerate" = none
  isinstance : mg "isinstance" = none
  VE : mg "ValueError" = none
theorem scLaw : FnScope ["script", "pen", "turn", "word", "number", "name", "thing", "some", "k", "one", "fields", "j"] ["script"] (defScope sLaw) := ⟨rfl, rfl, rfl, by decide +kernel, rfl, by decide +kernel, by decide +kernel⟩
theorem ok_law {f fO fT fS fK c0 c1 c2 c3 c4 c5 c6 c7 c8 c9 c10 c11 cS i0 i1 i2 i3 i4 : Addr} {fd fdO fdT fdS fdK : FuncData} (F : Fun K "law" "law" sLaw f fd) (T : Txt mg fO fT fS fK) (C : Cls K mg c0 c1 c2 c3 c4 c5 c6 c7 c8 c9 c10 c11 cS)
    (Z0 : InitTxt P K mg c0 i0 "number") (X0 : XfC K c0) (kc0 : PySem.W.keepIn K (.ref c0) = true)
    (Z1 : InitTxt P K mg c1 i1 "number") (X1 : XfC K c1) (kc1 : PySem.W.keepIn K (.ref c1) = true)
    (Z2 : InitTxt P K mg c2 i2 "name") (X2 : XfC K c2) (kc2 : PySem.W.keepIn K (.ref c2) = true)
    (Z3 : InitTxt P K mg c3 i3 "name") (X3 : XfC K c3) (kc3 : PySem.W.keepIn K (.ref c3) = true)
    (Z4 : InitTxt P K mg c4 i4 "most") (X4 : XfC K c4) (kc4 : PySem.W.keepIn K (.ref c4) = true)
    (q5 : PySem.W.excIn K c5 [.type "ValueError", .type "Exception", .type "BaseException", .type "object"] "ValueError.__new__" = true) (kc5 : PySem.W.keepIn K (.ref c5) = true)
    (q6 : PySem.W.excIn K c6 [.type "ValueError", .type "Exception", .type "BaseException", .type "object"] "ValueError.__new__" = true) (kc6 : PySem.W.keepIn K (.ref c6) = true)
    (q7 : PySem.W.excIn K c7 [.type "ValueError", .type "Exception", .type "BaseException", .type "object"] "ValueError.__new__" = true) (kc7 : PySem.W.keepIn K (.ref c7) = true)
    (q8 : PySem.W.excIn K c8 [.type "ValueError", .type "Exception", .type "BaseException", .type "object"] "ValueError.__new__" = true) (kc8 : PySem.W.keepIn K (.ref c8) = true)
    (q9 : PySem.W.excIn K c9 [.type "ValueError", .type "Exception", .type "BaseException", .type "object"] "ValueError.__new__" = true) (kc9 : PySem.W.keepIn K (.ref c9) = true)
    (q10 : PySem.W.excIn K c10 [.type "ValueError", .type "Exception", .type "BaseException", .type "object"] "ValueError.__new__" = true) (kc10 : PySem.W.keepIn K (.ref c10) = true)
    (q11 : PySem.W.excIn K c11 [.type "ValueError", .type "Exception", .type "BaseException", .type "object"] "ValueError.__new__" = true) (kc11 : PySem.W.keepIn K (.ref c11) = true)
    (GO : FnOk P w K mg base CX0 1 fO fdO ["script"] (spOpen K)) (kO : PySem.W.keepIn K (.ref fO) = true) (bO : Binds K fdO ["script"] [])
    (GT : FnOk P w K mg base CX0 2 fT fdT ["pen", "amount"] spTake) (kT : PySem.W.keepIn K (.ref fT) = true) (bT : Binds K fdT ["pen", "amount"] [])
    (GS : FnOk P w K mg base CX0 5 fS fdS ["found", "due"] (spSame K 4)) (kS : PySem.W.keepIn K (.ref fS) = true) (bS : Binds K fdS ["found", "due"] [])
    (GK : FnOk P w K mg base CX0 1 fK fdK ["one"] (spKinds K [c0, c1, c2, c3, c4, c5, c6, c7, c8, c9, c10, c11])) (kK : PySem.W.keepIn K (.ref fK) = true) (bK : Binds K fdK ["one"] []) :
    FnOk P w K mg base CX0 6 f fd ["script"] (spLaw K) := by
  obtain ⟨fd0, G0, b0⟩ := ok_init (w := w) (base := base) Z0 fname_number
  obtain ⟨fd1, G1, b1⟩ := ok_init (w := w) (base := base) Z1 fname_number
  obtain ⟨fd2, G2, b2⟩ := ok_init (w := w) (base := base) Z2 fname_name
  obtain ⟨fd3, G3, b3⟩ := ok_init (w := w) (base := base) Z3 fname_name
  obtain ⟨fd4, G4, b4⟩ := ok_init (w := w) (base := base) Z4 fname_most
  refine F.ok scLaw (fun vs H Q E h => ?_) (fun cdv A outer s H vs Q E hr h => ?_)
  · obtain ⟨a, ns, rfl, _⟩ := h
    rfl
  · obtain ⟨a, ns, rfl, hS, hlen, q⟩ := h
    have h1 : Room 1 _ := hr.mono (by decide)
    have h2 : Room 2 _ := hr.mono (by decide)
    refine ⟨_, pss_cons (ps_set (i := 1) scLaw.nd rfl (.inl rfl) (pe_call GO h1 (by rfl) T.gO kO bO .nil pass0 (pa_cons (pv 0) pa_nil)))
      (pss_cons (ps_for PassesOwn.never rfl (pi_range1 (by rfl) T.range (pa_cons pe_int pa_nil)) (pg_name (i := 2) scLaw.nd rfl (.inl rfl))
        (pss_cons (ps_par (i := 3) (j := 4) (by rfl) scLaw.nd rfl rfl (by decide) rfl rfl (pa_cons (pe_ix ix_list (pe_lst (pa_cons pe_str (pa_cons pe_str (pa_cons pe_str pa_nil)))) (pe_call GT h2 (by rfl) T.gT kT bT .nil pass0 (pa_cons (pv 1) (pa_cons pe_int pa_nil))) (fun _ _ => rfl)) (pa_cons (pe_call GT h2 (by rfl) T.gT kT bT .nil pass0 (pa_cons (pv 1) (pa_cons pe_int pa_nil))) pa_nil)) (by rfl))
        (pss_cons (ps_set (i := 5) scLaw.nd rfl (.inl rfl) (pe_ix ix_list (pe_lst (pa_cons pe_str (pa_cons pe_str (pa_cons pe_str pa_nil)))) (pe_call GT h2 (by rfl) T.gT kT bT .nil pass0 (pa_cons (pv 1) (pa_cons pe_int pa_nil))) (fun _ _ => rfl)))
        (pss_cons (ps_set (i := 6) scLaw.nd rfl (.inl rfl) (pe_ix ix_list (pe_lst (pa_cons pe_non (pa_cons pe_str (pa_cons (pe_lst (pa_cons pe_str pa_nil)) (pa_cons (pe_tup (pa_cons pe_str (pa_cons pe_int pa_nil))) (pa_cons pe_int (pa_cons pe_bl (pa_cons pe_str (pa_cons (pe_un un_neg pe_int) pa_nil))))))))) (pe_call GT h2 (by rfl) T.gT kT bT .nil pass0 (pa_cons (pv 1) (pa_cons pe_int pa_nil))) (fun _ _ => rfl)))
        (pss_cons (ps_set (i := 7) scLaw.nd rfl (.inl rfl) (pe_lst (pa_cons (pe_mkX Z0 G0 b0 h2 kc0 (by rfl) C.g0 (pa_cons (pv 6) pa_nil)) (pa_cons (pe_mkX Z1 G1 b1 h2 kc1 (by rfl) C.g1 (pa_cons (pv 4) pa_nil)) (pa_cons (pe_mkX Z2 G2 b2 h2 kc2 (by rfl) C.g2 (pa_cons (pv 6) pa_nil)) (pa_cons (pe_mkX Z3 G3 b3 h2 kc3 (by rfl) C.g3 (pa_cons (pv 5) pa_nil)) (pa_cons (pe_mkX Z4 G4 b4 h2 kc4 (by rfl) C.g4 (pa_cons (pe_op op_add pe_int (pv 4)) pa_nil)) (pa_cons (pe_mk0 PySem.F.excBase_ValueError q5 C.g5 kc5 (by rfl) (pv 3)) pa_nil))))))))
        (pss_cons (ps_set (i := 7) scLaw.nd rfl (.inl rfl) (pe_op op_cat (pv 7) (pe_lst (pa_cons (pe_mk0 PySem.F.excBase_ValueError q6 C.g6 kc6 (by rfl) (pv 3)) (pa_cons (pe_mk0 PySem.F.excBase_ValueError q7 C.g7 kc7 (by rfl) (pv 3)) (pa_cons (pe_mk0 PySem.F.excBase_ValueError q8 C.g8 kc8 (by rfl) (pv 3)) (pa_cons (pe_mk0 PySem.F.excBase_ValueError q9 C.g9 kc9 (by rfl) (pv 3)) (pa_cons (pe_mk0 PySem.F.excBase_ValueError q10 C.g10 kc10 (by rfl) (pv 3)) (pa_cons (pe_mk0 PySem.F.excBase_ValueError q11 C.g11 kc11 (by rfl) (pv 3)) pa_nil)))))))))
        (pss_cons (ps_for PassesOwn.never rfl (pi_enum (by rfl) T.enumerate (pa_cons (pv 7) pa_nil))
            (pg_tup rfl (pgs_cons (pg_name (i := 8) scLaw.nd rfl (.inr rfl)) (pgs_cons (pg_name (i := 9) scLaw.nd rfl (.inl rfl)) pgs_nil)))
          (pss_cons (ps_if (PW.pt (pw_or (pt_not (pt_val (pe_callB call_isX (by rfl) T.isinstance (by decide +kernel) (pa_cons (pv 9) (pa_cons (pe_glob (v := .ref cS) (by rfl) C.gS rfl) pa_nil))))) (pw_or1 (pt_not (pt_val (pe_callB call_isX (by rfl) T.isinstance (by decide +kernel) (pa_cons (pv 9) (pa_cons (pe_bltn (v := .ty "ValueError") (by rfl) T.VE (by decide +kernel) rfl) pa_nil)))))))) (pss_one (ps_ret pe_bl)) pss_nil)
          (pss_one (ps_if (pt_not (pt_val (pe_call GS hr (by rfl) T.gS kS bS .nil pass0 (pa_cons (pe_call GK h1 (by rfl) T.gK kK bK .nil pass0 (pa_cons (pv 9) pa_nil)) (pa_cons (pe_lc (own := [("j", 11)]) (g := gName 11) (tt := tYes) rfl scLaw.nd (pi_range1 (by rfl) T.range (pa_cons pe_int pa_nil))
              (blkOk_by (N := ["script", "pen", "turn", "word", "number", "name", "thing", "some", "k", "one", "fields", "j"]) (sc := defScope sLaw) (by decide +kernel))
              (fun _ _ _ _ _ => by exact pg_name (i := 11) scLaw.nd rfl (.inl rfl)) (fun _ _ _ _ _ => pts_nil)
              (fun _ _ _ _ _ => by exact pe_cmpR op_eq (pv 11) (pv 8) (nomark _))) pa_nil))))) (pss_one (ps_ret pe_bl)) pss_nil))))
        (pss_cons (ps_set (i := 10) scLaw.nd rfl (.inl rfl) (pe_lst (pa_cons (pe_xa (pe_ix ix_list (pv 7) pe_int (fun _ _ => rfl))) (pa_cons (pe_xa (pe_ix ix_list (pv 7) pe_int (fun _ _ => rfl))) (pa_cons (pe_xa (pe_ix ix_list (pv 7) pe_int (fun _ _ => rfl))) (pa_cons (pe_xa (pe_ix ix_list (pv 7) pe_int (fun _ _ => rfl))) (pa_cons (pe_xa (pe_ix ix_list (pv 7) pe_int (fun _ _ => rfl))) pa_nil)))))))
        (pss_one (ps_if (pt_not (pt_val (pe_call GS hr (by rfl) T.gS kS bS .nil pass0 (pa_cons (pv 10) (pa_cons (pe_lst (pa_cons (pv 6) (pa_cons (pv 4) (pa_cons (pv 6) (pa_cons (pv 5) (pa_cons (pe_op op_add pe_int (pv 4)) pa_nil)))))) pa_nil))))) (pss_one (ps_ret pe_bl)) pss_nil))))))))))
      (pss_one (ps_ret pe_bl))), ?_⟩
    -- pen = _law_open(script)
    refine ⟨_, rfl, a, ns, rfl, hS, hlen, fun H0 p c ms s0 P0 _ => ?_⟩
    refine ⟨3, rfl, by decide, by decide, ?_⟩
    refine for_range (lo := 0) (n := 3) (fun t σ H1 => ∃ (y2 y3 y4 y5 y6 y7 y8 y9 y10 : Option V), σ = [some (.ref a), some (.ref p), y2, y3, y4, y5, y6, y7, y8, y9, y10, none] ∧ Pen H1 p c ms (1000 * t))
      ⟨none, none, none, none, none, none, none, none, none, rfl, P0⟩ ?_ (fun σ H1 _ => q H1)
    rintro t σ H1 ht ⟨y2, y3, y4, y5, y6, y7, y8, y9, y10, rfl, P1⟩
    -- word, number
    refine ⟨by show 3 ≤ sizeLine; decide, fun L1 nL1 => ?_⟩
    obtain ⟨npL1, ncL1⟩ := P1.nep nL1
    refine ⟨_, rfl, p, c, ms, _, 3, rfl, P1.same (same_upd nL1), by unfold penMost; omega, by decide, by decide, fun r1 H2 r10 r11 kp2 P2 => ?_⟩
    obtain ⟨word, hw⟩ := at3t r10 r11
    refine ⟨L1, _, r1, _, rfl, rfl, SqL.of (kp2 _ _ upd_same npL1.symm), hw, ?_⟩
    refine ⟨_, rfl, p, c, ms, _, 4, rfl, P2, by unfold penMost; omega, by decide, by decide, fun num H3 n0 n1 kp3 P3 => ?_⟩
    refine ⟨_, _, rfl, ?_⟩
    -- name
    refine ⟨by show 3 ≤ sizeLine; decide, fun L2 nL2 => ?_⟩
    obtain ⟨npL2, ncL2⟩ := P3.nep nL2
    refine ⟨_, rfl, p, c, ms, _, 3, rfl, P3.same (same_upd nL2), by unfold penMost; omega, by decide, by decide, fun r2 H4 r20 r21 kp4 P4 => ?_⟩
    obtain ⟨name, hn⟩ := at3t r20 r21
    refine ⟨L2, _, r2, _, rfl, rfl, SqL.of (kp4 _ _ upd_same npL2.symm), hn, ?_⟩
    -- thing
    refine ⟨by show 1 ≤ sizeLine; decide, fun la nla => ?_⟩
    have sla := same_upd (o := .lst [V.str (PySem.Str.ofString "a")]) nla
    refine ⟨by show 2 ≤ sizeLine; decide, fun ta nta => ?_⟩
    have sta := same_upd (o := .tup [V.str (PySem.Str.ofString "a"), V.int 1]) nta
    refine ⟨1, rfl, by show 8 ≤ sizeLine; decide, fun L3 nL3 => ?_⟩
    have sL3 := same_upd (o := .lst [V.non, V.str (PySem.Str.ofString ""), V.ref la, V.ref ta, V.int 7, V.bl true, V.str (PySem.Str.ofString "A"), V.int (-1)]) nL3
    have P5 := P4.same ((sla.trans sta).trans sL3)
    obtain ⟨npa, nca⟩ := P4.nep nla
    obtain ⟨npt, nct⟩ := (P4.same sla).nep nta
    obtain ⟨npL3, ncL3⟩ := (P4.same (sla.trans sta)).nep nL3
    refine ⟨_, rfl, p, c, ms, _, 8, rfl, P5, by unfold penMost; omega, by decide, by decide, fun r3 H6 r30 r31 kp6 P6 => ?_⟩
    have hla6 := kp6 _ _ (sL3 _ _ (sta _ _ upd_same)) npa.symm
    have hta6 := kp6 _ _ (sL3 _ _ upd_same) npt.symm
    obtain ⟨thing, dt, hth, dth, okt⟩ := at8t (K := K) (s0 := PySem.Str.ofString "") (s3 := PySem.Str.ofString "A") (i7 := 7) (j1 := -1) (bt := true) hla6 hta6 r30 r31
    refine ⟨L3, _, r3, _, rfl, rfl, SqL.of (kp6 _ _ upd_same npL3.symm), hth, ?_⟩
    -- some
    refine ⟨_, rfl, _, rfl, fun a0 G0 n0 s0 x0 => ?_⟩
    refine ⟨_, rfl, _, rfl, fun a1 G1 n1 s1 x1 => ?_⟩
    refine ⟨_, rfl, _, rfl, fun a2 G2 n2 s2 x2 => ?_⟩
    refine ⟨_, rfl, _, rfl, fun a3 G3 n3 s3 x3 => ?_⟩
    refine ⟨_, rfl, 8, num, rfl, rfl, _, rfl, fun a4 G4 n4 s4 x4 => ?_⟩
    refine ⟨_, rfl, fun a5 G5 n5 s5 x5 => ?_⟩
    refine ⟨by show 6 ≤ sizeLine; decide, fun l1 nl1 => ?_⟩
    have u1 := same_upd (o := .lst [V.ref a0, V.ref a1, V.ref a2, V.ref a3, V.ref a4, V.ref a5]) nl1
    refine ⟨_, rfl, _, rfl, fun a6 G6 n6 s6 x6 => ?_⟩
    refine ⟨_, rfl, fun a7 G7 n7 s7 x7 => ?_⟩
    refine ⟨_, rfl, fun a8 G8 n8 s8 x8 => ?_⟩
    refine ⟨_, rfl, fun a9 G9 n9 s9 x9 => ?_⟩
    refine ⟨_, rfl, fun a10 G10 n10 s10 x10 => ?_⟩
    refine ⟨_, rfl, fun a11 G11 n11 s11 x11 => ?_⟩
    refine ⟨by show 6 ≤ sizeLine; decide, fun m2 nm2 => ?_⟩
    have u2 := same_upd (o := .lst [V.ref a6, V.ref a7, V.ref a8, V.ref a9, V.ref a10, V.ref a11]) nm2
    refine ⟨l1, m2, _, _, rfl, rfl, u2 _ _ ((s6.trans (s7.trans (s8.trans (s9.trans (s10.trans s11))))) _ _ upd_same), upd_same, by show 12 ≤ sizeLine; decide, fun l2 nl2 => ?_⟩
    have u3 := same_upd (o := .lst ([V.ref a0, V.ref a1, V.ref a2, V.ref a3, V.ref a4, V.ref a5] ++ [V.ref a6, V.ref a7, V.ref a8, V.ref a9, V.ref a10, V.ref a11])) nl2
    have t11 := u2.trans u3
    have t10 := s11.trans t11
    have t9 := s10.trans t10
    have t8 := s9.trans t9
    have t7 := s8.trans t8
    have t6 := s7.trans t7
    have t5 := u1.trans (s6.trans t6)
    have t4 := s5.trans t5
    have t3 := s4.trans t4
    have t2 := s3.trans t3
    have t1 := s2.trans t2
    have t0 := s1.trans t1
    have z0 := x0.same t0
    have z1 := x1.same t1
    have z2 := x2.same t2
    have z3 := x3.same t3
    have z4 := x4.same t4
    have z5 := x5.same t5
    have z6 := x6.same t6
    have z7 := x7.same t7
    have z8 := x8.same t8
    have z9 := x9.same t9
    have z10 := x10.same t10
    have z11 := x11.same t11
    have sAll := s0.trans t0
    have hl2 : (upd (upd G11 m2 (.lst [V.ref a6, V.ref a7, V.ref a8, V.ref a9, V.ref a10, V.ref a11])) l2 (.lst ([V.ref a0, V.ref a1, V.ref a2, V.ref a3, V.ref a4, V.ref a5] ++ [V.ref a6, V.ref a7, V.ref a8, V.ref a9, V.ref a10, V.ref a11]))) l2 = some (.lst [V.ref a0, V.ref a1, V.ref a2, V.ref a3, V.ref a4, V.ref a5, V.ref a6, V.ref a7, V.ref a8, V.ref a9, V.ref a10, V.ref a11]) := upd_same
    have P7 := P6.same sAll
    have dth7 := dp_same sAll dth
    generalize (upd (upd G11 m2 (.lst [V.ref a6, V.ref a7, V.ref a8, V.ref a9, V.ref a10, V.ref a11])) l2 (.lst ([V.ref a0, V.ref a1, V.ref a2, V.ref a3, V.ref a4, V.ref a5] ++ [V.ref a6, V.ref a7, V.ref a8, V.ref a9, V.ref a10, V.ref a11]))) = Hf at z0 z1 z2 z3 z4 z5 z6 z7 z8 z9 z10 z11 hl2 P7 dth7 ⊢
    have all : ∀ (j : Nat) (v : V), ([V.ref a0, V.ref a1, V.ref a2, V.ref a3, V.ref a4, V.ref a5, V.ref a6, V.ref a7, V.ref a8, V.ref a9, V.ref a10, V.ref a11] : List V)[j]? = some v → ∃ (b D : Addr) (o : Option (Str × V)), v = .ref b ∧ ([c0, c1, c2, c3, c4, c5, c6, c7, c8, c9, c10, c11] : List Addr)[j]? = some D ∧ Xo Hf b D o := fun j v e => by
      match j, e with
      | 0, e => exact ⟨a0, c0, _, (Option.some.inj e).symm, rfl, z0⟩
      | 1, e => exact ⟨a1, c1, _, (Option.some.inj e).symm, rfl, z1⟩
      | 2, e => exact ⟨a2, c2, _, (Option.some.inj e).symm, rfl, z2⟩
      | 3, e => exact ⟨a3, c3, _, (Option.some.inj e).symm, rfl, z3⟩
      | 4, e => exact ⟨a4, c4, _, (Option.some.inj e).symm, rfl, z4⟩
      | 5, e => exact ⟨a5, c5, _, (Option.some.inj e).symm, rfl, z5⟩
      | 6, e => exact ⟨a6, c6, _, (Option.some.inj e).symm, rfl, z6⟩
      | 7, e => exact ⟨a7, c7, _, (Option.some.inj e).symm, rfl, z7⟩
      | 8, e => exact ⟨a8, c8, _, (Option.some.inj e).symm, rfl, z8⟩
      | 9, e => exact ⟨a9, c9, _, (Option.some.inj e).symm, rfl, z9⟩
      | 10, e => exact ⟨a10, c10, _, (Option.some.inj e).symm, rfl, z10⟩
      | 11, e => exact ⟨a11, c11, _, (Option.some.inj e).symm, rfl, z11⟩
      | n + 12, e => cases e
    -- for k, one in enumerate(some)
    refine ⟨_, rfl, l2, _, rfl, SqL.of hl2, ?_⟩
    refine for_it (walk_enum (K := K) (a := l2) (xs := [V.ref a0, V.ref a1, V.ref a2, V.ref a3, V.ref a4, V.ref a5, V.ref a6, V.ref a7, V.ref a8, V.ref a9, V.ref a10, V.ref a11])) (fun j σ H8 => ∃ (y8 y9 : Option V), σ = [some (.ref a), some (.ref p), some (.int (0 + (t : Int))), some (.str word), some (.int num), some (.str name), some thing, some (.ref l2), y8, y9, y10, none] ∧ Same Hf H8)
      ⟨y8, y9, rfl, Same.refl Hf⟩ ?_ ?_ ?_
    · rintro j σ H8 _ ⟨_, _, _, s8⟩
      exact SqL.of (s8 _ _ hl2)
    · rintro j v σ H8 H9 hj ⟨y8, y9, rfl, s8⟩ ⟨T1, v1, v2, rfl, nT, rfl, f1, f2⟩
      obtain rfl := Option.some.inj f1
      obtain ⟨b, D, o, rfl, hD, hx⟩ := all j v2 f2
      have memD := List.mem_of_getElem? hD
      have sT := same_upd (o := .tup [V.int (j : Int), V.ref b]) nT
      have s9 := s8.trans sT
      have hx9 := hx.same s9
      refine ⟨T1, _, rfl, SqT.of upd_same, rfl, _, _, rfl, _, _, rfl, rfl, ?_⟩
      refine ⟨_, rfl, b, D, o, .ref cS, .ref cS, true, rfl, fun u h => h, C.is D memD, hx9, C.kS D memD, ?_⟩
      refine ⟨_, rfl, ?_⟩
      refine ifF rfl ?_
      refine ⟨_, rfl, b, D, o, .ty "ValueError", .type "ValueError", true, rfl, fun u h => h, C.is D memD, hx9, C.kV D memD, ?_⟩
      refine ⟨_, rfl, ?_⟩
      refine ifF rfl ?_
      -- of which classes it is
      refine ⟨_, rfl, b, D, j, o, rfl, hD, hx9, fun H10 kq s10 nkq hkq => ?_⟩
      refine ⟨12, rfl, by decide, by decide, fun M nM => ?_⟩
      have sM := same_upd (o := .lst []) nM
      refine lc_range (lo := 0) (n := 12) (fun m H11 => Same H10 H11 ∧ H11 M = some (.lst (((List.range m).map fun x => decide (j = x)).map V.bl))) ⟨sM, upd_same⟩ ?_ ?_
      · rintro m H11 hm ⟨s11, hM⟩
        refine ⟨rfl, ?_⟩
        refine ⟨_, rfl, _, rfl, rfl, ?_⟩
        refine ⟨_, hM, by rw [List.length_map, List.length_map, List.length_range]; exact small_line (by omega), fun b o e => ?_, ?_⟩
        · rw [upd_ne (ne_of_none e nM)]
          exact s11 _ _ e
        · rw [upd_same, List.range_succ, List.map_append, List.map_append]
          have e2 : (decide (V.int (0 + (m : Int)) = V.int (j : Int))) = decide (j = m) := by
            rw [decide_eq_decide]
            refine ⟨fun h => ?_, fun h => ?_⟩
            · have := V.int.inj h
              omega
            · rw [h, Int.zero_add]
          rw [e2]
          rfl
      · rintro H11 ⟨s11, hM⟩
        refine ⟨.ref kq, .ref M, .list (((List.range 12).map fun x => decide (j = x)).map PyData.bool), rfl, .lst (SqL.of (s11 _ _ hkq)) (by rw [kindsV_map]; exact dpAll_bls _), .lst (SqL.of hM) (dpAll_bls _), ?_, fun H12 s12 => ?_⟩
        · simp only [okD, Bool.and_eq_true, decide_eq_true_eq, List.length_map, List.length_range]
          refine ⟨by decide, okAll_of fun d hd => ?_⟩
          obtain ⟨x, _, rfl⟩ := List.mem_map.mp hd
          rfl
        · refine ⟨_, rfl, ?_⟩
          refine ifF rfl ?_
          exact ⟨_, _, rfl, ((s9.trans s10).trans s11).trans s12⟩
    · rintro σ H8 ⟨y8, y9, rfl, s8⟩
      have hl8 := s8 _ _ hl2
      have w0 := z0.same s8
      have w1 := z1.same s8
      have w2 := z2.same s8
      have w3 := z3.same s8
      have w4 := z4.same s8
      refine ⟨_, rfl, l2, _, 0, .ref a0, rfl, rfl, SqL.of hl8, atI_nat (j := 0) rfl, a0, c0, _, rfl, X0, Z0.noF, w0, _, rfl, l2, _, 1, .ref a1, rfl, rfl, SqL.of hl8, atI_nat (j := 1) rfl, a1, c1, _, rfl, X1, Z1.noF, w1, _, rfl, l2, _, 2, .ref a2, rfl, rfl, SqL.of hl8, atI_nat (j := 2) rfl, a2, c2, _, rfl, X2, Z2.noF, w2, _, rfl, l2, _, 3, .ref a3, rfl, rfl, SqL.of hl8, atI_nat (j := 3) rfl, a3, c3, _, rfl, X3, Z3.noF, w3, _, rfl, l2, _, 4, .ref a4, rfl, rfl, SqL.of hl8, atI_nat (j := 4) rfl, a4, c4, _, rfl, X4, Z4.noF, w4, by show 5 ≤ sizeLine; decide, fun fa nfa => ?_⟩
      have sfa := same_upd (o := .lst [thing, .int num, thing, .str name, .int (8 + num)]) nfa
      refine ⟨_, rfl, _, rfl, _, rfl, _, rfl, _, rfl, _, rfl, 8, num, rfl, rfl, by show 5 ≤ sizeLine; decide, fun fb nfb => ?_⟩
      have sfb := same_upd (o := .lst [thing, .int num, thing, .str name, .int (8 + num)]) nfb
      have dth8 := dp_same ((s8.trans sfa).trans sfb) dth7
      refine ⟨.ref fa, .ref fb, .list [dt, .int num, dt, .str name, .int (8 + num)], rfl, .lst (SqL.of (sfb _ _ upd_same)) (.cons dth8 (.cons (.int _) (.cons dth8 (.cons (.str _) (.cons (.int _) .nil))))),
        .lst (SqL.of upd_same) (.cons dth8 (.cons (.int _) (.cons dth8 (.cons (.str _) (.cons (.int _) .nil))))), ?_, fun H12 s12 => ?_⟩
      · have okt3 : okD 3 dt = true := okD_up (n := 1) okt
        simp only [okD, okAll, okt3, Bool.and_true, decide_eq_true_eq, Bool.and_self]
        show 5 ≤ 1000000
        decide
      · refine ⟨_, rfl, ?_⟩
        refine ifF rfl ?_
        exact ⟨_, _, _, _, _, _, _, _, _, rfl, (P7.same (((s8.trans sfa).trans sfb).trans s12)).mono (by omega)⟩
end
/-! ### what the top has written -/
def xisB (K : PySem.W.Frag) (C : Addr) : Bool :=
  (PySem.W.clsIn K C).isSome && (decide (PySem.W.findIn K (.ref C) "__getattribute__" = some (some (.builtin "BaseException.__getattribute__"))) && (decide (PySem.W.findIn K (.ref C) "__getattr__" = some none) &&
    (decide (PySem.W.subIn K (.ref C) (.type "BaseException") = some true) && (decide (PySem.W.findIn K (.ref C) "__class__" = some (some (.builtin "object.__class__"))) && (decide (PySem.W.specialIn K (.builtin "object.__class__") "__get__" = some (some (.builtin "getset_descriptor.__get__"))) &&
    (decide (PySem.W.takesIn K (.builtin "object.__class__") = some true) && decide (PySem.W.mroIn K C (.type "object") = some true)))))))
theorem xisB_ok {K : PySem.W.Frag} {C : Addr} (h : xisB K C = true) : XisC K C := by
  obtain ⟨h1, h⟩ := Bool.and_eq_true_iff.mp h
  obtain ⟨h2, h⟩ := Bool.and_eq_true_iff.mp h
  obtain ⟨h3, h⟩ := Bool.and_eq_true_iff.mp h
  obtain ⟨h4, h⟩ := Bool.and_eq_true_iff.mp h
  obtain ⟨h5, h⟩ := Bool.and_eq_true_iff.mp h
  obtain ⟨h6, h⟩ := Bool.and_eq_true_iff.mp h
  obtain ⟨h7, h8⟩ := Bool.and_eq_true_iff.mp h
  exact ⟨h1, of_decide_eq_true h2, of_decide_eq_true h3, of_decide_eq_true h4, of_decide_eq_true h5, of_decide_eq_true h6, of_decide_eq_true h7, of_decide_eq_true h8⟩
def kitB (K : PySem.W.Frag) (cs : List Addr) : Bool :=
  (List.range cs.length).all fun i => (List.range cs.length).all fun j => decide (PySem.W.kitOne K (.ref (cs.getD i 0)) (.ref (cs.getD j 0)) = some (decide (i = j)))
theorem kitB_ok {K : PySem.W.Frag} {cs : List Addr} (h : kitB K cs = true) (i j : Nat) (c d : Addr) (hc : cs[i]? = some c) (hd : cs[j]? = some d) : PySem.W.kitOne K (.ref c) (.ref d) = some (decide (i = j)) := by
  have hi := (List.getElem?_eq_some_iff.mp hc).1
  have hj := (List.getElem?_eq_some_iff.mp hd).1
  have z := of_decide_eq_true (List.all_eq_true.mp (List.all_eq_true.mp h i (List.mem_range.mpr hi)) j (List.mem_range.mpr hj))
  rw [List.getD_eq_getElem?_getD, List.getD_eq_getElem?_getD, hc, hd] at z
  exact z
def kitA (K : PySem.W.Frag) (cs : List Addr) (t : Value) : Bool := cs.all fun c => decide (PySem.W.kitOne K (.ref c) t = some true)
theorem kitA_ok {K : PySem.W.Frag} {cs : List Addr} {t : Value} (h : kitA K cs t = true) : ∀ c ∈ cs, PySem.W.kitOne K (.ref c) t = some true := fun c hc => of_decide_eq_true (List.all_eq_true.mp h c hc)
theorem all_mk {l : PySem.W.OpenLaw} {w : World} {K : PySem.W.Frag} {h : Heap} {mg : Str → Option Value} {fa f1 f2 f3 f4 f5 f6 : Addr} (X : K.In h) (G : h.Ns mainGlobals mg) (hfa : mg "law" = some (.ref fa))
    {od1 an1 od2 an2 od3 an3 od4 an4 od5 an5 od6 an6 : Option Addr} {sl1 sl2 sl3 sl4 sl5 sl6 : Array (Option Value)} {oc1 kV1 dc1 pm1 cd1 ct1 oc2 kV2 dc2 pm2 cd2 ct2 oc3 kV3 dc3 pm3 cd3 ct3 oc4 kV4 dc4 pm4 cd4 ct4 oc5 kV5 dc5 pm5 cd5 ct5 oc6 kV6 dc6 pm6 cd6 ct6 : Value}
    {c0 c1 c2 c3 c4 c5 c6 c7 c8 c9 c10 c11 cS : Addr}
    {i0 N0 cc0 cda0 : Addr} {nm0 qn0 : Str} {bs0 bm0 sub0 : List Value} {sn0 : List Str} {ab0 : Bool} {col0 : Option Bool} {dd0 : Option Addr} {k00 k10 k20 k30 k50 : Option Value}
    {qual0 txt0 file0 : Str} {pa0 pb0 qa0 qb0 qc0 qd0 qe0 qf0 ra0 rb0 rc0 rd0 : Pos} {io0 idc0 ipm0 ict0 ccl0 cel0 : Value} {iod0 cdd0 ced0 : Option Addr} {isl0 ccs0 csl0 : Array (Option Value)} {vs0 : Array Value} {tf0 : Tok}
    {i1 N1 cc1 cda1 : Addr} {nm1 qn1 : Str} {bs1 bm1 sub1 : List Value} {sn1 : List Str} {ab1 : Bool} {col1 : Option Bool} {dd1 : Option Addr} {k01 k11 k21 k31 k51 : Option Value}
    {qual1 txt1 file1 : Str} {pa1 pb1 qa1 qb1 qc1 qd1 qe1 qf1 ra1 rb1 rc1 rd1 : Pos} {io1 idc1 ipm1 ict1 ccl1 cel1 : Value} {iod1 cdd1 ced1 : Option Addr} {isl1 ccs1 csl1 : Array (Option Value)} {vs1 : Array Value} {tf1 : Tok}
    {i2 N2 cc2 cda2 : Addr} {nm2 qn2 : Str} {bs2 bm2 sub2 : List Value} {sn2 : List Str} {ab2 : Bool} {col2 : Option Bool} {dd2 : Option Addr} {k02 k12 k22 k32 k52 : Option Value}
    {qual2 txt2 file2 : Str} {pa2 pb2 qa2 qb2 qc2 qd2 qe2 qf2 ra2 rb2 rc2 rd2 : Pos} {io2 idc2 ipm2 ict2 ccl2 cel2 : Value} {iod2 cdd2 ced2 : Option Addr} {isl2 ccs2 csl2 : Array (Option Value)} {vs2 : Array Value} {tf2 : Tok}
    {i3 N3 cc3 cda3 : Addr} {nm3 qn3 : Str} {bs3 bm3 sub3 : List Value} {sn3 : List Str} {ab3 : Bool} {col3 : Option Bool} {dd3 : Option Addr} {k03 k13 k23 k33 k53 : Option Value}
    {qual3 txt3 file3 : Str} {pa3 pb3 qa3 qb3 qc3 qd3 qe3 qf3 ra3 rb3 rc3 rd3 : Pos} {io3 idc3 ipm3 ict3 ccl3 cel3 : Value} {iod3 cdd3 ced3 : Option Addr} {isl3 ccs3 csl3 : Array (Option Value)} {vs3 : Array Value} {tf3 : Tok}
    {i4 N4 cc4 cda4 : Addr} {nm4 qn4 : Str} {bs4 bm4 sub4 : List Value} {sn4 : List Str} {ab4 : Bool} {col4 : Option Bool} {dd4 : Option Addr} {k04 k14 k24 k34 k54 : Option Value}
    {qual4 txt4 file4 : Str} {pa4 pb4 qa4 qb4 qc4 qd4 qe4 qf4 ra4 rb4 rc4 rd4 : Pos} {io4 idc4 ipm4 ict4 ccl4 cel4 : Value} {iod4 cdd4 ced4 : Option Addr} {isl4 ccs4 csl4 : Array (Option Value)} {vs4 : Array Value} {tf4 : Tok}
    (a1 : PySem.W.nsIn K mainGlobals "_law_open" = some (some (.ref f1)))
    (l1 : K.lookup f1 = some ⟨oc1, od1, .func (PySem.W.fnOf "_law_open" "_law_open" (defArgs sOpen) (defBody sOpen) (defScope sOpen) .none kV1 dc1 pm1 an1 cd1 ct1), sl1⟩)
    (d1 : PySem.W.codeIn K cd1 "_law_open" = true)
    (k1 : PySem.W.keepIn K (.ref f1) = true)
    (a2 : PySem.W.nsIn K mainGlobals "_law_spread" = some (some (.ref f2)))
    (l2 : K.lookup f2 = some ⟨oc2, od2, .func (PySem.W.fnOf "_law_spread" "_law_spread" (defArgs sSpread) (defBody sSpread) (defScope sSpread) .none kV2 dc2 pm2 an2 cd2 ct2), sl2⟩)
    (d2 : PySem.W.codeIn K cd2 "_law_spread" = true)
    (k2 : PySem.W.keepIn K (.ref f2) = true)
    (a3 : PySem.W.nsIn K mainGlobals "_law_take" = some (some (.ref f3)))
    (l3 : K.lookup f3 = some ⟨oc3, od3, .func (PySem.W.fnOf "_law_take" "_law_take" (defArgs sTake) (defBody sTake) (defScope sTake) .none kV3 dc3 pm3 an3 cd3 ct3), sl3⟩)
    (d3 : PySem.W.codeIn K cd3 "_law_take" = true)
    (k3 : PySem.W.keepIn K (.ref f3) = true)
    (a4 : PySem.W.nsIn K mainGlobals "_law_same" = some (some (.ref f4)))
    (l4 : K.lookup f4 = some ⟨oc4, od4, .func (PySem.W.fnOf "_law_same" "_law_same" (defArgs sSame) (defBody sSame) (defScope sSame) .none kV4 dc4 pm4 an4 cd4 ct4), sl4⟩)
    (d4 : PySem.W.codeIn K cd4 "_law_same" = true)
    (k4 : PySem.W.keepIn K (.ref f4) = true)
    (a5 : PySem.W.nsIn K mainGlobals "_law_kinds" = some (some (.ref f5)))
    (l5 : K.lookup f5 = some ⟨oc5, od5, .func (PySem.W.fnOf "_law_kinds" "_law_kinds" (defArgs sKinds) (defBody sKinds) (defScope sKinds) .none kV5 dc5 pm5 an5 cd5 ct5), sl5⟩)
    (d5 : PySem.W.codeIn K cd5 "_law_kinds" = true)
    (k5 : PySem.W.keepIn K (.ref f5) = true)
    (a6 : PySem.W.nsIn K mainGlobals "law" = some (some (.ref f6)))
    (l6 : K.lookup f6 = some ⟨oc6, od6, .func (PySem.W.fnOf "law" "law" (defArgs sLaw) (defBody sLaw) (defScope sLaw) .none kV6 dc6 pm6 an6 cd6 ct6), sl6⟩)
    (d6 : PySem.W.codeIn K cd6 "law" = true)
    (k6 : PySem.W.keepIn K (.ref f6) = true)
    (z1 : PySem.W.nsIn K mainGlobals "range" = some none)
    (z2 : PySem.W.nsIn K mainGlobals "enumerate" = some none)
    (z3 : PySem.W.nsIn K mainGlobals "tuple" = some none)
    (z4 : PySem.W.nsIn K mainGlobals "zip" = some none)
    (z5 : PySem.W.nsIn K mainGlobals "len" = some none)
    (z6 : PySem.W.nsIn K mainGlobals "list" = some none)
    (z7 : PySem.W.nsIn K mainGlobals "isinstance" = some none)
    (z8 : PySem.W.nsIn K mainGlobals "bool" = some none)
    (z9 : PySem.W.nsIn K mainGlobals "int" = some none)
    (z10 : PySem.W.nsIn K mainGlobals "str" = some none)
    (z11 : PySem.W.nsIn K mainGlobals "super" = some none)
    (z12 : PySem.W.nsIn K mainGlobals "ValueError" = some none)
    (gc0 : PySem.W.nsIn K mainGlobals "NoAsk" = some (some (.ref c0)))
    (gc1 : PySem.W.nsIn K mainGlobals "NoKind" = some (some (.ref c1)))
    (gc2 : PySem.W.nsIn K mainGlobals "NoName" = some (some (.ref c2)))
    (gc3 : PySem.W.nsIn K mainGlobals "Taken" = some (some (.ref c3)))
    (gc4 : PySem.W.nsIn K mainGlobals "Full" = some (some (.ref c4)))
    (gc5 : PySem.W.nsIn K mainGlobals "NoHouse" = some (some (.ref c5)))
    (gc6 : PySem.W.nsIn K mainGlobals "NoStore" = some (some (.ref c6)))
    (gc7 : PySem.W.nsIn K mainGlobals "NoWay" = some (some (.ref c7)))
    (gc8 : PySem.W.nsIn K mainGlobals "NoSpare" = some (some (.ref c8)))
    (gc9 : PySem.W.nsIn K mainGlobals "NoGuide" = some (some (.ref c9)))
    (gc10 : PySem.W.nsIn K mainGlobals "NoBook" = some (some (.ref c10)))
    (gc11 : PySem.W.nsIn K mainGlobals "NoRound" = some (some (.ref c11)))
    (gcS : PySem.W.nsIn K mainGlobals "StockError" = some (some (.ref cS)))
    (kc0 : PySem.W.keepIn K (.ref c0) = true)
    (kc1 : PySem.W.keepIn K (.ref c1) = true)
    (kc2 : PySem.W.keepIn K (.ref c2) = true)
    (kc3 : PySem.W.keepIn K (.ref c3) = true)
    (kc4 : PySem.W.keepIn K (.ref c4) = true)
    (kc5 : PySem.W.keepIn K (.ref c5) = true)
    (kc6 : PySem.W.keepIn K (.ref c6) = true)
    (kc7 : PySem.W.keepIn K (.ref c7) = true)
    (kc8 : PySem.W.keepIn K (.ref c8) = true)
    (kc9 : PySem.W.keepIn K (.ref c9) = true)
    (kc10 : PySem.W.keepIn K (.ref c10) = true)
    (kc11 : PySem.W.keepIn K (.ref c11) = true)
    (xst : PySem.W.nsIn K cStatics "thirdparty.any" = some none)
    (xtop : (l.prog.main.scope.names.lookup ("super" : Str)).isSome = false)
    (xl0 : K.lookup c0 = some (excClassObj nm0 qn0 c0 N0 bs0 bm0 true sn0 sub0 ab0 col0 dd0 k00 k10 k20 k30 k50 "ValueError.__new__"))
    (xr0 : PySem.HandSPX.refsVE bm0 = true)
    (xs0 : PySem.W.findIn K (.ref c0) "__setattr__" = some (some (.builtin "object.__setattr__")))
    (xf0 : PySem.W.findIn K (.ref c0) "number" = some none)
    (xi0 : PySem.W.findIn K (.ref c0) "__init__" = some (some (.ref i0)))
    (xt0 : PySem.W.typeIn K (.ref i0) = some (.type "function"))
    (xn0 : K.lookup i0 = some ⟨io0, iod0, .func ((⟨"__init__", qual0, iA "number" pa0 pb0, iB "number" txt0 qa0 qb0 qc0 qd0 qe0 qf0 ra0 rb0 rc0 rd0, iS "number", [("__class__", cc0)], cda0⟩ : NF).fd idc0 ipm0 ict0), isl0⟩)
    (xh0 : (qc0.endLine == qe0.line) = true)
    (xc0 : PySem.W.codeIn K (.ref cda0) qual0 = true)
    (xd0 : K.lookup cda0 = some ⟨ccl0, cdd0, .fields vs0, ccs0⟩)
    (xv0 : vs0[2]? = some (.str file0 tf0))
    (xw0 : ((l.prog.main.file : Str) == file0) = true)
    (xe0 : K.lookup cc0 = some ⟨cel0, ced0, .cell (some (.ref c0)), csl0⟩)
    (xm0 : PySem.W.mroIn K c0 (.ref c0) = some true)
    (xa0 : PySem.W.ks_superIn K c0 c0 "__init__" = some (some (.builtin "ValueError.__init__")))
    (xb0 : PySem.W.subIn K (.ref c0) (.type "ValueError") = some true)
    (xy0 : PySem.W.typeIn K (.ref c0) = some (.type "type"))
    (xz0 : PySem.W.hasDictIn K c0 = true)
    (xl1 : K.lookup c1 = some (excClassObj nm1 qn1 c1 N1 bs1 bm1 true sn1 sub1 ab1 col1 dd1 k01 k11 k21 k31 k51 "ValueError.__new__"))
    (xr1 : PySem.HandSPX.refsVE bm1 = true)
    (xs1 : PySem.W.findIn K (.ref c1) "__setattr__" = some (some (.builtin "object.__setattr__")))
    (xf1 : PySem.W.findIn K (.ref c1) "number" = some none)
    (xi1 : PySem.W.findIn K (.ref c1) "__init__" = some (some (.ref i1)))
    (xt1 : PySem.W.typeIn K (.ref i1) = some (.type "function"))
    (xn1 : K.lookup i1 = some ⟨io1, iod1, .func ((⟨"__init__", qual1, iA "number" pa1 pb1, iB "number" txt1 qa1 qb1 qc1 qd1 qe1 qf1 ra1 rb1 rc1 rd1, iS "number", [("__class__", cc1)], cda1⟩ : NF).fd idc1 ipm1 ict1), isl1⟩)
    (xh1 : (qc1.endLine == qe1.line) = true)
    (xc1 : PySem.W.codeIn K (.ref cda1) qual1 = true)
    (xd1 : K.lookup cda1 = some ⟨ccl1, cdd1, .fields vs1, ccs1⟩)
    (xv1 : vs1[2]? = some (.str file1 tf1))
    (xw1 : ((l.prog.main.file : Str) == file1) = true)
    (xe1 : K.lookup cc1 = some ⟨cel1, ced1, .cell (some (.ref c1)), csl1⟩)
    (xm1 : PySem.W.mroIn K c1 (.ref c1) = some true)
    (xa1 : PySem.W.ks_superIn K c1 c1 "__init__" = some (some (.builtin "ValueError.__init__")))
    (xb1 : PySem.W.subIn K (.ref c1) (.type "ValueError") = some true)
    (xy1 : PySem.W.typeIn K (.ref c1) = some (.type "type"))
    (xz1 : PySem.W.hasDictIn K c1 = true)
    (xl2 : K.lookup c2 = some (excClassObj nm2 qn2 c2 N2 bs2 bm2 true sn2 sub2 ab2 col2 dd2 k02 k12 k22 k32 k52 "ValueError.__new__"))
    (xr2 : PySem.HandSPX.refsVE bm2 = true)
    (xs2 : PySem.W.findIn K (.ref c2) "__setattr__" = some (some (.builtin "object.__setattr__")))
    (xf2 : PySem.W.findIn K (.ref c2) "name" = some none)
    (xi2 : PySem.W.findIn K (.ref c2) "__init__" = some (some (.ref i2)))
    (xt2 : PySem.W.typeIn K (.ref i2) = some (.type "function"))
    (xn2 : K.lookup i2 = some ⟨io2, iod2, .func ((⟨"__init__", qual2, iA "name" pa2 pb2, iB "name" txt2 qa2 qb2 qc2 qd2 qe2 qf2 ra2 rb2 rc2 rd2, iS "name", [("__class__", cc2)], cda2⟩ : NF).fd idc2 ipm2 ict2), isl2⟩)
    (xh2 : (qc2.endLine == qe2.line) = true)
    (xc2 : PySem.W.codeIn K (.ref cda2) qual2 = true)
    (xd2 : K.lookup cda2 = some ⟨ccl2, cdd2, .fields vs2, ccs2⟩)
    (xv2 : vs2[2]? = some (.str file2 tf2))
    (xw2 : ((l.prog.main.file : Str) == file2) = true)
    (xe2 : K.lookup cc2 = some ⟨cel2, ced2, .cell (some (.ref c2)), csl2⟩)
    (xm2 : PySem.W.mroIn K c2 (.ref c2) = some true)
    (xa2 : PySem.W.ks_superIn K c2 c2 "__init__" = some (some (.builtin "ValueError.__init__")))
    (xb2 : PySem.W.subIn K (.ref c2) (.type "ValueError") = some true)
    (xy2 : PySem.W.typeIn K (.ref c2) = some (.type "type"))
    (xz2 : PySem.W.hasDictIn K c2 = true)
    (xl3 : K.lookup c3 = some (excClassObj nm3 qn3 c3 N3 bs3 bm3 true sn3 sub3 ab3 col3 dd3 k03 k13 k23 k33 k53 "ValueError.__new__"))
    (xr3 : PySem.HandSPX.refsVE bm3 = true)
    (xs3 : PySem.W.findIn K (.ref c3) "__setattr__" = some (some (.builtin "object.__setattr__")))
    (xf3 : PySem.W.findIn K (.ref c3) "name" = some none)
    (xi3 : PySem.W.findIn K (.ref c3) "__init__" = some (some (.ref i3)))
    (xt3 : PySem.W.typeIn K (.ref i3) = some (.type "function"))
    (xn3 : K.lookup i3 = some ⟨io3, iod3, .func ((⟨"__init__", qual3, iA "name" pa3 pb3, iB "name" txt3 qa3 qb3 qc3 qd3 qe3 qf3 ra3 rb3 rc3 rd3, iS "name", [("__class__", cc3)], cda3⟩ : NF).fd idc3 ipm3 ict3), isl3⟩)
    (xh3 : (qc3.endLine == qe3.line) = true)
    (xc3 : PySem.W.codeIn K (.ref cda3) qual3 = true)
    (xd3 : K.lookup cda3 = some ⟨ccl3, cdd3, .fields vs3, ccs3⟩)
    (xv3 : vs3[2]? = some (.str file3 tf3))
    (xw3 : ((l.prog.main.file : Str) == file3) = true)
    (xe3 : K.lookup cc3 = some ⟨cel3, ced3, .cell (some (.ref c3)), csl3⟩)
    (xm3 : PySem.W.mroIn K c3 (.ref c3) = some true)
    (xa3 : PySem.W.ks_superIn K c3 c3 "__init__" = some (some (.builtin "ValueError.__init__")))
    (xb3 : PySem.W.subIn K (.ref c3) (.type "ValueError") = some true)
    (xy3 : PySem.W.typeIn K (.ref c3) = some (.type "type"))
    (xz3 : PySem.W.hasDictIn K c3 = true)
    (xl4 : K.lookup c4 = some (excClassObj nm4 qn4 c4 N4 bs4 bm4 true sn4 sub4 ab4 col4 dd4 k04 k14 k24 k34 k54 "ValueError.__new__"))
    (xr4 : PySem.HandSPX.refsVE bm4 = true)
    (xs4 : PySem.W.findIn K (.ref c4) "__setattr__" = some (some (.builtin "object.__setattr__")))
    (xf4 : PySem.W.findIn K (.ref c4) "most" = some none)
    (xi4 : PySem.W.findIn K (.ref c4) "__init__" = some (some (.ref i4)))
    (xt4 : PySem.W.typeIn K (.ref i4) = some (.type "function"))
    (xn4 : K.lookup i4 = some ⟨io4, iod4, .func ((⟨"__init__", qual4, iA "most" pa4 pb4, iB "most" txt4 qa4 qb4 qc4 qd4 qe4 qf4 ra4 rb4 rc4 rd4, iS "most", [("__class__", cc4)], cda4⟩ : NF).fd idc4 ipm4 ict4), isl4⟩)
    (xh4 : (qc4.endLine == qe4.line) = true)
    (xc4 : PySem.W.codeIn K (.ref cda4) qual4 = true)
    (xd4 : K.lookup cda4 = some ⟨ccl4, cdd4, .fields vs4, ccs4⟩)
    (xv4 : vs4[2]? = some (.str file4 tf4))
    (xw4 : ((l.prog.main.file : Str) == file4) = true)
    (xe4 : K.lookup cc4 = some ⟨cel4, ced4, .cell (some (.ref c4)), csl4⟩)
    (xm4 : PySem.W.mroIn K c4 (.ref c4) = some true)
    (xa4 : PySem.W.ks_superIn K c4 c4 "__init__" = some (some (.builtin "ValueError.__init__")))
    (xb4 : PySem.W.subIn K (.ref c4) (.type "ValueError") = some true)
    (xy4 : PySem.W.typeIn K (.ref c4) = some (.type "type"))
    (xz4 : PySem.W.hasDictIn K c4 = true)
    (xq5 : PySem.W.excIn K c5 [.type "ValueError", .type "Exception", .type "BaseException", .type "object"] "ValueError.__new__" = true)
    (xq6 : PySem.W.excIn K c6 [.type "ValueError", .type "Exception", .type "BaseException", .type "object"] "ValueError.__new__" = true)
    (xq7 : PySem.W.excIn K c7 [.type "ValueError", .type "Exception", .type "BaseException", .type "object"] "ValueError.__new__" = true)
    (xq8 : PySem.W.excIn K c8 [.type "ValueError", .type "Exception", .type "BaseException", .type "object"] "ValueError.__new__" = true)
    (xq9 : PySem.W.excIn K c9 [.type "ValueError", .type "Exception", .type "BaseException", .type "object"] "ValueError.__new__" = true)
    (xq10 : PySem.W.excIn K c10 [.type "ValueError", .type "Exception", .type "BaseException", .type "object"] "ValueError.__new__" = true)
    (xq11 : PySem.W.excIn K c11 [.type "ValueError", .type "Exception", .type "BaseException", .type "object"] "ValueError.__new__" = true)
    (xis : ([c0, c1, c2, c3, c4, c5, c6, c7, c8, c9, c10, c11] : List Addr).all (xisB K) = true)
    (xkit : kitB K [c0, c1, c2, c3, c4, c5, c6, c7, c8, c9, c10, c11] = true)
    (xkS : kitA K [c0, c1, c2, c3, c4, c5, c6, c7, c8, c9, c10, c11] (.ref cS) = true)
    (xkV : kitA K [c0, c1, c2, c3, c4, c5, c6, c7, c8, c9, c10, c11] (.type "ValueError") = true)
    : ∃ fd : FuncData, (∀ (s : Shared) (v : Value), BindsTo s fd ⟨[v], []⟩ [("script", v)]) ∧ ∀ base : Heap, K.In base → base.Ns mainGlobals mg → FnOk l.prog w K mg base CX0 6 fa fd ["script"] (spLaw K) := by
  have e := hfa.symm.trans (PySem.W.mg_of X G a6)
  cases e
  have F1 := fun_mk (st := sOpen) l1 d1 k1
  have g1 := PySem.W.mg_of X G a1
  have b1 := F1.binds (ps := ["script"]) fun _ _ _ _ _ _ us hl => match us, hl with | [_], _ => rfl
  have F2 := fun_mk (st := sSpread) l2 d2 k2
  have g2 := PySem.W.mg_of X G a2
  have b2 := F2.binds (ps := ["cell", "at"]) fun _ _ _ _ _ _ us hl => match us, hl with | [_, _], _ => rfl
  have F3 := fun_mk (st := sTake) l3 d3 k3
  have g3 := PySem.W.mg_of X G a3
  have b3 := F3.binds (ps := ["pen", "amount"]) fun _ _ _ _ _ _ us hl => match us, hl with | [_, _], _ => rfl
  have F4 := fun_mk (st := sSame) l4 d4 k4
  have g4 := PySem.W.mg_of X G a4
  have b4 := F4.binds (ps := ["found", "due"]) fun _ _ _ _ _ _ us hl => match us, hl with | [_, _], _ => rfl
  have F5 := fun_mk (st := sKinds) l5 d5 k5
  have g5 := PySem.W.mg_of X G a5
  have b5 := F5.binds (ps := ["one"]) fun _ _ _ _ _ _ us hl => match us, hl with | [_], _ => rfl
  have F6 := fun_mk (st := sLaw) l6 d6 k6
  have g6 := PySem.W.mg_of X G a6
  have m_range := PySem.W.mg_none_of X G z1
  have m_enumerate := PySem.W.mg_none_of X G z2
  have m_tuple := PySem.W.mg_none_of X G z3
  have m_zip := PySem.W.mg_none_of X G z4
  have m_len := PySem.W.mg_none_of X G z5
  have m_list := PySem.W.mg_none_of X G z6
  have m_isinstance := PySem.W.mg_none_of X G z7
  have m_bool := PySem.W.mg_none_of X G z8
  have m_int := PySem.W.mg_none_of X G z9
  have m_str := PySem.W.mg_none_of X G z10
  have m_super := PySem.W.mg_none_of X G z11
  have m_ValueError := PySem.W.mg_none_of X G z12
  have y0 := PySem.W.mg_of X G gc0
  have y1 := PySem.W.mg_of X G gc1
  have y2 := PySem.W.mg_of X G gc2
  have y3 := PySem.W.mg_of X G gc3
  have y4 := PySem.W.mg_of X G gc4
  have y5 := PySem.W.mg_of X G gc5
  have y6 := PySem.W.mg_of X G gc6
  have y7 := PySem.W.mg_of X G gc7
  have y8 := PySem.W.mg_of X G gc8
  have y9 := PySem.W.mg_of X G gc9
  have y10 := PySem.W.mg_of X G gc10
  have y11 := PySem.W.mg_of X G gc11
  have yS := PySem.W.mg_of X G gcS
  have xa := List.all_eq_true.mp xis
  have C : Cls K mg c0 c1 c2 c3 c4 c5 c6 c7 c8 c9 c10 c11 cS := ⟨y0, y1, y2, y3, y4, y5, y6, y7, y8, y9, y10, y11, yS, fun c hc => xisB_ok (xa c hc), fun i j c d hc hd => kitB_ok xkit i j c d hc hd, kitA_ok xkS, kitA_ok xkV⟩
  have X0 := xisB_ok (xa c0 (by simp))
  have T0 : OexC K c0 := ⟨⟨_, _, _, _, _, _, _, _, _, _, _, _, _, _, _, xl0, xr0⟩, xs0, X0.hs, xy0, kc0⟩
  have Z0 : InitTxt l.prog K mg c0 i0 "number" := ⟨T0, xf0, xi0, xt0, ⟨qual0, txt0, cc0, cda0, pa0, pb0, qa0, qb0, qc0, qd0, qe0, qf0, ra0, rb0, rc0, rd0, io0, iod0, idc0, ipm0, ict0, isl0, ccl0, cdd0, vs0, ccs0, file0, tf0, cel0, ced0, csl0, xh0, xn0, xc0, xd0, xv0, xw0, xe0⟩, X0.hc, xm0, m_super, xtop, xst, xa0, xb0⟩
  have W0 : XfC K c0 := ⟨X0.hg, X0.hk, X0.hs, xz0⟩
  have X1 := xisB_ok (xa c1 (by simp))
  have T1 : OexC K c1 := ⟨⟨_, _, _, _, _, _, _, _, _, _, _, _, _, _, _, xl1, xr1⟩, xs1, X1.hs, xy1, kc1⟩
  have Z1 : InitTxt l.prog K mg c1 i1 "number" := ⟨T1, xf1, xi1, xt1, ⟨qual1, txt1, cc1, cda1, pa1, pb1, qa1, qb1, qc1, qd1, qe1, qf1, ra1, rb1, rc1, rd1, io1, iod1, idc1, ipm1, ict1, isl1, ccl1, cdd1, vs1, ccs1, file1, tf1, cel1, ced1, csl1, xh1, xn1, xc1, xd1, xv1, xw1, xe1⟩, X1.hc, xm1, m_super, xtop, xst, xa1, xb1⟩
  have W1 : XfC K c1 := ⟨X1.hg, X1.hk, X1.hs, xz1⟩
  have X2 := xisB_ok (xa c2 (by simp))
  have T2 : OexC K c2 := ⟨⟨_, _, _, _, _, _, _, _, _, _, _, _, _, _, _, xl2, xr2⟩, xs2, X2.hs, xy2, kc2⟩
  have Z2 : InitTxt l.prog K mg c2 i2 "name" := ⟨T2, xf2, xi2, xt2, ⟨qual2, txt2, cc2, cda2, pa2, pb2, qa2, qb2, qc2, qd2, qe2, qf2, ra2, rb2, rc2, rd2, io2, iod2, idc2, ipm2, ict2, isl2, ccl2, cdd2, vs2, ccs2, file2, tf2, cel2, ced2, csl2, xh2, xn2, xc2, xd2, xv2, xw2, xe2⟩, X2.hc, xm2, m_super, xtop, xst, xa2, xb2⟩
  have W2 : XfC K c2 := ⟨X2.hg, X2.hk, X2.hs, xz2⟩
  have X3 := xisB_ok (xa c3 (by simp))
  have T3 : OexC K c3 := ⟨⟨_, _, _, _, _, _, _, _, _, _, _, _, _, _, _, xl3, xr3⟩, xs3, X3.hs, xy3, kc3⟩
  have Z3 : InitTxt l.prog K mg c3 i3 "name" := ⟨T3, xf3, xi3, xt3, ⟨qual3, txt3, cc3, cda3, pa3, pb3, qa3, qb3, qc3, qd3, qe3, qf3, ra3, rb3, rc3, rd3, io3, iod3, idc3, ipm3, ict3, isl3, ccl3, cdd3, vs3, ccs3, file3, tf3, cel3, ced3, csl3, xh3, xn3, xc3, xd3, xv3, xw3, xe3⟩, X3.hc, xm3, m_super, xtop, xst, xa3, xb3⟩
  have W3 : XfC K c3 := ⟨X3.hg, X3.hk, X3.hs, xz3⟩
  have X4 := xisB_ok (xa c4 (by simp))
  have T4 : OexC K c4 := ⟨⟨_, _, _, _, _, _, _, _, _, _, _, _, _, _, _, xl4, xr4⟩, xs4, X4.hs, xy4, kc4⟩
  have Z4 : InitTxt l.prog K mg c4 i4 "most" := ⟨T4, xf4, xi4, xt4, ⟨qual4, txt4, cc4, cda4, pa4, pb4, qa4, qb4, qc4, qd4, qe4, qf4, ra4, rb4, rc4, rd4, io4, iod4, idc4, ipm4, ict4, isl4, ccl4, cdd4, vs4, ccs4, file4, tf4, cel4, ced4, csl4, xh4, xn4, xc4, xd4, xv4, xw4, xe4⟩, X4.hc, xm4, m_super, xtop, xst, xa4, xb4⟩
  have W4 : XfC K c4 := ⟨X4.hg, X4.hk, X4.hs, xz4⟩
  refine ⟨PySem.W.fnOf "law" "law" (defArgs sLaw) (defBody sLaw) (defScope sLaw) .none kV6 dc6 pm6 an6 cd6 ct6, fun s v => .of_eq rfl, fun base _ _ => ?_⟩
  have B : Blt mg := ⟨m_isinstance, m_bool, m_int, m_str, m_tuple, m_list, m_len, m_zip⟩
  have GO : FnOk l.prog w K mg base CX0 1 f1 _ ["script"] (spOpen K) := ok_open (k := 0) F1 m_list m_enumerate
  have GT : FnOk l.prog w K mg base CX0 2 f3 _ ["pen", "amount"] spTake := ok_take (k := 0) F3 F2 b2 g2 m_len
  have GS : FnOk l.prog w K mg base CX0 5 f4 _ ["found", "due"] (spSame K 4) := ok_same F4 b4 g4 B 4
  have GK : FnOk l.prog w K mg base CX0 1 f5 _ ["one"] (spKinds K [c0, c1, c2, c3, c4, c5, c6, c7, c8, c9, c10, c11]) := ok_kinds (k := 0) F5 C m_isinstance
  exact ok_law F6 ⟨g1, g3, g4, g5, m_range, m_enumerate, m_isinstance, m_ValueError⟩ C Z0 W0 kc0 Z1 W1 kc1 Z2 W2 kc2 Z3 W3 kc3 Z4 W4 kc4 xq5 kc5 xq6 kc6 xq7 kc7 xq8 kc8 xq9 kc9 xq10 kc10 xq11 kc11 GO F1.kp b1 GT F3.kp b3 GS F4.kp b4 GK F5.kp b5
end My
open PySem PySem.W PyProof.Rows
set_option maxRecDepth 100000 in
set_option maxHeartbeats 0 in
theorem PySem.Challenge.cw_everstock_k06_refusals_made_by_hand_holds : PySem.Challenge.rw_everstock_k06_refusals_made_by_hand.Holds := by
  w_on; o_law; k_head; (case hw => w_witness2)
  k_fill
  refine L2.walk_of (l := PySem.Challenge.rw_everstock_k06_refusals_made_by_hand) (n := 63) (k := 6) (x := "script") (CX := fun _ => L2.CX0) (sp := fun w => My.spLaw _) rfl (by decide) rfl ⟨rfl, by decide, by decide⟩ (fun w h Y => PySem.W.kIn_of Y) ?F (fun _ _ a ns hl _ hS => ⟨a, ns, rfl, hS, hl, fun _ => rfl⟩) (fun _ _ _ _ _ h => h)
  case F =>
    intro w mg fa h KX G hmg
    refine' My.all_mk KX G hmg ?a1 ?l1 ?d1 ?k1 ?a2 ?l2 ?d2 ?k2 ?a3 ?l3 ?d3 ?k3 ?a4 ?l4 ?d4 ?k4 ?a5 ?l5 ?d5 ?k5 ?a6 ?l6 ?d6 ?k6 ?z1 ?z2 ?z3 ?z4 ?z5 ?z6 ?z7 ?z8 ?z9 ?z10 ?z11 ?z12 ?gc0 ?gc1 ?gc2 ?gc3 ?gc4 ?gc5 ?gc6 ?gc7 ?gc8 ?gc9 ?gc10 ?gc11 ?gcS ?kc0 ?kc1 ?kc2 ?kc3 ?kc4 ?kc5 ?kc6 ?kc7 ?kc8 ?kc9 ?kc10 ?kc11 ?xst ?xtop ?xl0 ?xr0 ?xs0 ?xf0 ?xi0 ?xt0 ?xn0 ?xh0 ?xc0 ?xd0 ?xv0 ?xw0 ?xe0 ?xm0 ?xa0 ?xb0 ?xy0 ?xz0 ?xl1 ?xr1 ?xs1 ?xf1 ?xi1 ?xt1 ?xn1 ?xh1 ?xc1 ?xd1 ?xv1 ?xw1 ?xe1 ?xm1 ?xa1 ?xb1 ?xy1 ?xz1 ?xl2 ?xr2 ?xs2 ?xf2 ?xi2 ?xt2 ?xn2 ?xh2 ?xc2 ?xd2 ?xv2 ?xw2 ?xe2 ?xm2 ?xa2 ?xb2 ?xy2 ?xz2 ?xl3 ?xr3 ?xs3 ?xf3 ?xi3 ?xt3 ?xn3 ?xh3 ?xc3 ?xd3 ?xv3 ?xw3 ?xe3 ?xm3 ?xa3 ?xb3 ?xy3 ?xz3 ?xl4 ?xr4 ?xs4 ?xf4 ?xi4 ?xt4 ?xn4 ?xh4 ?xc4 ?xd4 ?xv4 ?xw4 ?xe4 ?xm4 ?xa4 ?xb4 ?xy4 ?xz4 ?xq5 ?xq6 ?xq7 ?xq8 ?xq9 ?xq10 ?xq11 ?xis ?xkit ?xkS ?xkV
    (case a1 => k_is)
    (case l1 => k_is)
    (case d1 => k_is)
    (case k1 => k_is)
    (case a2 => k_is)
    (case l2 => k_is)
    (case d2 => k_is)
    (case k2 => k_is)
    (case a3 => k_is)
    (case l3 => k_is)
    (case d3 => k_is)
    (case k3 => k_is)
    (case a4 => k_is)
    (case l4 => k_is)
    (case d4 => k_is)
    (case k4 => k_is)
    (case a5 => k_is)
    (case l5 => k_is)
    (case d5 => k_is)
    (case k5 => k_is)
    (case a6 => k_is)
    (case l6 => k_is)
    (case d6 => k_is)
    (case k6 => k_is)
    (case z1 => k_is)
    (case z2 => k_is)
    (case z3 => k_is)
    (case z4 => k_is)
    (case z5 => k_is)
    (case z6 => k_is)
    (case z7 => k_is)
    (case z8 => k_is)
    (case z9 => k_is)
    (case z10 => k_is)
    (case z11 => k_is)
    (case z12 => k_is)
    (case gc0 => k_is)
    (case gc1 => k_is)
    (case gc2 => k_is)
    (case gc3 => k_is)
    (case gc4 => k_is)
    (case gc5 => k_is)
    (case gc6 => k_is)
    (case gc7 => k_is)
    (case gc8 => k_is)
    (case gc9 => k_is)
    (case gc10 => k_is)
    (case gc11 => k_is)
    (case gcS => k_is)
    (case kc0 => k_is)
    (case kc1 => k_is)
    (case kc2 => k_is)
    (case kc3 => k_is)
    (case kc4 => k_is)
    (case kc5 => k_is)
    (case kc6 => k_is)
    (case kc7 => k_is)
    (case kc8 => k_is)
    (case kc9 => k_is)
    (case kc10 => k_is)
    (case kc11 => k_is)
    (case xst => k_is)
    (case xtop => kernel_rfl)
    (case xl0 => k_is)
    (case xr0 => kernel_rfl)
    (case xs0 => k_is)
    (case xf0 => k_is)
    (case xi0 => k_is)
    (case xt0 => k_is)
    (case xn0 => k_is)
    (case xh0 => kernel_rfl)
    (case xc0 => k_is)
    (case xd0 => k_is)
    (case xv0 => rfl)
    (case xw0 => kernel_rfl)
    (case xe0 => k_is)
    (case xm0 => k_is)
    (case xa0 => kernel_rfl)
    (case xb0 => k_is)
    (case xy0 => k_is)
    (case xz0 => k_is)
    (case xl1 => k_is)
    (case xr1 => kernel_rfl)
    (case xs1 => k_is)
    (case xf1 => k_is)
    (case xi1 => k_is)
    (case xt1 => k_is)
    (case xn1 => k_is)
    (case xh1 => kernel_rfl)
    (case xc1 => k_is)
    (case xd1 => k_is)
    (case xv1 => rfl)
    (case xw1 => kernel_rfl)
    (case xe1 => k_is)
    (case xm1 => k_is)
    (case xa1 => kernel_rfl)
    (case xb1 => k_is)
    (case xy1 => k_is)
    (case xz1 => k_is)
    (case xl2 => k_is)
    (case xr2 => kernel_rfl)
    (case xs2 => k_is)
    (case xf2 => k_is)
    (case xi2 => k_is)
    (case xt2 => k_is)
    (case xn2 => k_is)
    (case xh2 => kernel_rfl)
    (case xc2 => k_is)
    (case xd2 => k_is)
    (case xv2 => rfl)
    (case xw2 => kernel_rfl)
    (case xe2 => k_is)
    (case xm2 => k_is)
    (case xa2 => kernel_rfl)
    (case xb2 => k_is)
    (case xy2 => k_is)
    (case xz2 => k_is)
    (case xl3 => k_is)
    (case xr3 => kernel_rfl)
    (case xs3 => k_is)
    (case xf3 => k_is)
    (case xi3 => k_is)
    (case xt3 => k_is)
    (case xn3 => k_is)
    (case xh3 => kernel_rfl)
    (case xc3 => k_is)
    (case xd3 => k_is)
    (case xv3 => rfl)
    (case xw3 => kernel_rfl)
    (case xe3 => k_is)
    (case xm3 => k_is)
    (case xa3 => kernel_rfl)
    (case xb3 => k_is)
    (case xy3 => k_is)
    (case xz3 => k_is)
    (case xl4 => k_is)
    (case xr4 => kernel_rfl)
    (case xs4 => k_is)
    (case xf4 => k_is)
    (case xi4 => k_is)
    (case xt4 => k_is)
    (case xn4 => k_is)
    (case xh4 => kernel_rfl)
    (case xc4 => k_is)
    (case xd4 => k_is)
    (case xv4 => rfl)
    (case xw4 => kernel_rfl)
    (case xe4 => k_is)
    (case xm4 => k_is)
    (case xa4 => kernel_rfl)
    (case xb4 => k_is)
    (case xy4 => k_is)
    (case xz4 => k_is)
    (case xq5 => k_exc)
    (case xq6 => k_exc)
    (case xq7 => k_exc)
    (case xq8 => k_exc)
    (case xq9 => k_exc)
    (case xq10 => k_exc)
    (case xq11 => k_exc)
    (case xis => kernel_rfl)
    (case xkit => kernel_rfl)
    (case xkS => kernel_rfl)
    (case xkV => kernel_rfl)
#print axioms PySem.Challenge.cw_everstock_k06_refusals_made_by_hand_holds
