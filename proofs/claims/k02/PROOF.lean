import PyProof.Rows.All
import Wide.All
import OpenK.AllK
import Wide.FinOn
import HandS.ForMost
import HandS.Codes
import HandS.IsInst
import HandS.Walk
import HandS.Zip
import KE.DataMinMax
import HandS.Zip0
import PySem.Challenge.RW_everstock_k02_where_ways_lead
set_option Elab.async false
set_option linter.all false
set_option maxRecDepth 100000
set_option maxHeartbeats 4000000
namespace My
open PySem PySem.Spec PyProof.Rows L2
open C8 (pss_cut)
open RZ (pi_zipA for_zipL for_zipT)
def topS (i : Nat) : Stmt := PySem.Challenge.pw_everstock_k02_where_ways_lead.main.body.getD i (.Pass ⟨0, 0, 0, 0⟩)
/-! ### the pen: what the drawing defs keep -/
def sOpen : Stmt := topS 5
def sSpread : Stmt := topS 6
def sTake : Stmt := topS 7
/-- all that was there but the one at p is as it was -/
def Kp (p : Addr) (H H' : Hp) : Prop := ∀ b o, H b = some o → b ≠ p → H' b = some o
theorem Kp.refl (p : Addr) (H : Hp) : Kp p H H := fun _ _ e _ => e
theorem Kp.trans {p : Addr} {H H1 H2 : Hp} (a : Kp p H H1) (b : Kp p H1 H2) : Kp p H H2 := fun c o e n => b c o (a c o e n) n
theorem Kp.same {p : Addr} {H H1 H2 : Hp} (a : Kp p H H1) (b : Same H1 H2) : Kp p H H2 := fun c o e n => b c o (a c o e n)
theorem _root_.L2.Same.kp {p : Addr} {H H1 : Hp} (a : Same H H1) : Kp p H H1 := fun c o e _ => a c o e
theorem same_upd {H : Hp} {p : Addr} {o : HO} (h : H p = none) : Same H (upd H p o) := fun b x e => by
  rw [upd_ne (ne_of_none e h)]
  exact e
theorem kp_upd (p : Addr) (H : Hp) (o : HO) : Kp p H (upd H p o) := fun b x e n => by
  rw [upd_ne n]
  exact e
/-- the pen at p: its cells' list at c, at most n cells taken -/
structure Pen (H : Hp) (p c : Addr) (ns : List Int) (n : Nat) : Prop where
  pe : ∃ at_ left : Int, H p = some (.lst [.ref c, .int at_, .int left]) ∧ 0 ≤ at_ ∧ at_ ≤ (n : Int) ∧ 0 ≤ left
  ce : H c = some (.lst (ns.map V.int))
theorem Pen.ne {H : Hp} {p c : Addr} {ns : List Int} {n : Nat} (h : Pen H p c ns n) : c ≠ p := by
  obtain ⟨⟨a, l, h1, _⟩, h2⟩ := h
  intro e
  subst e
  rw [h1] at h2
  cases ns with
  | nil => cases h2
  | cons x r => cases h2
theorem Pen.same {H H' : Hp} {p c : Addr} {ns : List Int} {n : Nat} (h : Pen H p c ns n) (s : Same H H') : Pen H' p c ns n := by
  obtain ⟨⟨a, l, h1, h3⟩, h2⟩ := h
  exact ⟨⟨a, l, s _ _ h1, h3⟩, s _ _ h2⟩
theorem Pen.mono {H : Hp} {p c : Addr} {ns : List Int} {n m : Nat} (h : Pen H p c ns n) (hn : n ≤ m) : Pen H p c ns m := by
  obtain ⟨⟨a, l, h1, h3, h4, h5⟩, h2⟩ := h
  exact ⟨⟨a, l, h1, h3, by omega, h5⟩, h2⟩
/-- at most so many cells are taken in all -/
def penMost : Nat := 1000000
def spOpen (K : PySem.W.Frag) : Sp := fun vs H Q _ => ∃ (a : Addr) (ns : List Int), vs = [.ref a] ∧ SqL K H a (ns.map V.int) ∧ ns.length ≤ 63 ∧
  ∀ H' p c ms, Same H H' → Pen H' p c ms 0 → H p = none → Q (.ref p) H'
def spSpread : Sp := fun vs H Q _ => ∃ (cell at_ : Int), vs = [.int cell, .int at_] ∧ 0 ≤ at_ ∧ at_ ≤ 1000000 ∧ ∀ r H', 0 ≤ r → Same H H' → Q (.int r) H'
def spTake : Sp := fun vs H Q _ => ∃ (p c : Addr) (ns : List Int) (n : Nat) (m : Int), vs = [.ref p, .int m] ∧ Pen H p c ns n ∧ n < penMost ∧ 1 ≤ m ∧ m < 1000000000 ∧
  ∀ r H', 0 ≤ r → r < m → Kp p H H' → Pen H' p c ns (n + 1) → Q (.int r) H'
theorem at_ints {ns : List Int} {k : Int} (h0 : 0 ≤ k) (h1 : k < ns.length) : ∃ z, atI (ns.map V.int) k = some (.int z) := by
  obtain ⟨j, rfl⟩ : ∃ j : Nat, k = (j : Int) := ⟨k.toNat, by omega⟩
  have hj : j < ns.length := by omega
  exact ⟨ns[j], atI_nat (by rw [List.getElem?_map, List.getElem?_eq_getElem hj] <;> rfl)⟩
theorem ixN_of {n : Nat} {k : Int} (h0 : 0 ≤ k) (h1 : k < n) : ixN n k = some k.toNat := by
  unfold ixN
  rw [if_pos h0, if_pos h1]
theorem ints_get {ns : List Int} {i : Nat} {v : V} (h : (ns.map V.int)[i]? = some v) : ∃ z, ns[i]? = some z ∧ v = .int z := by
  rw [List.getElem?_map] at h
  cases e : ns[i]? with
  | none =>
    rw [e] at h
    cases h
  | some z =>
    rw [e] at h
    exact ⟨z, rfl, (Option.some.inj h).symm⟩
theorem cut_ints (ns : List Int) (lo hi : Option Int) : ∃ ms : List Int, cutV (ns.map V.int) lo hi = ms.map V.int ∧ ms.length ≤ ns.length := by
  unfold cutV
  refine ⟨(ns.drop (HT.sIx (ns.map V.int).length 0 lo)).take (HT.sIx (ns.map V.int).length (ns.map V.int).length hi - HT.sIx (ns.map V.int).length 0 lo), ?_, ?_⟩
  · rw [List.map_take, List.map_drop]
  · rw [List.length_take, List.length_drop]
    omega
theorem cut12 (ns : List Int) : cutV (ns.map V.int) none (some 12) = (ns.take 12).map V.int := by
  unfold cutV
  rw [show HT.sIx (ns.map V.int).length (ns.map V.int).length (some 12) = min 12 (ns.map V.int).length from HT.sIx_nat _ _ 12, HT.sIx_none, List.map_take, List.drop_zero, Nat.sub_zero]
  by_cases h : 12 ≤ (ns.map V.int).length
  · rw [Nat.min_eq_left h]
  · rw [Nat.min_eq_right (by omega), List.take_length, List.take_of_length_le (by omega)]
theorem cut1263 (ns : List Int) (h : ns.length ≤ 12) : cutV (ns.map V.int) (some 12) (some 63) = [] := by
  unfold cutV
  rw [show HT.sIx (ns.map V.int).length 0 (some 12) = min 12 (ns.map V.int).length from HT.sIx_nat _ _ 12, Nat.min_eq_right (by rw [List.length_map]; exact h), List.drop_length, List.take_nil]
/-- the divisors of the spreading -/
def prL : List V := [V.int 2147483629, V.int 2147483587, V.int 2147483579, V.int 2147483563, V.int 2147483549, V.int 2147483543, V.int 2147483497, V.int 2147483489] ++
  [V.int 2147483477, V.int 2147483423, V.int 2147483399, V.int 2147483353, V.int 2147483323]
theorem pr_at : ∀ j : Nat, j < 13 → ∃ q : Int, prL[j]? = some (.int q) ∧ 0 < q ∧ q < 2147483648
  | 0, _ => ⟨_, rfl, by decide, by decide⟩ | 1, _ => ⟨_, rfl, by decide, by decide⟩ | 2, _ => ⟨_, rfl, by decide, by decide⟩ | 3, _ => ⟨_, rfl, by decide, by decide⟩
  | 4, _ => ⟨_, rfl, by decide, by decide⟩ | 5, _ => ⟨_, rfl, by decide, by decide⟩ | 6, _ => ⟨_, rfl, by decide, by decide⟩ | 7, _ => ⟨_, rfl, by decide, by decide⟩
  | 8, _ => ⟨_, rfl, by decide, by decide⟩ | 9, _ => ⟨_, rfl, by decide, by decide⟩ | 10, _ => ⟨_, rfl, by decide, by decide⟩ | 11, _ => ⟨_, rfl, by decide, by decide⟩
  | 12, _ => ⟨_, rfl, by decide, by decide⟩ | n + 13, h => absurd h (by omega)
theorem pr_mod (k : Int) : ∃ q : Int, atI prL (k % 13) = some (.int q) ∧ 0 < q ∧ q < 2147483648 := by
  have h0 := Int.emod_nonneg k (by decide : (13 : Int) ≠ 0)
  have h1 := Int.emod_lt_of_pos k (by decide : (0 : Int) < 13)
  obtain ⟨q, e, a, b⟩ := pr_at (k % 13).toNat (by omega)
  have e2 : k % 13 = ((k % 13).toNat : Int) := by omega
  rw [e2]
  exact ⟨q, atI_nat e, a, b⟩
theorem abs64 {x : Int} (h0 : 0 ≤ x) (h : x < 18446744073709551616) : x.natAbs < 2 ^ 64 := by
  have : (2 : Nat) ^ 64 = 18446744073709551616 := by decide
  omega
theorem mul_le_mul' {a b c d : Int} (ha : 0 ≤ a) (hb : a ≤ c) (hc : 0 ≤ b) (hd : b ≤ d) : a * b ≤ c * d :=
  Int.le_trans (Int.mul_le_mul_of_nonneg_right hb hc) (Int.mul_le_mul_of_nonneg_left hd (Int.le_trans ha hb))
section
variable {P : Program} {w : World} {K : PySem.W.Frag} {mg : Str → Option Value} {base : Heap}
theorem scSpread : FnScope ["cell", "at", "primes", "one", "two", "three"] ["cell", "at"] (defScope sSpread) := ⟨rfl, rfl, rfl, by decide +kernel, rfl, by decide +kernel, by decide +kernel⟩

theorem ok_spread {f : Addr} {fd : FuncData} {k : Nat} (F : Fun K "_law_spread" "_law_spread" sSpread f fd) : FnOk P w K mg base CX0 (k + 1) f fd ["cell", "at"] spSpread := by
  refine F.ok scSpread (fun vs H Q E h => ?_) (fun cdv A outer s H vs Q E hr h => ?_)
  · obtain ⟨cell, at_, rfl, _⟩ := h
    rfl
  · obtain ⟨cell, a, rfl, ha0, ha1, q⟩ := h
    refine ⟨_, pss_cons (ps_if (pt_cmpR op_ge (pv 0) (pe_op op_pow pe_int pe_int) (nomark _)) (pss_one (ps_ret (pv 0))) pss_nil)
      (pss_cons (ps_set (i := 2) scSpread.nd rfl (.inl rfl) (pe_lst (pa_cons pe_int (pa_cons pe_int (pa_cons pe_int (pa_cons pe_int (pa_cons pe_int (pa_cons pe_int (pa_cons pe_int (pa_cons pe_int pa_nil))))))))))
      (pss_cons (ps_set (i := 2) scSpread.nd rfl (.inl rfl) (pe_op op_cat (pv 2) (pe_lst (pa_cons pe_int (pa_cons pe_int (pa_cons pe_int (pa_cons pe_int (pa_cons pe_int pa_nil))))))))
      (pss_cons (ps_set (i := 3) scSpread.nd rfl (.inl rfl) (pe_op op_add (pe_op op_add (pe_op op_mul (pe_op op_mod (pv 0) pe_int) (pe_op op_add (pe_op op_mul pe_int (pv 1)) pe_int)) (pe_op op_mul (pv 1) pe_int)) pe_int))
      (pss_cons (ps_set (i := 3) scSpread.nd rfl (.inl rfl) (pe_op op_mod (pe_op op_pow (pv 3) pe_int) (pe_ix ix_list (pv 2) (pe_op op_mod (pv 1) pe_int) (fun _ _ => rfl))))
      (pss_cons (ps_set (i := 4) scSpread.nd rfl (.inl rfl) (pe_op op_mod (pe_op op_pow (pe_op op_add (pe_op op_add (pe_op op_mul (pv 3) (pe_op op_add (pv 1) pe_int)) (pe_op op_mod (pv 0) pe_int)) pe_int) pe_int) (pe_ix ix_list (pv 2) (pe_op op_mod (pe_op op_add (pv 1) pe_int) pe_int) (fun _ _ => rfl))))
      (pss_cons (ps_set (i := 5) scSpread.nd rfl (.inl rfl) (pe_op op_mod (pe_op op_pow (pe_op op_add (pe_op op_add (pv 4) (pe_op op_mod (pv 3) pe_int)) (pv 1)) pe_int) (pe_ix ix_list (pv 2) (pe_op op_mod (pe_op op_add (pv 1) pe_int) pe_int) (fun _ _ => rfl))))
      (pss_one (ps_ret (pe_op op_add (pe_op op_mul (pe_op op_add (pe_op op_mul (pv 3) pe_int) (pv 4)) pe_int) (pv 5)))))))))), ?_⟩
    -- cell >= 10 ** 18
    refine ⟨_, rfl, 10, 18, rfl, rfl, ⟨by decide, by decide, by decide⟩, _, _, rfl, rfl, _, rfl, ?_⟩
    refine ite2 (fun hc => ?_) (fun _ => ?_)
    · refine ⟨_, rfl, q _ _ ?_ (Same.refl H)⟩
      have hc' := of_decide_eq_true hc
      exact Int.le_trans (by decide) hc'
    · -- primes
      refine ⟨by show 8 ≤ sizeLine; decide, fun p1 n1 => ?_⟩
      refine ⟨_, rfl, by show 5 ≤ sizeLine; decide, fun p2 n2 => ?_⟩
      have n12 : p1 ≠ p2 := ne_of_none (upd_same (H := H)) n2
      refine ⟨p1, p2, _, _, rfl, rfl, (by rw [upd_ne n12]; exact upd_same), upd_same, by show 13 ≤ sizeLine; decide, fun p3 n3 => ?_⟩
      have s1 := same_upd (o := .lst [V.int 2147483629, V.int 2147483587, V.int 2147483579, V.int 2147483563, V.int 2147483549, V.int 2147483543, V.int 2147483497, V.int 2147483489]) n1
      have s2 := same_upd (o := .lst [V.int 2147483477, V.int 2147483423, V.int 2147483399, V.int 2147483353, V.int 2147483323]) n2
      have s3 := (s1.trans s2).trans (same_upd (o := .lst prL) n3)
      have hL : SqL K (upd (upd (upd H p1 (.lst [V.int 2147483629, V.int 2147483587, V.int 2147483579, V.int 2147483563, V.int 2147483549, V.int 2147483543, V.int 2147483497, V.int 2147483489])) p2 (.lst [V.int 2147483477, V.int 2147483423, V.int 2147483399, V.int 2147483353, V.int 2147483323])) p3 (.lst prL)) p3 prL := SqL.of upd_same
      -- one
      have c0 := Int.emod_nonneg cell (by decide : (1000000007 : Int) ≠ 0)
      have c1 := Int.emod_lt_of_pos cell (by decide : (0 : Int) < 1000000007)
      refine ⟨_, rfl, cell, 1000000007, rfl, rfl, (by show (0 : Int) < 1000000007; decide), _, rfl, 2, a, rfl, rfl, .inl ⟨by decide, by decide⟩, _, _, rfl, rfl, _, _, rfl, rfl, .inr ⟨by omega, by omega⟩, _, rfl, _, _, rfl, rfl, .inr ⟨by decide, by decide⟩, _, _, rfl, rfl, _, _, rfl, rfl, ?_⟩
      have b0 : 0 ≤ cell % 1000000007 * (2 * a + 69069) := Int.mul_nonneg c0 (by omega)
      have b1 : cell % 1000000007 * (2 * a + 69069) ≤ 1000000007 * 2069069 := mul_le_mul' c0 (by omega) (by omega) (by omega)
      dsimp only
      generalize e1 : cell % 1000000007 * (2 * a + 69069) + a * 40503 + 977 = one
      have o0 : 0 ≤ one := by omega
      have o1 : one < 18446744073709551616 := by omega
      clear e1 b0 b1
      -- one ** 3 % primes[at % 13]
      obtain ⟨q1, i1, q10, q11⟩ := pr_mod a
      refine ⟨_, rfl, one, 3, rfl, rfl, ⟨by decide, by decide, abs64 o0 o1⟩, _, rfl, _, rfl, a, 13, rfl, rfl, (by show (0 : Int) < 13; decide), p3, prL, _, _, rfl, rfl, hL, i1, _, q1, rfl, rfl, q10, ?_⟩
      have w0 := Int.emod_nonneg (one ^ (3 : Int).toNat) (Int.ne_of_gt q10)
      have w1 := Int.emod_lt_of_pos (one ^ (3 : Int).toNat) q10
      dsimp only
      generalize e2 : one ^ (3 : Int).toNat % q1 = on2 at w0 w1 ⊢
      clear e2
      -- two
      obtain ⟨q2, i2, q20, q21⟩ := pr_mod (a + 5)
      have d0 := Int.emod_nonneg cell (by decide : (65537 : Int) ≠ 0)
      have d1 := Int.emod_lt_of_pos cell (by decide : (0 : Int) < 65537)
      have f0 : 0 ≤ on2 * (a + 3) := Int.mul_nonneg w0 (by omega)
      have f1 : on2 * (a + 3) ≤ 2147483648 * 1000003 := mul_le_mul' w0 (by omega) (by omega) (by omega)
      refine ⟨_, rfl, _, rfl, a, 3, rfl, rfl, on2, _, rfl, rfl, .inl ⟨by omega, by omega⟩, _, rfl, cell, 65537, rfl, rfl, (by show (0 : Int) < 65537; decide), _, _, rfl, rfl, _, _, rfl, rfl, _, 5, rfl, rfl, ⟨by decide, by decide, abs64 (by omega) (by omega)⟩, _, rfl, _, rfl, a, 5, rfl, rfl, _, 13, rfl, rfl, (by show (0 : Int) < 13; decide), p3, prL, _, _, rfl, rfl, hL, i2, _, q2, rfl, rfl, q20, ?_⟩
      have x0 := Int.emod_nonneg ((on2 * (a + 3) + cell % 65537 + 5) ^ (5 : Int).toNat) (Int.ne_of_gt q20)
      have x1 := Int.emod_lt_of_pos ((on2 * (a + 3) + cell % 65537 + 5) ^ (5 : Int).toNat) q20
      dsimp only
      generalize e3 : (on2 * (a + 3) + cell % 65537 + 5) ^ (5 : Int).toNat % q2 = two at x0 x1 ⊢
      clear e3
      -- three
      obtain ⟨q3, i3, q30, q31⟩ := pr_mod (a + 7)
      have g0 := Int.emod_nonneg on2 (by decide : (1009 : Int) ≠ 0)
      have g1 := Int.emod_lt_of_pos on2 (by decide : (0 : Int) < 1009)
      refine ⟨_, rfl, _, rfl, on2, 1009, rfl, rfl, (by show (0 : Int) < 1009; decide), _, _, rfl, rfl, _, rfl, _, _, rfl, rfl, _, 3, rfl, rfl, ⟨by decide, by decide, abs64 (by omega) (by omega)⟩, _, rfl, _, rfl, a, 7, rfl, rfl, _, 13, rfl, rfl, (by show (0 : Int) < 13; decide), p3, prL, _, _, rfl, rfl, hL, i3, _, q3, rfl, rfl, q30, ?_⟩
      have y0 := Int.emod_nonneg ((two + on2 % 1009 + a) ^ (3 : Int).toNat) (Int.ne_of_gt q30)
      dsimp only
      generalize e4 : (two + on2 % 1009 + a) ^ (3 : Int).toNat % q3 = three at y0 ⊢
      clear e4
      refine ⟨_, rfl, on2, 2147483647, rfl, rfl, .inr ⟨by decide, by decide⟩, _, rfl, _, _, rfl, rfl, _, 2147483647, rfl, rfl, .inr ⟨by decide, by decide⟩, _, rfl, _, _, rfl, rfl, ?_⟩
      refine q _ _ ?_ s3
      have z1 : 0 ≤ on2 * 2147483647 := Int.mul_nonneg w0 (by decide)
      have z2 : 0 ≤ (on2 * 2147483647 + two) * 2147483647 := Int.mul_nonneg (by omega) (by decide)
      omega
theorem scOpen : FnScope ["script", "cells", "k", "cell"] ["script"] (defScope sOpen) := ⟨rfl, rfl, rfl, by decide +kernel, rfl, by decide +kernel, by decide +kernel⟩
theorem ok_open {f : Addr} {fd : FuncData} {k : Nat} (F : Fun K "_law_open" "_law_open" sOpen f fd) (ml : mg "list" = none) (me : mg "enumerate" = none) : FnOk P w K mg base CX0 (k + 1) f fd ["script"] (spOpen K) := by
  refine F.ok scOpen (fun vs H Q E h => ?_) (fun cdv A outer s H vs Q E hr h => ?_)
  · obtain ⟨a, ns, rfl, _⟩ := h
    rfl
  · obtain ⟨a, ns, rfl, hS, hlen, q⟩ := h
    refine ⟨_, pss_cons (ps_set (i := 1) scOpen.nd rfl (.inl rfl) (pe_callTy call_list_of (by rfl) ml (by decide +kernel) (pa_cons (pe_slice sl_list (pv 0) po_none (po_some pe_int)) pa_nil)))
      (pss_cons (ps_for PassesOwn.never rfl (pi_enum (by rfl) me (pa_cons (pe_slice sl_list (pv 0) (po_some pe_int) (po_some pe_int)) pa_nil))
          (pg_tup rfl (pgs_cons (pg_name (i := 2) scOpen.nd rfl (.inl rfl)) (pgs_cons (pg_name (i := 3) scOpen.nd rfl (.inl rfl)) pgs_nil)))
          (pss_one (ps_asg (pe_op op_add (pe_ix ix_list (pv 1) (pe_op op_mod (pv 2) pe_int) (fun _ _ => rfl)) (pv 3)) (pg_sub (pv 1) (pe_op op_mod (pv 2) pe_int) set_list))))
      (pss_one (ps_ret (pe_lst (pa_cons (pv 1) (pa_cons pe_int (pa_cons pe_int pa_nil))))))), ?_⟩
    -- cells = list(script[:12])
    refine ⟨_, rfl, 12, rfl, a, _, rfl, hS, fun p1 n1 => ?_⟩
    rw [cut12]
    have s1 := same_upd (o := .lst ((ns.take 12).map V.int)) n1
    refine ⟨p1, _, rfl, .inl (SqL.of upd_same), fun c nc => ?_⟩
    have s2 := s1.trans (same_upd (o := .lst ((ns.take 12).map V.int)) nc)
    have nHc : H c = none := s1.free nc
    -- enumerate(script[12:63])
    refine ⟨_, rfl, 12, rfl, 63, rfl, a, _, rfl, s2.seq hS, fun p2 n2 => ?_⟩
    obtain ⟨ms, em, hm⟩ : ∃ ms : List Int, cutV (ns.map V.int) (some 12) (some 63) = ms.map V.int ∧ (ms = [] ∨ 12 ≤ ns.length) := by
      by_cases h : 12 ≤ ns.length
      · obtain ⟨ms, e, _⟩ := cut_ints ns (some 12) (some 63)
        exact ⟨ms, e, .inr h⟩
      · exact ⟨[], cut1263 ns (by omega), .inl rfl⟩
    rw [em]
    have s3 := s2.trans (same_upd (o := .lst (ms.map V.int)) n2)
    have ncp2 : c ≠ p2 := ne_of_none (upd_same) n2
    refine ⟨p2, ms.map V.int, rfl, SqL.of upd_same, ?_⟩
    refine for_it (walk_enum (K := K) (a := p2) (xs := ms.map V.int)) (fun i σ H2 => ∃ (y2 y3 : Option V) (cs : List Int), σ = [some (.ref a), some (.ref c), y2, y3] ∧ Same H H2 ∧ H2 c = some (.lst (cs.map V.int)) ∧ H2 p2 = some (.lst (ms.map V.int)) ∧ cs.length = min 12 ns.length)
      ⟨none, none, ns.take 12, rfl, s3, ?_, upd_same, by rw [List.length_take]⟩ ?_ ?_ ?_
    · rw [upd_ne ncp2, upd_same]
    · rintro i σ H2 _ ⟨_, _, _, _, _, _, h2, _⟩
      exact SqL.of h2
    · rintro i x σ H2 H3 hi ⟨y2, y3, cs, rfl, sm, hc, hp, hl⟩ ⟨T, x1, x2, rfl, nT, rfl, f1, f2⟩
      have f1 := Option.some.inj f1
      subst f1
      obtain ⟨z, hz, rfl⟩ := ints_get f2
      have hne : 12 ≤ ns.length := by
        rcases hm with rfl | h
        · simp at hz
        · exact h
      rw [Nat.min_eq_left hne] at hl
      have ncT : c ≠ T := ne_of_none hc nT
      have npT : p2 ≠ T := ne_of_none hp nT
      have h0 := Int.emod_nonneg (i : Int) (by decide : (12 : Int) ≠ 0)
      have h1 := Int.emod_lt_of_pos (i : Int) (by decide : (0 : Int) < 12)
      obtain ⟨u, hu⟩ := at_ints (ns := cs) h0 (by omega)
      have hcT : ∀ o, (upd H2 T o) c = some (.lst (cs.map V.int)) := fun o => by
        rw [upd_ne ncT]
        exact hc
      refine ⟨T, _, rfl, SqT.of upd_same, rfl, _, _, rfl, _, _, rfl, rfl, ?_⟩
      refine ⟨_, rfl, _, rfl, i, 12, rfl, rfl, (by show (0 : Int) < 12; decide), c, _, _, _, rfl, rfl, SqL.of (hcT _), hu, _, rfl, u, z, rfl, rfl, ?_⟩
      refine ⟨_, rfl, _, rfl, i, 12, rfl, rfl, (by show (0 : Int) < 12; decide), c, _, _, _, rfl, rfl, hcT _, ixN_of h0 (by rw [List.length_map]; omega), ?_⟩
      refine ⟨_, _, cs.set ((i : Int) % 12).toNat (u + z), rfl, fun b o e => ?_, ?_, ?_, ?_⟩
      · rw [upd_ne (ne_of_none e nHc), upd_ne (ne_of_none (sm _ _ e) nT)]
        exact sm _ _ e
      · rw [upd_same, List.map_set]
      · rw [upd_ne (Ne.symm ncp2), upd_ne npT]
        exact hp
      · rw [List.length_set]
        omega
    · rintro σ H2 ⟨y2, y3, cs, rfl, sm, hc, hp, hl⟩
      refine ⟨_, rfl, by show 3 ≤ sizeLine; decide, fun p np => ?_⟩
      have s4 := same_upd (o := .lst [V.ref c, V.int 0, V.int 0]) np
      exact q _ p c cs (sm.trans s4) ⟨⟨0, 0, upd_same, by omega, by omega, by omega⟩, s4 _ _ hc⟩ (sm.free np)
theorem scTake : FnScope ["pen", "amount", "at", "cell", "found"] ["pen", "amount"] (defScope sTake) := ⟨rfl, rfl, rfl, by decide +kernel, rfl, by decide +kernel, by decide +kernel⟩
theorem ok_take {f fS : Addr} {fd fdS : FuncData} {k : Nat} (F : Fun K "_law_take" "_law_take" sTake f fd) (FS : Fun K "_law_spread" "_law_spread" sSpread fS fdS) (bS : Binds K fdS ["cell", "at"] []) (gS : mg "_law_spread" = some (.ref fS)) (ml : mg "len" = none) :
    FnOk P w K mg base CX0 (k + 2) f fd ["pen", "amount"] spTake := by
  have GS : FnOk P w K mg base CX0 (k + 1) fS fdS ["cell", "at"] spSpread := ok_spread FS
  refine F.ok scTake (fun vs H Q E h => ?_) (fun cdv A outer s H vs Q E hr h => ?_)
  · obtain ⟨p, c, ns, n, m, rfl, _⟩ := h
    rfl
  · obtain ⟨p, c, ns, n, m, rfl, hP, hn, m0, m1, q⟩ := h
    have hn' : (n : Int) < 1000000 := by unfold penMost at hn; omega
    have hcp := hP.ne
    obtain ⟨⟨at_, left, hp, a0, a1, l0⟩, hc⟩ := hP
    have SP : ∀ {H1 : Hp} {xs : List V}, H1 p = some (.lst xs) → SqL K H1 p xs := fun h => SqL.of h
    refine ⟨_, pss_cut (ps_if (pt_cmpR op_lt (pe_ix ix_list (pv 0) pe_int (fun _ _ => rfl)) (pv 1) (nomark _))
        (pss_cons (ps_set (i := 2) scTake.nd rfl (.inl rfl) (pe_ix ix_list (pv 0) pe_int (fun _ _ => rfl)))
        (pss_cons (ps_set (i := 3) scTake.nd rfl (.inl rfl) pe_int)
        (pss_cut (ps_if (pt_cmpR op_lt (pv 2) (pe_callB call_len_seq (by rfl) ml PySem.boot_len (pa_cons (pe_ix ix_list (pv 0) pe_int (fun _ _ => rfl)) pa_nil)) (nomark _))
            (pss_one (ps_set (i := 3) scTake.nd rfl (.inl rfl) (pe_ix ix_list (pe_ix ix_list (pv 0) pe_int (fun _ _ => rfl)) (pv 2) (fun _ _ => rfl))))
            (pss_one (ps_if (pt_cmpR op_gt (pe_callB call_len_seq (by rfl) ml PySem.boot_len (pa_cons (pe_ix ix_list (pv 0) pe_int (fun _ _ => rfl)) pa_nil)) pe_int (nomark _))
              (pss_one (ps_set (i := 3) scTake.nd rfl (.inl rfl) (pe_op op_mod (pe_ix ix_list (pe_ix ix_list (pv 0) pe_int (fun _ _ => rfl)) (pe_op op_mod (pe_op op_add (pe_op op_mul (pv 2) pe_int) pe_int) (pe_callB call_len_seq (by rfl) ml PySem.boot_len (pa_cons (pe_ix ix_list (pv 0) pe_int (fun _ _ => rfl)) pa_nil))) (fun _ _ => rfl))
                (pe_op op_add (pe_op op_pow pe_int pe_int) (pv 2))))) pss_nil)))
        (pss_cons (ps_asg (pe_op op_add (pv 2) pe_int) (pg_sub (pv 0) pe_int set_list))
        (pss_one (ps_asg (pe_call GS hr (by rfl) gS FS.kp bS .nil pass0 (pa_cons (pv 3) (pa_cons (pv 2) pa_nil))) (pg_sub (pv 0) pe_int set_list)))))))
        pss_nil)
      (pss_cons (ps_set (i := 4) scTake.nd rfl (.inl rfl) (pe_op op_mod (pe_ix ix_list (pv 0) pe_int (fun _ _ => rfl)) (pv 1)))
      (pss_cons (ps_asg (pe_op op_fdiv (pe_ix ix_list (pv 0) pe_int (fun _ _ => rfl)) (pv 1)) (pg_sub (pv 0) pe_int set_list))
      (pss_one (ps_ret (pv 4))))), ?_⟩
    -- behind the if: the pen's list again
    refine ⟨fun σ H1 => ∃ (y2 y3 y4 : Option V) (at1 l1 : Int), σ = [some (.ref p), some (.int m), y2, y3, y4] ∧ Kp p H H1 ∧ H1 p = some (.lst [.ref c, .int at1, .int l1]) ∧ 0 ≤ at1 ∧ at1 ≤ (n : Int) + 1 ∧ 0 ≤ l1, ?_, ?_⟩
    · refine ⟨_, rfl, p, _, 2, .int left, rfl, rfl, SP hp, atI_nat (j := 2) rfl, _, rfl, left, m, rfl, rfl, _, rfl, ?_⟩
      refine ite2 (fun hlt => ?_) (fun _ => ?_)
      · refine ⟨_, rfl, p, _, 1, .int at_, rfl, rfl, SP hp, atI_nat (j := 1) rfl, ?_⟩
        -- the cell
        refine ⟨fun σ H1 => H1 = H ∧ ∃ (z : Int) (y4 : Option V), σ = [some (.ref p), some (.int m), some (.int at_), some (.int z), y4], ?_, ?_⟩
        · refine ⟨_, rfl, _, rfl, p, _, 0, .ref c, rfl, rfl, SP hp, atI_nat (j := 0) rfl, c, _, rfl, .inl (SqL.of hc), at_, _, rfl, rfl, _, rfl, ?_⟩
          refine ite2 (fun h1 => ?_) (fun h1 => ?_)
          · have h1 := of_decide_eq_true h1
            rw [List.length_map] at h1
            obtain ⟨z, hz⟩ := at_ints (ns := ns) a0 h1
            exact ⟨_, rfl, p, _, 0, .ref c, rfl, rfl, SP hp, atI_nat (j := 0) rfl, _, rfl, c, _, at_, _, rfl, rfl, SqL.of hc, hz, rfl, z, _, rfl⟩
          · refine ⟨_, rfl, p, _, 0, .ref c, rfl, rfl, SP hp, atI_nat (j := 0) rfl, c, _, rfl, .inl (SqL.of hc), _, 0, rfl, rfl, _, rfl, ?_⟩
            refine ite2 (fun h2 => ?_) (fun h2 => ?_)
            · have h2 := of_decide_eq_true h2
              rw [List.length_map] at h2
              have k0 := Int.emod_nonneg (at_ * 5 + 3) (Int.ne_of_gt h2)
              have k1 := Int.emod_lt_of_pos (at_ * 5 + 3) h2
              obtain ⟨z, hz⟩ := at_ints (ns := ns) k0 k1
              refine ⟨_, rfl, p, _, 0, .ref c, rfl, rfl, SP hp, atI_nat (j := 0) rfl, _, rfl, at_, 5, rfl, rfl, .inr ⟨by decide, by decide⟩, _, 3, rfl, rfl, _, rfl, p, _, 0, .ref c, rfl, rfl, SP hp, atI_nat (j := 0) rfl, c, _, rfl, .inl (SqL.of hc), _, _, rfl, rfl, by rw [List.length_map]; exact h2, c, _, _, _, rfl, rfl, SqL.of hc, by rw [List.length_map]; exact hz, 10, 17, rfl, rfl, ⟨by decide, by decide, by decide⟩, _, rfl, _, at_, rfl, rfl, z, _, rfl, rfl, ?_, rfl, _, _, rfl⟩
              have : (0 : Int) < 10 ^ (17 : Int).toNat := by decide
              show (0 : Int) < 10 ^ (17 : Int).toNat + at_
              omega
            · exact ⟨rfl, 0, _, rfl⟩
        · rintro σ H1 ⟨rfl, z, y4, rfl⟩
          refine ⟨_, rfl, at_, 1, rfl, rfl, _, rfl, p, _, 1, 1, rfl, rfl, hp, rfl, ?_⟩
          refine ⟨_, rfl, _, rfl, z, at_, rfl, a0, by omega, fun r H2 r0 s2 => ?_⟩
          have hp2 := s2 _ _ (upd_same (H := H1) (a := p) (o := .lst ([V.ref c, V.int at_, V.int left].set 1 (V.int (at_ + 1)))))
          refine ⟨_, rfl, p, _, 2, 2, rfl, rfl, hp2, rfl, ?_⟩
          refine ⟨_, _, _, at_ + 1, r, rfl, ?_, upd_same, by omega, by omega, r0⟩
          exact ((kp_upd p H1 _).same s2).trans (kp_upd p H2 _)
      · exact ⟨_, _, _, at_, left, rfl, Kp.refl p H, hp, a0, by omega, l0⟩
    · rintro σ H1 ⟨y2, y3, y4, at1, l1, rfl, kp, h1, b0, b1, c0⟩
      refine ⟨_, rfl, p, _, 2, .int l1, rfl, rfl, SP h1, atI_nat (j := 2) rfl, _, rfl, l1, m, rfl, rfl, by show (0 : Int) < m; omega, ?_⟩
      refine ⟨_, rfl, p, _, 2, .int l1, rfl, rfl, SP h1, atI_nat (j := 2) rfl, _, rfl, l1, m, rfl, rfl, ⟨by omega, by omega⟩, _, rfl, p, _, 2, 2, rfl, rfl, h1, rfl, ?_⟩
      refine ⟨_, rfl, q _ _ (Int.emod_nonneg l1 (by omega)) (Int.emod_lt_of_pos l1 (by omega)) (kp.trans (kp_upd p H1 _)) ⟨⟨at1, l1 / m, upd_same, b0, by omega, Int.ediv_nonneg c0 (by omega)⟩, ?_⟩⟩
      rw [upd_ne hcp]
      exact kp _ _ hc hcp
end
/-! ### data that stands -/
theorem _root_.L2.Same.seqT {K : PySem.W.Frag} {H H' : Hp} {a : Addr} {xs : List V} (e : Same H H') (h : SqT K H a xs) : SqT K H' a xs := by
  rcases h with (h | ⟨o, h⟩) | h
  · exact .inl (.inl (e _ _ h))
  · exact .inl (.inr ⟨o, e _ _ h⟩)
  · exact .inr h
mutual
theorem dp_same {K : PySem.W.Frag} {H H' : Hp} (s : Same H H') : ∀ {v : V} {d : PyData}, Dp K H v d → Dp K H' v d
  | _, _, .non => .non
  | _, _, .bl b => .bl b
  | _, _, .int i => .int i
  | _, _, .str x => .str x
  | _, _, .lst q r => .lst (s.seq q) (dpAll_same s r)
  | _, _, .tup q r => .tup (s.seqT q) (dpAll_same s r)
theorem dpAll_same {K : PySem.W.Frag} {H H' : Hp} (s : Same H H') : ∀ {v : List V} {d : List PyData}, DpAll K H v d → DpAll K H' v d
  | _, _, .nil => .nil
  | _, _, .cons q r => .cons (dp_same s q) (dpAll_same s r)
end
/- data without a list in it -/
mutual
def noL : PyData → Bool
  | .list _ => false
  | .tuple ds => noLAll ds
  | _ => true
def noLAll : List PyData → Bool
  | [] => true
  | d :: ds => noL d && noLAll ds
end
theorem Kp.seqT {K : PySem.W.Frag} {p a : Addr} {H H' : Hp} {l xs : List V} (e : Kp p H H') (hp : H p = some (.lst l)) (h : SqT K H a xs) : SqT K H' a xs := by
  rcases h with (h | ⟨o, h⟩) | h
  · exact .inl (.inl (e _ _ h fun z => by rw [z, hp] at h; cases h))
  · exact .inl (.inr ⟨o, e _ _ h fun z => by rw [z, hp] at h; cases h⟩)
  · exact .inr h
mutual
theorem dp_kp {K : PySem.W.Frag} {p : Addr} {H H' : Hp} {l : List V} (s : Kp p H H') (hp : H p = some (.lst l)) : ∀ {v : V} {d : PyData}, Dp K H v d → noL d = true → Dp K H' v d
  | _, _, .non, _ => .non
  | _, _, .bl b, _ => .bl b
  | _, _, .int i, _ => .int i
  | _, _, .str x, _ => .str x
  | _, _, .lst q r, h => by simp [noL] at h
  | _, _, .tup q r, h => .tup (s.seqT hp q) (dpAll_kp s hp r (by simpa [noL] using h))
theorem dpAll_kp {K : PySem.W.Frag} {p : Addr} {H H' : Hp} {l : List V} (s : Kp p H H') (hp : H p = some (.lst l)) : ∀ {v : List V} {d : List PyData}, DpAll K H v d → noLAll d = true → DpAll K H' v d
  | _, _, .nil, _ => .nil
  | _, _, .cons q r, h => by
    simp only [noLAll, Bool.and_eq_true] at h
    exact .cons (dp_kp s hp q h.1) (dpAll_kp s hp r h.2)
end
theorem dpAll_len {K : PySem.W.Frag} {H : Hp} : ∀ {vs : List V} {ds : List PyData}, DpAll K H vs ds → vs.length = ds.length
  | _, _, .nil => rfl
  | _, _, .cons _ r => by rw [List.length_cons, List.length_cons, dpAll_len r]
theorem dpAll_get {K : PySem.W.Frag} {H : Hp} : ∀ {vs : List V} {ds : List PyData} {i : Nat} {v : V}, DpAll K H vs ds → vs[i]? = some v → ∃ d, ds[i]? = some d ∧ Dp K H v d
  | _, _, _, _, .nil, h => by simp at h
  | _, _, 0, _, .cons q r, h => by
    simp at h
    subst h
    exact ⟨_, rfl, q⟩
  | _, _, i + 1, v, .cons q r, h => by
    obtain ⟨d, h1, h2⟩ := dpAll_get (i := i) (v := v) r (by simpa using h)
    exact ⟨d, by simpa using h1, h2⟩
theorem dpAll_getD {K : PySem.W.Frag} {H : Hp} : ∀ {vs : List V} {ds : List PyData} {i : Nat} {d : PyData}, DpAll K H vs ds → ds[i]? = some d → ∃ v, vs[i]? = some v ∧ Dp K H v d
  | _, _, _, _, .nil, h => by simp at h
  | _, _, 0, _, .cons q r, h => by
    simp at h
    subst h
    exact ⟨_, rfl, q⟩
  | _, _, i + 1, v, .cons q r, h => by
    obtain ⟨d, h1, h2⟩ := dpAll_getD (i := i) (d := v) r (by simpa using h)
    exact ⟨d, by simpa using h1, h2⟩
theorem dpAll_app {K : PySem.W.Frag} {H : Hp} : ∀ {vs ws : List V} {ds es : List PyData}, DpAll K H vs ds → DpAll K H ws es → DpAll K H (vs ++ ws) (ds ++ es)
  | _, _, _, _, .nil, s => s
  | _, _, _, _, .cons q r, s => .cons q (dpAll_app r s)
theorem dpAll_ints {K : PySem.W.Frag} {H : Hp} : ∀ (ns : List Int), DpAll K H (ns.map V.int) (ns.map PyData.int)
  | [] => .nil
  | _ :: r => .cons (.int _) (dpAll_ints r)
theorem dpAll_bls {K : PySem.W.Frag} {H : Hp} : ∀ (ns : List Bool), DpAll K H (ns.map V.bl) (ns.map PyData.bool)
  | [] => .nil
  | _ :: r => .cons (.bl _) (dpAll_bls r)
theorem ints_of_dp {K : PySem.W.Frag} {H : Hp} : ∀ {vs : List V} {ns : List Int}, DpAll K H vs (ns.map PyData.int) → vs = ns.map V.int
  | _, [], .nil => rfl
  | _, _ :: _, .cons q r => by
    cases q
    rw [ints_of_dp r] <;> rfl
theorem tyx_l {K : PySem.W.Frag} {H : Hp} {a : Addr} {xs : List V} (h : SqL K H a xs) : TyX K H (.ref a) (.type "list") := by
  rcases h with (h | ⟨o, h⟩) | ⟨o, its, n, h, hc, _⟩
  · exact .base (.lst h)
  · exact .base (.frz h)
  · exact .kList h hc
theorem tyx_t {K : PySem.W.Frag} {H : Hp} {a : Addr} {xs : List V} (h : SqT K H a xs) : TyX K H (.ref a) (.type "tuple") := by
  rcases h with (h | ⟨o, h⟩) | ⟨o, its, n, h, hc, _⟩
  · exact .base (.tup h)
  · exact .fTuple h
  · exact .kTuple h hc
theorem walk_zipT {K : PySem.W.Frag} {a b : Addr} {xs ys : List V} {n : Nat} (hn : n = min xs.length ys.length) : Walk (RZ.ItzT K a b) n (fun H => SqT K H a xs ∧ SqT K H b ys) (YPair (fun i => xs[i]?) (fun i => ys[i]?)) := by
  subst hn
  refine ⟨fun i _ hi q => ?_, fun _ q => ⟨xs, ys, q.1, q.2, by omega⟩, fun i H v H' _ q y => ?_⟩
  · have h1 : i < xs.length := by omega
    have h2 : i < ys.length := by omega
    exact ⟨xs, ys, xs[i], ys[i], q.1, q.2, by simp [h1], by simp [h2]⟩
  · obtain ⟨T, x, z, h1, h2, h3, h4, h5⟩ := y
    exact ⟨T, x, z, h1, h2, h3, h4 xs q.1, h5 ys q.2⟩
/-! ### alike -/
def sSame : Stmt := topS 8
/- data of so many levels, no list of it too long -/
mutual
def okD : Nat → PyData → Bool
  | 0, _ => false
  | _ + 1, .none => true
  | _ + 1, .bool _ => true
  | _ + 1, .int _ => true
  | _ + 1, .str _ => true
  | n + 1, .list ds => decide (ds.length ≤ 1000000) && okAll n ds
  | n + 1, .tuple ds => decide (ds.length ≤ 1000000) && okAll n ds
  | _ + 1, _ => false
def okAll : Nat → List PyData → Bool
  | _, [] => true
  | n, d :: ds => okD n d && okAll n ds
end
theorem okAll_get : ∀ {n : Nat} {ds : List PyData} {i : Nat} {d : PyData}, okAll n ds = true → ds[i]? = some d → okD n d = true
  | _, [], _, _, _, h => by simp at h
  | n, a :: r, 0, d, o, h => by
    simp at h
    subst h
    simp only [okAll, Bool.and_eq_true] at o
    exact o.1
  | n, a :: r, i + 1, d, o, h => by
    simp only [okAll, Bool.and_eq_true] at o
    exact okAll_get (i := i) o.2 (by simpa using h)
theorem okAll_of : ∀ {n : Nat} {ds : List PyData}, (∀ d ∈ ds, okD n d = true) → okAll n ds = true
  | _, [], _ => rfl
  | n, a :: r, h => by
    simp only [okAll, Bool.and_eq_true]
    exact ⟨h a List.mem_cons_self, okAll_of fun d hd => h d (List.mem_cons_of_mem _ hd)⟩
def spSame (K : PySem.W.Frag) (n : Nat) : Sp := fun vs H Q _ => ∃ (x y : V) (d : PyData), vs = [x, y] ∧ Dp K H x d ∧ Dp K H y d ∧ okD n d = true ∧ ∀ H', Same H H' → Q (.bl true) H'
theorem inV_rep : ∀ n : Nat, inV (.bl false) (List.replicate n (V.bl true)) = false
  | 0 => rfl
  | n + 1 => by
    rw [List.replicate_succ]
    exact inV_rep n
theorem flat_rep : ∀ n : Nat, (List.replicate n (V.bl true)).all flatV = true
  | 0 => rfl
  | n + 1 => by
    rw [List.replicate_succ]
    exact flat_rep n
theorem ifT {c : Bool} {A B : Prop} (h : c = true) (a : A) : if c = true then A else B := by
  rw [if_pos h]
  exact a
theorem ifF {c : Bool} {A B : Prop} (h : c = false) (b : B) : if c = true then A else B := by
  rw [h, if_neg Bool.false_ne_true]
  exact b
section
variable {P : Program} {w : World} {K : PySem.W.Frag} {mg : Str → Option Value} {base : Heap}
theorem scSame : FnScope ["found", "due", "one", "other"] ["found", "due"] (defScope sSame) := ⟨rfl, rfl, rfl, by decide +kernel, rfl, by decide +kernel, by decide +kernel⟩
/-- the built-in names that are looked up -/
structure Blt (mg : Str → Option Value) : Prop where
  isinstance : mg "isinstance" = none
  bool : mg "bool" = none
  int : mg "int" = none
  str : mg "str" = none
  tuple : mg "tuple" = none
  list : mg "list" = none
  len : mg "len" = none
  zip : mg "zip" = none
theorem ok_same {f : Addr} {fd : FuncData} (F : Fun K "_law_same" "_law_same" sSame f fd) (bS : Binds K fd ["found", "due"] []) (gS : mg "_law_same" = some (.ref f)) (B : Blt mg) : ∀ n : Nat, FnOk P w K mg base CX0 (n + 1) f fd ["found", "due"] (spSame K n)
  | 0 => F.ok scSame (fun vs H Q E h => by obtain ⟨x, y, d, _, _, _, h, _⟩ := h; unfold okD at h; cases h) (fun cdv A outer s H vs Q E hr h => by obtain ⟨x, y, d, _, _, _, h, _⟩ := h; unfold okD at h; cases h)
  | n + 1 => by
    have G : FnOk P w K mg base CX0 (n + 1) f fd ["found", "due"] (spSame K n) := ok_same F bS gS B n
    refine F.ok scSame (fun vs H Q E h => ?_) (fun cdv A outer s H vs Q E hr h => ?_)
    · obtain ⟨x, y, d, rfl, _⟩ := h
      rfl
    · obtain ⟨x, y, d, rfl, hx, hy, hok, q⟩ := h
      refine ⟨_, pss_cons (ps_if (PW.pt (pw_or (pt_cmp (pc_isN (pv 1))) (pw_or1 (pt_cmp (pc_isN (pv 0))))))
          (pss_one (ps_ret (pe_and (pe_cmp (pc_isN (pv 1))) (pe_one (pe_cmp (pc_isN (pv 0))))))) pss_nil)
        (pss_cons (ps_if (PW.pt (pw_or (pt_val (pe_callB call_isi (by rfl) B.isinstance (by decide +kernel) (pa_cons (pv 1) (pa_cons (pe_bltn (v := .ty "bool") (by rfl) B.bool (by decide +kernel) rfl) pa_nil))))
            (pw_or1 (pt_val (pe_callB call_isi (by rfl) B.isinstance (by decide +kernel) (pa_cons (pv 0) (pa_cons (pe_bltn (v := .ty "bool") (by rfl) B.bool (by decide +kernel) rfl) pa_nil)))))))
          (pss_one (ps_ret (pe_and (pe_callB call_isi (by rfl) B.isinstance (by decide +kernel) (pa_cons (pv 1) (pa_cons (pe_bltn (v := .ty "bool") (by rfl) B.bool (by decide +kernel) rfl) pa_nil)))
            (pe_and (pe_callB call_isi (by rfl) B.isinstance (by decide +kernel) (pa_cons (pv 0) (pa_cons (pe_bltn (v := .ty "bool") (by rfl) B.bool (by decide +kernel) rfl) pa_nil)))
              (pe_one (pe_cmpR op_eq (pv 0) (pv 1) (nomark _))))))) pss_nil)
        (pss_cons (ps_if (pt_val (pe_callB call_isiT (by rfl) B.isinstance (by decide +kernel) (pa_cons (pv 1) (pa_cons (pe_tup (pa_cons (pe_bltn (v := .ty "int") (by rfl) B.int (by decide +kernel) rfl) (pa_cons (pe_bltn (v := .ty "str") (by rfl) B.str (by decide +kernel) rfl) pa_nil))) pa_nil))))
          (pss_cons (ps_if (pt_cmpR op_ne (pe_callB call_isi (by rfl) B.isinstance (by decide +kernel) (pa_cons (pv 0) (pa_cons (pe_bltn (v := .ty "int") (by rfl) B.int (by decide +kernel) rfl) pa_nil)))
              (pe_callB call_isi (by rfl) B.isinstance (by decide +kernel) (pa_cons (pv 1) (pa_cons (pe_bltn (v := .ty "int") (by rfl) B.int (by decide +kernel) rfl) pa_nil))) (nomark _))
            (pss_one (ps_ret pe_bl)) pss_nil)
          (pss_one (ps_ret (pe_and (pe_callB call_isiT (by rfl) B.isinstance (by decide +kernel) (pa_cons (pv 0) (pa_cons (pe_tup (pa_cons (pe_bltn (v := .ty "int") (by rfl) B.int (by decide +kernel) rfl) (pa_cons (pe_bltn (v := .ty "str") (by rfl) B.str (by decide +kernel) rfl) pa_nil))) pa_nil)))
            (pe_one (pe_cmpR op_eq (pv 0) (pv 1) (nomark _))))))) pss_nil)
        (pss_cons (ps_if (PW.pt (pw_or (pt_cmpR op_ne (pe_callB call_isi (by rfl) B.isinstance (by decide +kernel) (pa_cons (pv 1) (pa_cons (pe_bltn (v := .ty "tuple") (by rfl) B.tuple (by decide +kernel) rfl) pa_nil)))
              (pe_callB call_isi (by rfl) B.isinstance (by decide +kernel) (pa_cons (pv 0) (pa_cons (pe_bltn (v := .ty "tuple") (by rfl) B.tuple (by decide +kernel) rfl) pa_nil))) (nomark _))
            (pw_or1 (pt_cmpR op_ne (pe_callB call_isi (by rfl) B.isinstance (by decide +kernel) (pa_cons (pv 1) (pa_cons (pe_bltn (v := .ty "list") (by rfl) B.list (by decide +kernel) rfl) pa_nil)))
              (pe_callB call_isi (by rfl) B.isinstance (by decide +kernel) (pa_cons (pv 0) (pa_cons (pe_bltn (v := .ty "list") (by rfl) B.list (by decide +kernel) rfl) pa_nil))) (nomark _)))))
          (pss_one (ps_ret pe_bl)) pss_nil)
        (pss_cons (ps_if (pt_cmpR op_ne (pe_callB call_len_seq (by rfl) B.len PySem.boot_len (pa_cons (pv 0) pa_nil)) (pe_callB call_len_seq (by rfl) B.len PySem.boot_len (pa_cons (pv 1) pa_nil)) (nomark _))
          (pss_one (ps_ret pe_bl)) pss_nil)
        (pss_one (ps_ret (pe_cmpR op_notIn_seq pe_bl (pe_lc (own := [("one", 2), ("other", 3)]) (g := gTup K 2 (gCons (gName 2) (gCons (gName 3) gNil))) (tt := tYes) rfl scSame.nd (pi_zipA (by rfl) B.zip (pa_cons (pv 0) (pa_cons (pv 1) pa_nil)))
          (blkOk_by (N := ["found", "due", "one", "other"]) (sc := defScope sSame) (by decide +kernel))
          (fun _ _ _ _ _ => by refine pg_tup rfl (pgs_cons ?_ (pgs_cons ?_ pgs_nil)); exact pg_name (i := 2) scSame.nd rfl (.inl rfl); exact pg_name (i := 3) scSame.nd rfl (.inl rfl))
          (fun _ _ _ _ _ => pts_nil) (fun _ _ _ _ _ => by exact pe_call G hr (by rfl) gS F.kp bS .nil pass0 (pa_cons (pv 2) (pa_cons (pv 3) pa_nil)))) (by rfl)))))))), ?_⟩
      cases d with
      | none =>
        cases hx; cases hy
        exact ⟨_, rfl, _, rfl, ifT rfl (ifT rfl ⟨_, rfl, _, rfl, ifT rfl ⟨_, rfl, q H (Same.refl H)⟩⟩)⟩
      | bool b =>
        cases hx; cases hy
        have e : decide (V.bl b = V.bl b) = true := decide_eq_true rfl
        refine ⟨_, rfl, _, rfl, ifF rfl ⟨_, rfl, _, rfl, ifF rfl ⟨_, rfl, _, _, _, _, true, rfl, .ty _, .base (.bl b), kit_ty (by decide +kernel), _, rfl, ifT rfl (ifT rfl ⟨_, rfl, _, _, _, _, true, rfl, .ty _, .base (.bl b), kit_ty (by decide +kernel), _, rfl, ifT rfl ⟨_, rfl, _, _, _, _, true, rfl, .ty _, .base (.bl b), kit_ty (by decide +kernel), _, rfl, ifT rfl ⟨_, rfl, _, rfl, rfl, ?_⟩⟩⟩)⟩⟩⟩
        rw [e]
        exact q H (Same.refl H)
      | int i =>
        cases hx; cases hy
        have e : decide (V.int i = V.int i) = true := decide_eq_true rfl
        refine ⟨_, rfl, _, rfl, ifF rfl ⟨_, rfl, _, rfl, ifF rfl ⟨_, rfl, _, _, _, _, false, rfl, .ty _, .base (.int i), kit_ty (by decide +kernel), _, rfl, ifF rfl ⟨_, rfl, _, _, _, _, false, rfl, .ty _, .base (.int i), kit_ty (by decide +kernel), _, rfl, ifF rfl ⟨_, rfl, by show 2 ≤ sizeLine; decide, fun p1 np1 => ⟨_, p1, _, _, _, true, rfl, upd_same, .cons (.ty _) (.cons (.ty _) .nil), .base (.int i), kitAny_cons (b := true) (kit_ty (by decide +kernel)) (fun h => nomatch h) (fun _ => rfl), _, rfl, ifT rfl ⟨_, rfl, _, _, _, _, true, rfl, .ty _, .base (.int i), kit_ty (by decide +kernel), _, rfl, _, _, _, _, true, rfl, .ty _, .base (.int i), kit_ty (by decide +kernel), rfl, _, rfl, ifF rfl ⟨_, rfl, by show 2 ≤ sizeLine; decide, fun p2 np2 => ⟨_, p2, _, _, _, true, rfl, upd_same, .cons (.ty _) (.cons (.ty _) .nil), .base (.int i), kitAny_cons (b := true) (kit_ty (by decide +kernel)) (fun h => nomatch h) (fun _ => rfl), _, rfl, ifT rfl ⟨_, rfl, _, rfl, rfl, ?_⟩⟩⟩⟩⟩⟩⟩⟩⟩⟩
        rw [e]
        exact q _ ((same_upd np1).trans (same_upd np2))
      | str i =>
        cases hx; cases hy
        have e : decide (V.str i = V.str i) = true := decide_eq_true rfl
        refine ⟨_, rfl, _, rfl, ifF rfl ⟨_, rfl, _, rfl, ifF rfl ⟨_, rfl, _, _, _, _, false, rfl, .ty _, .base (.str i), kit_ty (by decide +kernel), _, rfl, ifF rfl ⟨_, rfl, _, _, _, _, false, rfl, .ty _, .base (.str i), kit_ty (by decide +kernel), _, rfl, ifF rfl ⟨_, rfl, by show 2 ≤ sizeLine; decide, fun p1 np1 => ⟨_, p1, _, _, _, true, rfl, upd_same, .cons (.ty _) (.cons (.ty _) .nil), .base (.str i), kitAny_cons (b := false) (kit_ty (by decide +kernel)) (fun _ => kitAny_cons (b := true) (kit_ty (by decide +kernel)) (fun h => nomatch h) (fun _ => rfl)) (fun h => nomatch h), _, rfl, ifT rfl ⟨_, rfl, _, _, _, _, false, rfl, .ty _, .base (.str i), kit_ty (by decide +kernel), _, rfl, _, _, _, _, false, rfl, .ty _, .base (.str i), kit_ty (by decide +kernel), rfl, _, rfl, ifF rfl ⟨_, rfl, by show 2 ≤ sizeLine; decide, fun p2 np2 => ⟨_, p2, _, _, _, true, rfl, upd_same, .cons (.ty _) (.cons (.ty _) .nil), .base (.str i), kitAny_cons (b := false) (kit_ty (by decide +kernel)) (fun _ => kitAny_cons (b := true) (kit_ty (by decide +kernel)) (fun h => nomatch h) (fun _ => rfl)) (fun h => nomatch h), _, rfl, ifT rfl ⟨_, rfl, _, rfl, rfl, ?_⟩⟩⟩⟩⟩⟩⟩⟩⟩⟩
        rw [e]
        exact q _ ((same_upd np1).trans (same_upd np2))
      | list ds =>
        cases hx with
        | @lst a xs _ hqx hax =>
        cases hy with
        | @lst b ys _ hqy hay =>
        simp only [okD, Bool.and_eq_true, decide_eq_true_eq] at hok
        have lx := dpAll_len hax
        have ly := dpAll_len hay
        have e : decide (V.int (xs.length : Int) = V.int (ys.length : Int)) = true := decide_eq_true (by rw [lx, ly])
        refine ⟨_, rfl, _, rfl, ifF rfl ⟨_, rfl, _, rfl, ifF rfl ⟨_, rfl, _, _, _, _, false, rfl, .ty _, (tyx_l hqy), kit_ty (by decide +kernel), _, rfl, ifF rfl ⟨_, rfl, _, _, _, _, false, rfl, .ty _, (tyx_l hqx), kit_ty (by decide +kernel), _, rfl, ifF rfl ⟨_, rfl, by show 2 ≤ sizeLine; decide, fun p1 np1 => ⟨_, p1, _, _, _, false, rfl, upd_same, .cons (.ty _) (.cons (.ty _) .nil), (tyx_l ((same_upd np1).seq hqy)), kitAny_cons (b := false) (kit_ty (by decide +kernel)) (fun _ => kitAny_cons (b := false) (kit_ty (by decide +kernel)) (fun _ => kitAny_nil) (fun h => nomatch h)) (fun h => nomatch h), _, rfl, ifF rfl ?_⟩⟩⟩⟩⟩⟩
        have s1 := same_upd (o := .tup [V.ty "int", V.ty "str"]) np1
        refine ⟨_, rfl, _, _, _, _, false, rfl, .ty _, (tyx_l (s1.seq hqy)), kit_ty (by decide +kernel), _, rfl, _, _, _, _, false, rfl, .ty _, (tyx_l (s1.seq hqx)), kit_ty (by decide +kernel), rfl, _, rfl, ifF rfl ⟨_, rfl, _, _, _, _, true, rfl, .ty _, (tyx_l (s1.seq hqy)), kit_ty (by decide +kernel), _, rfl, _, _, _, _, true, rfl, .ty _, (tyx_l (s1.seq hqx)), kit_ty (by decide +kernel), rfl, _, rfl, ifF rfl ?_⟩⟩
        refine ⟨_, rfl, a, xs, rfl, .inl (s1.seq hqx), _, rfl, b, ys, rfl, .inl (s1.seq hqy), rfl, _, rfl, ?_⟩
        rw [e]
        refine ifF rfl ?_
        refine ⟨_, rfl, _, rfl, a, b, xs, ys, rfl, .inl ⟨s1.seq hqx, s1.seq hqy, fun D nD => ?_⟩⟩
        refine lc_it (walk_zip (K := K) (a := a) (b := b) (xs := xs) (ys := ys) (n := ds.length) (by omega)) (fun i H2 => Same (upd H p1 (.tup [V.ty "int", V.ty "str"])) H2 ∧ H2 D = some (.lst (List.replicate i (V.bl true)))) ⟨same_upd nD, upd_same⟩ ?_ ?_ ?_
        · rintro i H2 _ ⟨s2, _⟩
          exact ⟨s2.seq (s1.seq hqx), s2.seq (s1.seq hqy)⟩
        · rintro i v H2 H3 hi ⟨s2, hD⟩ ⟨T, x1, x2, rfl, nT, rfl, f1, f2⟩
          have sT := same_upd (o := .tup [x1, x2]) nT
          obtain ⟨d1, g1, h1⟩ := dpAll_get hax f1
          obtain ⟨d2, g2, h2⟩ := dpAll_get hay f2
          have ed : d1 = d2 := Option.some.inj (g1.symm.trans g2)
          subst ed
          have s3 : Same H (upd H2 T (.tup [x1, x2])) := (s1.trans s2).trans sT
          refine ⟨T, _, rfl, SqT.of upd_same, rfl, _, _, rfl, _, _, rfl, rfl, rfl, ?_⟩
          refine ⟨_, rfl, _, rfl, x1, x2, d1, rfl, dp_same s3 h1, dp_same s3 h2, okAll_get hok.2 g1, fun H4 s4 => ?_⟩
          refine ⟨_, s4 _ _ (sT _ _ hD), ?_, fun b' o' e' => ?_, ?_⟩
          · rw [List.length_replicate]
            exact Nat.lt_of_lt_of_le (Nat.lt_of_lt_of_le hi hok.1) (by decide)
          · rw [upd_ne (ne_of_none e' nD)]
            exact s4 _ _ (sT _ _ (s2 _ _ e'))
          · rw [upd_same, List.replicate_succ']
        · rintro H2 ⟨s2, hD⟩
          refine ⟨D, _, rfl, .inl (SqL.of hD), rfl, flat_rep _, ?_⟩
          rw [inV_rep]
          exact q H2 (s1.trans s2)
      | tuple ds =>
        cases hx with
        | @tup a xs _ hqx hax =>
        cases hy with
        | @tup b ys _ hqy hay =>
        simp only [okD, Bool.and_eq_true, decide_eq_true_eq] at hok
        have lx := dpAll_len hax
        have ly := dpAll_len hay
        have e : decide (V.int (xs.length : Int) = V.int (ys.length : Int)) = true := decide_eq_true (by rw [lx, ly])
        refine ⟨_, rfl, _, rfl, ifF rfl ⟨_, rfl, _, rfl, ifF rfl ⟨_, rfl, _, _, _, _, false, rfl, .ty _, (tyx_t hqy), kit_ty (by decide +kernel), _, rfl, ifF rfl ⟨_, rfl, _, _, _, _, false, rfl, .ty _, (tyx_t hqx), kit_ty (by decide +kernel), _, rfl, ifF rfl ⟨_, rfl, by show 2 ≤ sizeLine; decide, fun p1 np1 => ⟨_, p1, _, _, _, false, rfl, upd_same, .cons (.ty _) (.cons (.ty _) .nil), (tyx_t ((same_upd np1).seqT hqy)), kitAny_cons (b := false) (kit_ty (by decide +kernel)) (fun _ => kitAny_cons (b := false) (kit_ty (by decide +kernel)) (fun _ => kitAny_nil) (fun h => nomatch h)) (fun h => nomatch h), _, rfl, ifF rfl ?_⟩⟩⟩⟩⟩⟩
        have s1 := same_upd (o := .tup [V.ty "int", V.ty "str"]) np1
        refine ⟨_, rfl, _, _, _, _, true, rfl, .ty _, (tyx_t (s1.seqT hqy)), kit_ty (by decide +kernel), _, rfl, _, _, _, _, true, rfl, .ty _, (tyx_t (s1.seqT hqx)), kit_ty (by decide +kernel), rfl, _, rfl, ifF rfl ⟨_, rfl, _, _, _, _, false, rfl, .ty _, (tyx_t (s1.seqT hqy)), kit_ty (by decide +kernel), _, rfl, _, _, _, _, false, rfl, .ty _, (tyx_t (s1.seqT hqx)), kit_ty (by decide +kernel), rfl, _, rfl, ifF rfl ?_⟩⟩
        refine ⟨_, rfl, a, xs, rfl, .inr (s1.seqT hqx), _, rfl, b, ys, rfl, .inr (s1.seqT hqy), rfl, _, rfl, ?_⟩
        rw [e]
        refine ifF rfl ?_
        refine ⟨_, rfl, _, rfl, a, b, xs, ys, rfl, .inr ⟨s1.seqT hqx, s1.seqT hqy, fun D nD => ?_⟩⟩
        refine lc_it (walk_zipT (K := K) (a := a) (b := b) (xs := xs) (ys := ys) (n := ds.length) (by omega)) (fun i H2 => Same (upd H p1 (.tup [V.ty "int", V.ty "str"])) H2 ∧ H2 D = some (.lst (List.replicate i (V.bl true)))) ⟨same_upd nD, upd_same⟩ ?_ ?_ ?_
        · rintro i H2 _ ⟨s2, _⟩
          exact ⟨s2.seqT (s1.seqT hqx), s2.seqT (s1.seqT hqy)⟩
        · rintro i v H2 H3 hi ⟨s2, hD⟩ ⟨T, x1, x2, rfl, nT, rfl, f1, f2⟩
          have sT := same_upd (o := .tup [x1, x2]) nT
          obtain ⟨d1, g1, h1⟩ := dpAll_get hax f1
          obtain ⟨d2, g2, h2⟩ := dpAll_get hay f2
          have ed : d1 = d2 := Option.some.inj (g1.symm.trans g2)
          subst ed
          have s3 : Same H (upd H2 T (.tup [x1, x2])) := (s1.trans s2).trans sT
          refine ⟨T, _, rfl, SqT.of upd_same, rfl, _, _, rfl, _, _, rfl, rfl, rfl, ?_⟩
          refine ⟨_, rfl, _, rfl, x1, x2, d1, rfl, dp_same s3 h1, dp_same s3 h2, okAll_get hok.2 g1, fun H4 s4 => ?_⟩
          refine ⟨_, s4 _ _ (sT _ _ hD), ?_, fun b' o' e' => ?_, ?_⟩
          · rw [List.length_replicate]
            exact Nat.lt_of_lt_of_le (Nat.lt_of_lt_of_le hi hok.1) (by decide)
          · rw [upd_ne (ne_of_none e' nD)]
            exact s4 _ _ (sT _ _ (s2 _ _ e'))
          · rw [upd_same, List.replicate_succ']
        · rintro H2 ⟨s2, hD⟩
          refine ⟨D, _, rfl, .inl (SqL.of hD), rfl, flat_rep _, ?_⟩
          rw [inV_rep]
          exact q H2 (s1.trans s2)
      | _ => exact absurd hok (by simp [okD])
end
/-! ### what is shown (repr) asks that no showing is under way: a def's promise where the guards are known to be none -/
def Around.calmG (A : Around) : Prop := A.guards = some []
structure FnG (P : Program) (w : World) (K : PySem.W.Frag) (mg : Str → Option Value) (base : Heap) (k : Nat) (f : Addr) (fd : FuncData) (ps : List Str) (sp : Sp) : Prop where
  len : ∀ vs H Q E, sp vs H Q E → vs.length = ps.length
  run : ∀ (A : Around), Around.calmG A → Room k A → ∀ (outer : List Env) (s : Shared) (H : Hp) (args : Args) (us : List Value) (vs : List V) (Q : VK) (E : XK),
    Env0 P w K mg base A outer s H → BindsTo s fd args (ps.zip us) → Vals vs us → sp vs H Q E → codeAny (model P w) A (.call (.ref f) args) (CR CX0 outer P w H s Q E) s
section
variable {P : Program} {w : World} {K : PySem.W.Frag} {mg : Str → Option Value} {base : Heap}
theorem fnG_of_ok {k : Nat} {f : Addr} {fd : FuncData} {ps : List Str} {sp : Sp} (F : FnOk P w K mg base CX0 k f fd ps sp) : FnG P w K mg base k f fd ps sp :=
  ⟨F.len, fun A _ r outer s H args us vs Q E => F.run A outer s H args us vs Q E r⟩
theorem FnG.mono {j k : Nat} {f : Addr} {fd : FuncData} {ps : List Str} {sp : Sp} (F : FnG P w K mg base j f fd ps sp) (h : j ≤ k) : FnG P w K mg base k f fd ps sp :=
  ⟨F.len, fun A g r => F.run A g (r.mono h)⟩
/-- a body walked where no showing is under way -/
theorem fnG_body {x qual : Str} {st : Stmt} {f : Addr} {fd : FuncData} {N ps : List Str} {k : Nat} {sp : Sp} (F : Fun K x qual st f fd) (S : FnScope N ps (defScope st)) (len : ∀ vs H Q E, sp vs H Q E → vs.length = ps.length)
    (walk : ∀ (cdv : Value) (A : Around), Around.calmG A → ∀ (outer : List Env) (s : Shared) (H : Hp) (vs : List V) (Q : VK) (E : XK), Room k (A.deeper (envOfC qual (defScope st) s.heap.objs.size f cdv)) → sp vs H Q E →
      ∃ t, PSs (cxOf CX0 P w K mg base N qual (defScope st) f cdv A outer s H E).nox (defBody st) t ∧ t { nx := fun _ H' => Q .non H', rt := Q } (start N vs) H) :
    FnG P w K mg base (k + 1) f fd ps sp := by
  refine ⟨len, fun A g room outer s H args us vs Q E at0 bnd vals wants => ?_⟩
  obtain ⟨oc, od, kV, doc, pm, an, cdv, ct, osl, rfl, there, code⟩ := F.ex
  have sizes := len _ _ _ _ wants
  have inK : K.In s.heap := at0.mod.kin.keeps fun b o q => (at0.bs b o q).1
  have noLim : s.heap.NoLimit := at0.mod.nolimit.keeps fun b o q => (at0.bs b o q).1
  have params : ∀ y ∈ ps.zip us, (defScope st).names.lookup y.1 = some .local ∨ ((defScope st).names.lookup y.1 = some .cell ∧ ((cellsFrom (s.heap.objs.size + 1) (defScope st).names []).lookup y.1).isSome = true) := by
    rintro ⟨n, v⟩ hy
    have hn : n ∈ ps := (List.of_mem_zip hy).1
    exact (S.par n hn).imp id fun q => ⟨q, PySem.W.cellsFrom_some _ _ _ (.inl q)⟩
  refine codeAny_call_function room.depth (inK _ _ there) rfl S.co S.gen rfl (PySem.W.codeRec_of inK code) (bnd _ _ _ _ (wpAny_newFunctionEnv_cells S.kind params fun env eqv s1 inside => ?_))
  subst eqv
  obtain ⟨t, good, reads⟩ := walk cdv A g outer s H vs Q E (room.deeper _) wants
  have inv : Inv (cxOf CX0 P w K mg base N qual (defScope st) f cdv A outer s H E) [] (start N vs) H s1 := inv_start S room.hd at0 sizes vals inside
  refine ⟨noLim.keeps inside.toInCall.keep, codeAny_func (wpAny_mono (good.nox.run [] s1 (start N vs) H _ inv reads) (fun ends s' after => ?_) fun _ _ bad => bad)⟩
  cases ends with
  | ret u =>
    obtain ⟨v, σ', H', J, rv, q⟩ := after
    exact ⟨v, H', J.os, J.bare, J.base, J.hok, rv, q⟩
  | next =>
    obtain ⟨σ', H', J, q⟩ := after
    exact ⟨.non, H', J.os, J.bare, J.base, J.hok, rfl, q⟩
  | brk => exact (after.elim fun _ z => z.elim fun _ z => z.2).elim
  | cont => exact (after.elim fun _ z => z.elim fun _ z => z.2).elim
end
theorem calmG_deeper {A : Around} (g : Around.calmG A) (env : Env) : Around.calmG (A.deeper env) := g
section
variable {X : Cx}
/-- a call, made where no showing is under way, of a def that may show -/
theorem pe_callG {k : Nat} {f : Addr} {fd : FuncData} {ps : List Str} {sp : Sp} {x : Str} {p pos : Pos} {e : Expr} {es : List Expr} {t : TA} (F : FnG X.prog X.w X.K X.mg X.base k f fd ps sp) (g : Around.calmG X.A) (room : Room k X.A) (hg : Gl X x) (hm : X.mg x = some (.ref f))
    (hk : PySem.W.keepIn X.K (.ref f) = true) (hb : Binds X.K fd ps []) (ha : PA X (e :: es) t) (hdb : (x == ("__debug__" : Str)) = false := by decide)
    (he : starEach (e :: es) X.env = (false, eval e X.env) :: starEach es X.env := by rfl) (hpl : (backTo pos (starEach es X.env)).any (·.1) = false := by rfl) : PE X (.Call (.Name x p) (e :: es) [] pos) (tCall sp [] E0 t) := by
  refine ⟨fun pins s σ H Q I h => wpAny_Call_Name_kw (ld_glob I hg hm ?_ hdb)⟩
  refine PySem.W.callWith_K (h₀ := X.base) I.ok.mod.kin hk (thn (ha.run pos pins s σ H _ I h) fun us s1 ⟨vs, H1, I1, r, q⟩ => ⟨I1.kIn, ?_⟩) he hpl
  have r2 : Vals (vs ++ []) (us ++ []) := r.append .nil
  have sizes : (us ++ []).length = ps.length := by rw [← r2.length]; exact F.len _ _ _ _ q
  refine wpAny_call (codeAny_mono (F.run X.A g room X.stack s1 H1 ⟨us, []⟩ (us ++ []) (vs ++ []) Q E0 I1.env0 (hb s1 us I1.kIn sizes) r2 q) fun r s' after => ?_)
  match r, after with
  | .error e, bad => exact bad.elim
  | .ok (.ret u), good => exact I1.after good
  | .ok .next, bad => exact bad.elim
  | .ok .brk, bad => exact bad.elim
  | .ok .cont, bad => exact bad.elim
/-- repr of data -/
def rShow (K : PySem.W.Frag) : List V → Hp → VK → Prop := fun xs H Q => ∃ (a : Addr) (d : PyData), xs = [V.ref a] ∧ Dp K H (.ref a) d ∧ d.showable = true ∧ d.hasDict = false ∧ d.depth ≤ 20 ∧ d.shown.length ≤ sizeLine ∧ Q (.str d.shown) H
theorem call_show {k : Nat} (g : Around.calmG X.A) (room : Room k X.A) : CallR X (.builtin "repr") (rShow X.K) := by
  intro pins s σ H xs us Q I r h
  obtain ⟨a, d, rfl, hd, h1, h2, h3, h4, q⟩ := h
  obtain ⟨u, rfl, ru⟩ := vals1 r
  obtain ⟨as, reads⟩ := Dp.reads I d _ _ hd ru
  cases ru
  have hu := room.un
  exact repr_of_reads' reads h1 (PyData.noDict_hsm h2) g (by omega) (fun _ _ e => e) (fun h' u tk keeps => ⟨.str d.shown, H, I.kept keeps, ⟨u, rfl⟩, q⟩) h4
end
/-! ### the law's own call, by a promise where no showing is under way -/
theorem law_calledG {P : Program} {w : World} {K : PySem.W.Frag} {mg mb : Str → Option Value} {k : Nat} {fa a : Addr} {fd : FuncData} {x : Str} {sp : Sp} {s : Shared} {vs : List Value} {ns : List Int}
    (inK : K.In s.heap) (nsG : s.heap.Ns mainGlobals mg) (nsB : s.heap.Ns builtinsNs mb) (boot : ∀ x : Str, x ≠ "__name__" → mb x = bootBuiltins x) (noLim : s.heap.NoLimit) (gens : s.gens = #[])
    (obj : s.heap.get? a = some { cls := .type "list", data := .seq vs.toArray }) (areI : IntsAre vs ns) (short : ns.length ≤ sizeLine) (room : Room k callerA)
    (F : ∀ base : Heap, K.In base → base.Ns mainGlobals mg → FnG P w K mg base k fa fd [x] sp) (bnd : ∀ (s : Shared) (u : Value), BindsTo s fd ⟨[u], []⟩ [(x, u)])
    (wants : ∀ H : Hp, Only H → SqL K H a (ns.map V.int) → sp [.ref a] H (fun v _ => v = .bl true) E0) :
    codeAny (model P w) callerA (.call (.ref fa) ⟨[.ref a], []⟩) (fun r s' => r = .ok (.ret (.bool true)) ∧ OldK s.heap s'.heap ∧ s'.os = s.os ∧ AllBare s'.gens) s := by
  have vals := vals_ints areI
  -- either nothing is tracked, or the script alone, known to the object
  have go : ∀ H : Hp, Only H → SqL K H a (ns.map V.int) → HOk P w H s.heap → (∀ b, H b = none ∨ (b = a ∧ K.lookup a = none)) →
      codeAny (model P w) callerA (.call (.ref fa) ⟨[.ref a], []⟩) (fun r s' => r = .ok (.ret (.bool true)) ∧ OldK s.heap s'.heap ∧ s'.os = s.os ∧ AllBare s'.gens) s := by
    intro H only seq hok few
    have dictFree : ∀ {b : Addr} {o : Obj} {es : Array DictEntry} {ep : Nat}, s.heap.get? b = some o → o.data = .dict es ep → H b = none := by
      intro b o es ep e d
      refine (few b).elim id fun ⟨hb, _⟩ => ?_
      subst hb
      rw [obj] at e
      cases e
      exact nomatch d
    have nsH : ∀ {b : Addr} {m : Str → Option Value}, s.heap.Ns b m → (hidT s.heap H).Ns b m := by
      rintro b m ⟨o, es, ep, e, d, r⟩
      exact ⟨o, es, ep, hidT_get e (dictFree e d), d, r⟩
    have kH : K.In (hidT s.heap H) := fun b o e => hidT_get (inK b o e) ((few b).elim id fun ⟨hb, noK⟩ => by rw [hb, noK] at e; cases e)
    have modH : Mod K mg (hidT s.heap H) := ⟨kH, nsH nsG, ⟨mb, nsH nsB, boot⟩, noLim.elim fun mc h => ⟨mc, nsH h.1, h.2⟩⟩
    have start0 : Env0 P w K mg (hidT s.heap H) callerA [] s H :=
      { frames := rfl, mod := modH, bs := fun b o e => of_hidT e, bsz := Nat.le_of_eq (hidT_size _ _), funs := trivial, frf := fun b hb => (List.not_mem_nil hb).elim, hok := hok, bare := .of_eq gens }
    refine codeAny_mono ((F _ kH (nsH nsG)).run callerA rfl room [] s H ⟨[.ref a], []⟩ [.ref a] [.ref a] _ _ start0 (bnd s (.ref a)) (.cons rfl .nil) (wants H only seq)) fun r s' after => ?_
    match r, after with
    | .error e, bad => exact bad.elim
    | .ok .next, bad => exact bad.elim
    | .ok .brk, bad => exact bad.elim
    | .ok .cont, bad => exact bad.elim
    | .ok (.ret u), ⟨v, H', os, bare, un, hok', rv, isT⟩ =>
      obtain rfl : v = .bl true := isT
      obtain rfl : u = Value.bool true := rv
      refine ⟨rfl, OldK.of_keep fun b o e => ?_, os, bare⟩
      cases q : H b with
      | none => exact un.keep b o e q (fun z => (List.not_mem_nil (show b ∈ ([] : List Addr) from z)).elim) (by simp)
      | some u =>
        obtain ⟨ob, xs, z⟩ := (only b).resolve_left (by rw [q]; simp)
        obtain ⟨e1, _⟩ := hok b _ z
        obtain ⟨e2, _⟩ := hok' b _ (un.frzs b ob _ z)
        exact (e.symm.trans e1) ▸ e2
  have lenV := areI.length
  by_cases there : ∃ o, K.lookup a = some o
  · obtain ⟨o, ho⟩ := there
    obtain rfl : o = _ := Option.some.inj ((inK a o ho).symm.trans obj)
    exact go (fun _ => none) (fun _ => .inl rfl) (.inr ⟨_, vs.toArray, _, ho, rfl, rfl, rfl, by rw [List.size_toArray, lenV]; exact short, by simpa using vals⟩) (fun b u z => nomatch z) fun _ => .inl rfl
  · have noK : K.lookup a = Option.none := by
      cases e : K.lookup a with
      | none => rfl
      | some o => exact (there ⟨o, e⟩).elim
    refine go (fun b => if b = a then some (.frz { cls := .type "list", data := .seq vs.toArray } (.lst (ns.map V.int))) else Option.none) (fun b => ?_) (.inl (.inr ⟨_, if_pos rfl⟩)) (fun b u z => ?_) fun b => ?_
    all_goals by_cases hb : b = a
    · exact .inr ⟨_, _, if_pos hb⟩
    · exact .inl (if_neg hb)
    · obtain rfl := Option.some.inj (z.symm.trans (if_pos hb))
      subst hb
      exact ⟨obj, by rw [List.length_map]; exact short, vs, _, vals, obj⟩
    · exact nomatch z.symm.trans (if_neg hb)
    · exact .inr ⟨hb, noK⟩
    · exact .inl (if_neg hb)
theorem walkG {l : PySem.W.OpenLaw} {k : Nat} {q : Program} {loose : List Str} {XP : (Str → Option Value) → Heap → Prop} {YP : World → Heap → Prop} {d : DefRec} {K : Params → PySem.W.Frag} {sp : PySem.W.Frag → Sp} {x : Str}
    (most : l.most = some 63) (noDef : d.params.defaults = []) (room : Room k callerA) (hY : ∀ (w : World) (h : Heap), YP w h → (K w.params).In h)
    (F : ∀ (w : World) (mg : Str → Option Value) (fa : Addr) (h : Heap), (K w.params).In h → h.Ns mainGlobals mg → mg d.name = some (.ref fa) → ∃ fd : FuncData, (∀ (s : Shared) (u : Value), BindsTo s fd ⟨[u], []⟩ [(x, u)]) ∧
      ∀ base : Heap, (K w.params).In base → base.Ns mainGlobals mg → FnG l.prog w (K w.params) mg base k fa fd [x] (sp (K w.params)))
    (wants : ∀ (K : PySem.W.Frag) (H : Hp) (a : Addr) (ns : List Int), ns.length ≤ 63 → Only H → SqL K H a (ns.map V.int) → sp K [.ref a] H (fun v _ => v = .bl true) E0) :
    PySem.W.WalkO q loose XP YP l.row.toRowW d [] (fun f vs => PySem.call f vs) := by
  refine Att.attach_call most noDef fun w s₀ s₁ mg mb fa o pm cd doc a vs ns G Y ho hd hcd hmg hobj hints hlen hg => ?_
  obtain ⟨fd, hb, hF⟩ := F w mg fa _ (hY w _ Y) G.T.g hmg
  exact law_calledG (hY w _ Y) G.T.g G.T.b G.T.builtins G.T.nolimit hg hobj hints (Nat.le_trans hlen (by decide)) room hF hb (fun H only seq => wants _ H a ns hlen only seq)
/-! ### enumerate over a tuple -/
theorem draws_tuple {prog : Program} {w : World} {A : Around} (hh : A.handled = none) (it l : Addr) (ne : l ≠ it) (vs : Array Value) :
    Draws prog w A it [it, l] vs.size (fun i v => vs[i]? = some v) (fun i h => h.IsTupleIter it l i ∧ h.IsTuple l vs) where
  live := fun _ _ st => st.1.elim fun o ho => ⟨o, ho.1⟩
  frame := fun _ _ _ st keep => by
    obtain ⟨⟨o, ho, ro⟩, ⟨u, hu, ru⟩⟩ := st
    exact ⟨⟨o, keep it (by simp) o ho, ro⟩, ⟨u, keep l (by simp) u hu, ru⟩⟩
  item := fun i s Q E hi st hQ => by
    refine RZ.nextOf_tuple_item st.1 st.2 (x := vs[i]) (by simp [hi]) fun h' it' but => ?_
    exact hQ _ h' s.toks (by simp [hi]) ⟨it', st.2.extBut but.extBut ne⟩ but
  done := fun s Q E st hE => RZ.nextOf_tuple_end hh st.1 st.2 (by simp) hE
set_option maxHeartbeats 1000000 in
theorem enum_made_tuple (l : Addr) (vs : Array Value) (n : Nat) (dct : Option Addr) (sl : Array (Option Value)) :
    Meets (Builtin.«enumerate.__new__» ⟨[.type "enumerate", .ref l], []⟩) (fun _ R s => s.heap.get? l = some { cls := .type "tuple", dict := dct, data := .seq vs n, slots := sl } ∧
      R (.ok (.ret (.ref (s.heap.push { cls := .type "tuple_iterator", data := .fields #[.ref l, .int 0 0] }).objs.size)))
        { s with heap := (s.heap.push { cls := .type "tuple_iterator", data := .fields #[.ref l, .int 0 0] }).push { cls := .type "enumerate", data := .fields #[.none, .bool false, .ref s.heap.objs.size, rawInt 0, .none, .none] } }) := by
  refine .of_wp fun prog w A R s given => ?_
  obtain ⟨hp, g, d, tk, os⟩ := s
  obtain ⟨there, goal⟩ := given
  have sub := sub_enumerate
  have isT : Heap.IsTuple (Shared.heap ⟨hp, g, d, tk, os⟩) l vs := ⟨_, there, rfl, n, rfl⟩
  wp_walk using AutoSeq1.wpAny_loadPart' there
  refine wpAny_stack_any fun st => wpAny_pure ?_
  split
  · rename_i c _ _ _ _ _
    cases (c == Value.type "enumerate") <;> (wp_walk using AutoSeq1.wpAny_loadPart' there, wpAny_pyIter_tuple isT; exact ⟨_, rfl, goal⟩)
  · wp_walk using AutoSeq1.wpAny_loadPart' there, wpAny_pyIter_tuple isT
    exact ⟨_, rfl, goal⟩
theorem call_enum_tuple {prog : Program} {w : World} {A : Around} {E : Value → Shared → Prop} {s : Shared} {l : Addr} {vs : Array Value} {Q : Value → Shared → Prop} (isT : s.heap.IsTuple l vs)
    (hQ : ∀ h', IsEnum h' (s.heap.objs.size + 1) s.heap.objs.size 0 .none → h'.IsTupleIter s.heap.objs.size l 0 → (∀ b o, s.heap.get? b = some o → h'.get? b = some o) → Q (.ref (s.heap.objs.size + 1)) { s with heap := h' }) :
    wpAny (model prog w) A (call (.type "enumerate") [.ref l]) Q E s := by
  obtain ⟨⟨c, dct, dt, sl⟩, there, hc, n, hd⟩ := isT
  obtain rfl : c = .type "tuple" := hc
  obtain rfl : dt = .seq vs n := hd
  have sz : (s.heap.push { cls := .type "tuple_iterator", data := .fields #[.ref l, .int 0 0] }).objs.size = s.heap.objs.size + 1 := Heap.size_push ..
  refine callType_new F.called_enumerate (by decide) (F.typeCall_enumerate_1 _) (F.newCall_enumerate_1 _) (fun obj => F.args_object_init_2 obj _) F.entry_enumerate_new (enum_made_tuple l vs n dct sl) ⟨there, ?_⟩
  rw [sz]
  have made : IsEnum ((s.heap.push { cls := .type "tuple_iterator", data := .fields #[.ref l, .int 0 0] }).push { cls := .type "enumerate", data := .fields #[.none, .bool false, .ref s.heap.objs.size, rawInt 0, .none, .none] }) (s.heap.objs.size + 1) s.heap.objs.size 0 .none := by
    show Heap.get? _ _ = _
    rw [← sz]
    exact Heap.get?_push_size _ rfl
  exact ⟨⟨_, made, rfl⟩, hQ _ made ⟨_, Heap.get?_push_of_some _ (Heap.get?_push_size _ rfl), rfl, rfl⟩ fun b o e => Heap.get?_push_of_some _ (Heap.get?_push_of_some _ e)⟩
/-- the tuple at a, by its items' numbers -/
def ItnT (K : PySem.W.Frag) (a : Addr) : It where
  go := fun i H => ∃ (xs : List V) (x : V), SqT K H a xs ∧ xs[i]? = some x
  yld := fun i H v H' => ∃ T x, v = .ref T ∧ H T = none ∧ H' = upd H T (.tup [.int (i : Nat), x]) ∧ ∀ xs, SqT K H a xs → xs[i]? = some x
  stop := fun i H => ∃ xs : List V, SqT K H a xs ∧ xs.length = i
theorem walk_enumT {K : PySem.W.Frag} {a : Addr} {xs : List V} : Walk (ItnT K a) xs.length (fun H => SqT K H a xs) (YPair (fun i => some (.int (i : Nat))) (fun i => xs[i]?)) where
  goes := fun i _ hi q => ⟨xs, xs[i], q, by simp [hi]⟩
  stops := fun _ q => ⟨xs, q, rfl⟩
  yields := fun i H v H' _ q ⟨T, x, h1, h2, h3, h4⟩ => ⟨T, .int (i : Nat), x, h1, h2, h3, rfl, h4 xs q⟩
theorem turn_enumT {P : Program} {w : World} {K : PySem.W.Frag} {elts : List Expr} {kk : Nat} {tpos : Pos} (a e it : Addr) :
    Turn P w K (.Tuple elts kk tpos) (ItnT K a) [e, it] e (fun i h => (∃ old, IsEnum h e it ((i : Nat) : Int) old) ∧ h.IsTupleIter it a i ∧ e ≠ it) where
  mem := List.mem_cons_self
  obj := fun i h st b hb => by
    obtain ⟨⟨old, he⟩, ⟨o, ho, _, hd⟩, _⟩ := st
    rcases List.mem_cons.mp hb with rfl | hb
    · exact ⟨_, he, fun v q => nomatch q⟩
    · rw [List.mem_singleton.mp hb]
      exact ⟨o, ho, fun v q => by rw [hd] at q; cases q⟩
  keep := fun i h h' st keep => by
    obtain ⟨⟨old, he⟩, ⟨o, ho, r⟩, ne⟩ := st
    exact ⟨⟨old, keep e (by simp) _ he⟩, ⟨o, keep it (by simp) _ ho, r⟩, ne⟩
  item := by
    intro X hP hw hK hc i pins s σ H E I free st going
    subst hP hw hK
    obtain ⟨⟨old, he⟩, hit, ne⟩ := st
    obtain ⟨xs, x, seq, hx⟩ := going
    obtain ⟨its, vals, isT, _⟩ := I.tuple seq
    obtain ⟨u, hu, ru⟩ := vals.get hx
    have elt : e < s.heap.objs.size := Heap.lt_size he
    obtain ⟨oi, hoi, ci, di⟩ := id hit
    have ilt : it < s.heap.objs.size := Heap.lt_size hoi
    have isT' : s.heap.IsTuple a its.toArray := isT
    obtain ⟨oa, hoa, ca, na, da⟩ := id isT'
    have ai : a ≠ it := by
      rintro rfl
      rw [hoa] at hoi
      rw [Option.some.inj hoi, di] at da
      cases da
    have ea : e ≠ a := by
      rintro rfl
      have he' := hoa.symm.trans (show s.heap.get? e = some _ from he)
      rw [Option.some.inj he'] at da
      cases da
    have hlt : i < its.toArray.size := by
      rw [List.size_toArray, ← vals.length]
      exact (List.getElem?_eq_some_iff.mp hx).1
    have D := draws_tuple (prog := X.prog) (w := X.w) (A := X.A.in1) (I.ok.hd hc) it a ai its.toArray
    refine wpAny_pyNext_enum_itemD D he ⟨hit, isT'⟩ hlt ne (by simp [ne, ea]) fun v h' tk hv eo st' hT sz keeps => ?_
    obtain rfl : u = v := by
      have hv' : its[i]? = some v := by simpa using hv
      exact Option.some.inj (hu.symm.trans hv')
    refine ⟨_, rfl, wpAny_letOwnedTupleGo_enum (s := { s with heap := h', toks := tk + 1 }) eo fun h'' e'' sb => ?_⟩
    have hT2 : h''.get? s.heap.objs.size = some { cls := .type "tuple", data := .seq #[.int i tk, u] } := (sb.2 _ (Nat.ne_of_gt elt)).trans hT
    have fresh : ObjOk X.prog X.w (upd H s.heap.objs.size (.tup [.int (i : Nat), x])) h'' s.heap.objs.size (.tup [.int (i : Nat), x]) :=
      ⟨by show 2 ≤ sizeLine; decide, [.int i tk, u], .cons ⟨_, rfl⟩ (.cons ru .nil), ⟨_, hT2, rfl, _, rfl⟩⟩
    have J : Inv X pins σ (upd H s.heap.objs.size (.tup [.int (i : Nat), x])) { s with heap := h'', toks := tk + 1 } :=
      I.turnedNew (ch := [e, it]) (fun b ob hb q => (sb.2 b fun z => hb (by simp [z])).trans (keeps b ob (fun z => hb (by simp [z])) (fun z => hb (by simp [z])) q)) free (Nat.le_refl _) fresh
    refine ⟨.ref s.heap.objs.size, _, J, rfl, ⟨_, x, rfl, I.hok.fresh (Nat.le_refl _), rfl, fun ys hy => ?_⟩, ⟨⟨u, ?_⟩, ?_, ne⟩, fun b hb => ?_⟩
    · obtain ⟨its2, vals2, isT2, _⟩ := I.tuple hy
      rw [I.tuple_inj hy seq]
      exact hx
    · rw [show ((i + 1 : Nat) : Int) = (i : Int) + 1 by omega]
      exact e''
    · obtain ⟨o, ho, r⟩ := st'.1
      exact ⟨o, (sb.2 it (Ne.symm ne)).trans ho, r⟩
    · have : b < s.heap.objs.size := by
        rcases List.mem_cons.mp hb with rfl | hb
        · exact elt
        · rw [List.mem_singleton.mp hb]
          exact ilt
      rw [upd_ne (Nat.ne_of_lt this)]
      exact (free b hb).1
  done := by
    intro X hP hw hK hc i pins s σ H E I free st ends
    subst hP hw hK
    obtain ⟨⟨old, he⟩, hit, ne⟩ := st
    obtain ⟨xs, seq, hx⟩ := ends
    obtain ⟨its, vals, isT, _⟩ := I.tuple seq
    obtain ⟨oi, hoi, ci, di⟩ := id hit
    have isT' : s.heap.IsTuple a its.toArray := isT
    obtain ⟨oa, hoa, ca, na, da⟩ := id isT'
    have ai : a ≠ it := by
      rintro rfl
      rw [hoa] at hoi
      rw [Option.some.inj hoi, di] at da
      cases da
    have sz : i = its.toArray.size := by
      rw [List.size_toArray, ← vals.length, hx]
    subst sz
    have D := draws_tuple (prog := X.prog) (w := X.w) (A := X.A.in1) (I.ok.hd hc) it a ai its.toArray
    obtain ⟨f0, f1, f2, f3, f4, f5⟩ := free it (by simp)
    exact wpAny_pyNext_enum_endD D he ⟨hit, isT'⟩ fun h' eb => ⟨rfl, I.turned (t' := s.toks) (fun b o hb q => eb b o hb q) f0 f1 f3 f4 f5⟩
  self := fun A i s Q E st h => st.1.elim fun _ he => wpAny_pyIter_enum he h
def iEnumT (K : PySem.W.Frag) (ta : TA) : TI := fun σ H R => ta σ H fun vs H1 => ∃ a xs, vs = [.ref a] ∧ SqT K H1 a xs ∧ R (ItnT K a) H1
theorem pi_enumT {X : Cx} {e : Expr} {ta : TA} {p pos tpos : Pos} {elts : List Expr} {kk : Nat} (hg : Gl X "enumerate") (hm : X.mg "enumerate" = none) (ha : PA X [e] ta) (hs : starEach [e] X.env = [(false, eval e X.env)] := by rfl) :
    PI X (.Tuple elts kk tpos) (.Call (.Name "enumerate" p) [e] [] pos) (iEnumT X.K ta) := by
  refine ⟨fun pins s σ H R I h => Call_ (ld_blt I hg hm boot_enumerate (PyProof.Rows.callWith_type1 (thn (ha.run pos pins s σ H _ I h) fun us s1 ⟨vs, H1, I1, r1, q1⟩ => ?_) hs rfl))⟩
  obtain ⟨a, xs, rfl, seq, q⟩ := q1
  obtain ⟨u, rfl, ru⟩ := vals1 r1
  cases ru
  obtain ⟨its, vals, isT, _⟩ := I1.tuple seq
  refine call_enum_tuple isT fun h' he hit keeps => wpAny_pyIter_enum he ?_
  refine ⟨s1.heap.objs.size + 1, [s1.heap.objs.size + 1, s1.heap.objs.size], _, _, H1, rfl, I1.kept (t' := s1.toks) keeps, turn_enumT a (s1.heap.objs.size + 1) s1.heap.objs.size, ⟨⟨.none, he⟩, hit, Nat.succ_ne_self _⟩, fun b hb => ?_, q⟩
  have le : s1.heap.objs.size ≤ b := by
    rcases List.mem_cons.mp hb with rfl | hb
    · exact Nat.le_succ _
    · rw [List.mem_singleton.mp hb]
      exact Nat.le_refl _
  exact I1.fpOk le (I1.hok.fresh le)
/-! ### min of a tuple of ints -/
theorem ints_readsAll {h : Heap} : ∀ {vs : List Value} {ns : List Int}, Vals (ns.map V.int) vs → ∃ as, ReadsAll h vs (ns.map PyData.int) as
  | [], [], _ => ⟨[], .nil⟩
  | v :: vs, n :: ns, r => by
    cases r with
    | cons r rr =>
      obtain ⟨t, rfl⟩ := r
      obtain ⟨as, q⟩ := ints_readsAll (h := h) rr
      exact ⟨_, .cons (.int n t) q⟩
  | _ :: _, [], r => nomatch r
  | [], _ :: _, r => nomatch r
theorem depthAll_ints : ∀ ns : List Int, PyData.depthAll (ns.map PyData.int) ≤ 1
  | [] => Nat.zero_le _
  | n :: ns => by
    have := depthAll_ints ns
    show max (PyData.depth (.int n)) (PyData.depthAll (ns.map PyData.int)) ≤ 1
    have e : PyData.depth (.int n) ≤ 1 := by first | decide | simp [PyData.depth]
    omega
def rMinT (K : PySem.W.Frag) : List V → Hp → VK → Prop := fun vs H Q => ∃ (a : Addr) (n : Int) (ns : List Int), vs = [V.ref a] ∧ SqT K H a ((n :: ns).map V.int) ∧ Q (.int (ns.foldl min n)) H
theorem cr_minT {X : Cx} {k : Nat} (hc : X.calm = true) (room : Room k X.A) : CallR X (.builtin "min") (rMinT X.K) := by
  intro pins s σ H vs us Q I r h
  obtain ⟨a, n, ns, rfl, seq, q⟩ := h
  obtain ⟨its, vals, isT, _⟩ := I.tuple seq
  rw [Vals.ref1 r]
  obtain ⟨as, reads⟩ := ints_readsAll (h := s.heap) vals
  have alike : PySem.W.AlikeAll ((n :: ns).map PyData.int) := by
    refine ⟨fun x hx y hy => ?_, fun x hx e => ?_⟩
    · obtain ⟨i, _, rfl⟩ := List.mem_map.mp hx
      obtain ⟨j, _, rfl⟩ := List.mem_map.mp hy
      simp [PySem.W.alike]
    · obtain ⟨i, _, rfl⟩ := List.mem_map.mp hx
      cases e
  have un := room.un
  have dp := depthAll_ints (n :: ns)
  refine PySem.W.min_tuple_data (I.ok.hd hc) (show s.heap.IsTuple a its.toArray from isT) (by simpa using reads) alike (by show X.A.units + 1 + _ < _; have : PyData.depthAll (PyData.int n :: ns.map PyData.int) ≤ 1 := dp; omega) fun i v h' tk bs hv rd keeps => ?_
  rw [PySem.W.minD_ints] at rd
  cases rd with
  | int _ t => exact ⟨.int _, H, I.kept keeps, ⟨t, rfl⟩, q⟩
theorem foldl_min_le : ∀ (ns : List Int) (n b : Int), b ≤ ns.foldl min n ↔ b ≤ n ∧ ∀ m ∈ ns, b ≤ m
  | [], n, b => by simp
  | m :: r, n, b => by
    rw [List.foldl_cons, foldl_min_le r (min n m) b, List.forall_mem_cons]
    constructor
    · rintro ⟨h1, h2⟩
      exact ⟨by omega, by omega, h2⟩
    · rintro ⟨h1, h2, h3⟩
      exact ⟨by omega, h3⟩
/-! ### drawn houses -/
def sHouse : Stmt := topS 9
def wayD (l : List Int) : PyData := .tuple (l.map PyData.int)
def askD (a : List (List Int)) : PyData := .tuple (a.map wayD)
def houseD (h : List (List (List Int))) : PyData := .tuple (h.map askD)
structure WayOk (kinds size : Int) (l : List Int) : Prop where
  len : (l.length : Int) = kinds
  all : ∀ x ∈ l, -size ≤ x ∧ x ≤ size
structure AskOk (kinds ways size : Int) (a : List (List Int)) : Prop where
  one : 1 ≤ a.length
  five : a.length ≤ 5
  most : (a.length : Int) ≤ ways + 1
  all : ∀ l ∈ a, WayOk kinds size l
structure HouseOk (kinds asks ways size : Int) (h : List (List (List Int))) : Prop where
  one : 1 ≤ h.length
  most : (h.length : Int) ≤ asks
  all : ∀ a ∈ h, AskOk kinds ways size a
theorem noLAll_map {α : Type} {f : α → PyData} (hf : ∀ x, noL (f x) = true) : ∀ l : List α, noLAll (l.map f) = true
  | [] => by simp [noLAll]
  | a :: r => by
    rw [List.map_cons]
    simp only [noLAll, Bool.and_eq_true]
    exact ⟨hf a, noLAll_map hf r⟩
theorem noL_int (i : Int) : noL (.int i) = true := by simp [noL]
theorem noL_way (l : List Int) : noL (wayD l) = true := by
  unfold wayD
  simp only [noL]
  exact noLAll_map noL_int l
theorem noL_ask (a : List (List Int)) : noL (askD a) = true := by
  unfold askD
  simp only [noL]
  exact noLAll_map noL_way a
theorem noL_house (h : List (List (List Int))) : noL (houseD h) = true := by
  unfold houseD
  simp only [noL]
  exact noLAll_map noL_ask h
theorem Pen.at {H : Hp} {p c : Addr} {ns : List Int} {n : Nat} (h : Pen H p c ns n) : ∃ l, H p = some (.lst l) := by
  obtain ⟨⟨a, l, h1, _⟩, _⟩ := h
  exact ⟨_, h1⟩
theorem Pen.dp {K : PySem.W.Frag} {H H' : Hp} {p c : Addr} {ns : List Int} {n : Nat} {v : V} {d : PyData} (h : Pen H p c ns n) (k : Kp p H H') (q : Dp K H v d) (nl : noL d = true) : Dp K H' v d := by
  obtain ⟨l, hp⟩ := h.at
  exact dp_kp k hp q nl
theorem Pen.dpAll {K : PySem.W.Frag} {H H' : Hp} {p c : Addr} {ns : List Int} {n : Nat} {v : List V} {d : List PyData} (h : Pen H p c ns n) (k : Kp p H H') (q : DpAll K H v d) (nl : noLAll d = true) : DpAll K H' v d := by
  obtain ⟨l, hp⟩ := h.at
  exact dpAll_kp k hp q nl
/-- a tuple of such data, laid anew -/
theorem dp_tup {K : PySem.W.Frag} {H : Hp} {q : Addr} {vs : List V} {ds : List PyData} (nq : H q = none) (h : DpAll K H vs ds) : Dp K (upd H q (.tup vs)) (.ref q) (.tuple ds) :=
  .tup (SqT.of upd_same) (dpAll_same (same_upd nq) h)
theorem Kp.free {p a : Addr} {H H' : Hp} (k : Kp p H H') (h : H' a = none) (ne : a ≠ p) : H a = none := by
  cases e : H a with
  | none => rfl
  | some o =>
    rw [k _ _ e ne] at h
    cases h
theorem Kp.put {p a : Addr} {H H' : Hp} {o : HO} (k : Kp p H H') (h : H a = none) : Kp p H (upd H' a o) := fun b x e n => by
  rw [upd_ne (ne_of_none e h)]
  exact k _ _ e n
theorem Pen.put {H : Hp} {p c a : Addr} {ns : List Int} {n : Nat} {o : HO} (h : Pen H p c ns n) (hp : p ≠ a) (hc : c ≠ a) : Pen (upd H a o) p c ns n := by
  obtain ⟨⟨x, y, h1, h2⟩, h3⟩ := h
  exact ⟨⟨x, y, by rw [upd_ne hp]; exact h1, h2⟩, by rw [upd_ne hc]; exact h3⟩
theorem Pen.nep {H : Hp} {p c a : Addr} {ns : List Int} {n : Nat} (h : Pen H p c ns n) (q : H a = none) : p ≠ a ∧ c ≠ a := by
  obtain ⟨⟨x, y, h1, h2⟩, h3⟩ := h
  exact ⟨ne_of_none h1 q, ne_of_none h3 q⟩
theorem dpAll_put {K : PySem.W.Frag} {H : Hp} {a : Addr} {l : List V} {o : HO} {v : List V} {d : List PyData} (h : H a = some (.lst l)) (q : DpAll K H v d) (nl : noLAll d = true) : DpAll K (upd H a o) v d := dpAll_kp (kp_upd a H o) h q nl
theorem at3 {size r : Int} (s0 : 0 ≤ size) (h0 : 0 ≤ r) (h1 : r < 3) : ∃ z, atI [V.int size, V.int (0 - size), V.int 0] r = some (.int z) ∧ -size ≤ z ∧ z ≤ size := by
  have : r = 0 ∨ r = 1 ∨ r = 2 := by omega
  rcases this with rfl | rfl | rfl
  · exact ⟨size, atI_nat (j := 0) rfl, by omega, by omega⟩
  · exact ⟨0 - size, atI_nat (j := 1) rfl, by omega, by omega⟩
  · exact ⟨0, atI_nat (j := 2) rfl, by omega, by omega⟩
theorem atI_some {xs : List V} {k : Int} (h0 : 0 ≤ k) (h1 : k < xs.length) : ∃ v, atI xs k = some v ∧ xs[k.toNat]? = some v := by
  obtain ⟨j, rfl⟩ : ∃ j : Nat, k = (j : Int) := ⟨k.toNat, by omega⟩
  have hj : j < xs.length := by omega
  exact ⟨xs[j], atI_nat (List.getElem?_eq_getElem hj), by simp [hj]⟩
theorem mem_app1 {α : Type} {P : α → Prop} {l : List α} {x : α} (h : ∀ a ∈ l, P a) (hx : P x) : ∀ a ∈ l ++ [x], P a := fun a ha => by
  rcases List.mem_append.mp ha with h' | h'
  · exact h a h'
  · rw [List.mem_singleton.mp h']
    exact hx
theorem dpAll_app1 {K : PySem.W.Frag} {H : Hp} {α : Type} {f : α → PyData} {vs : List V} {l : List α} {v : V} {x : α} (h : DpAll K H vs (l.map f)) (q : Dp K H v (f x)) : DpAll K H (vs ++ [v]) ((l ++ [x]).map f) := by
  rw [List.map_append]
  exact dpAll_app h (.cons q .nil)
theorem small_line {n : Nat} (h : n ≤ 100000) : n < sizeLine := Nat.lt_of_le_of_lt h (by decide)
def spHouse (K : PySem.W.Frag) : Sp := fun vs H Q _ => ∃ (p c : Addr) (ns : List Int) (n : Nat) (kinds asks ways size : Int), vs = [.ref p, .int kinds, .int asks, .int ways, .int size] ∧ Pen H p c ns n ∧ n + 600 < penMost ∧
  (1 ≤ kinds ∧ kinds ≤ 4) ∧ (1 ≤ asks ∧ asks ≤ 8) ∧ (1 ≤ ways ∧ ways ≤ 5) ∧ (0 ≤ size ∧ size ≤ 99) ∧
  ∀ a H' h, Kp p H H' → Pen H' p c ns (n + 600) → Dp K H' (.ref a) (houseD h) → HouseOk kinds asks ways size h → Q (.ref a) H'
section
variable {P : Program} {w : World} {K : PySem.W.Frag} {mg : Str → Option Value} {base : Heap}
theorem scHouse : FnScope ["pen", "kinds", "asks", "ways", "size", "found", "i", "ask", "k", "way", "kind", "one"] ["pen", "kinds", "asks", "ways", "size"] (defScope sHouse) := ⟨rfl, rfl, rfl, by decide +kernel, rfl, by decide +kernel, by decide +kernel⟩
theorem ok_house {f fT : Addr} {fd fdT : FuncData} {k : Nat} (F : Fun K "_law_house" "_law_house" sHouse f fd) (GT : FnOk P w K mg base CX0 (k + 2) fT fdT ["pen", "amount"] spTake) (kT : PySem.W.keepIn K (.ref fT) = true) (bT : Binds K fdT ["pen", "amount"] []) (gT : mg "_law_take" = some (.ref fT))
    (mr : mg "range" = none) (mt : mg "tuple" = none) (ml : mg "len" = none) : FnOk P w K mg base CX0 (k + 3) f fd ["pen", "kinds", "asks", "ways", "size"] (spHouse K) := by
  refine F.ok scHouse (fun vs H Q E h => ?_) (fun cdv A outer s H vs Q E hr h => ?_)
  · obtain ⟨p, c, ns, n, kinds, asks, ways, size, rfl, _⟩ := h
    rfl
  · obtain ⟨p, c, ns, n, kinds, asks, ways, size, rfl, hP, hn, ⟨k0, k1⟩, ⟨a0, a1⟩, ⟨w0, w1⟩, ⟨s0, s1⟩, q⟩ := h
    unfold penMost at hn
    refine ⟨_, pss_cons (ps_set (i := 5) scHouse.nd rfl (.inl rfl) (pe_lst pa_nil))
      (pss_cons (ps_for PassesOwn.never rfl (pi_range1 (by rfl) mr (pa_cons (pe_op op_add pe_int (pe_call GT hr (by rfl) gT kT bT .nil pass0 (pa_cons (pv 0) (pa_cons (pv 2) pa_nil)))) pa_nil)) (pg_name (i := 6) scHouse.nd rfl (.inl rfl))
        (pss_cons (ps_set (i := 7) scHouse.nd rfl (.inl rfl) (pe_lst pa_nil))
        (pss_cons (ps_for PassesOwn.never rfl (pi_range1 (by rfl) mr (pa_cons (pe_op op_add pe_int (pe_call GT hr (by rfl) gT kT bT .nil pass0 (pa_cons (pv 0) (pa_cons (pv 3) pa_nil)))) pa_nil)) (pg_name (i := 8) scHouse.nd rfl (.inl rfl))
          (pss_cons (ps_setLc (i := 9) (own := [("kind", 10)]) (g := gName 10) (tt := tYes) rfl scHouse.nd rfl rfl (sw_true rfl rfl rfl (by decide +kernel)) (pi_range1 (by rfl) mr (pa_cons (pv 1) pa_nil))
              (blkOk_by (N := ["pen", "kinds", "asks", "ways", "size", "found", "i", "ask", "k", "way", "kind", "one"]) (sc := defScope sHouse) (by decide +kernel)) (fun _ _ _ _ _ => by exact pg_name (i := 10) scHouse.nd rfl (.inl rfl)) (fun _ _ _ _ _ => pts_nil)
              (fun _ _ _ _ _ => by exact pe_op op_sub (pe_call GT hr (by rfl) gT kT bT .nil pass0 (pa_cons (pv 0) (pa_cons (pe_op op_add (pe_op op_mul pe_int (pv 4)) pe_int) pa_nil))) (pv 4)))
          (pss_cut (ps_if (pt_cmpR op_eq (pe_call GT hr (by rfl) gT kT bT .nil pass0 (pa_cons (pv 0) (pa_cons pe_int pa_nil))) pe_int (nomark _))
              (pss_one (ps_asg (pe_ix ix_list (pe_lst (pa_cons (pv 4) (pa_cons (pe_op op_sub pe_int (pv 4)) (pa_cons pe_int pa_nil)))) (pe_call GT hr (by rfl) gT kT bT .nil pass0 (pa_cons (pv 0) (pa_cons pe_int pa_nil))) (fun _ _ => rfl))
                (pg_sub (pv 9) (pe_call GT hr (by rfl) gT kT bT .nil pass0 (pa_cons (pv 0) (pa_cons (pv 1) pa_nil))) set_list))) pss_nil)
          (pss_one (ps_expr (pe_bm PySem.F.plainAttrs_list PySem.F.slot_list_append PySem.F.type_list_append mt_append (pv 7) (pa_cons (pe_callTy call_tuple_of (by rfl) mt (by decide +kernel) (pa_cons (pv 9) pa_nil)) pa_nil)))))))
        (pss_cut (ps_if (PW.pt (pw_and (pt_cmpR op_eq (pe_call GT hr (by rfl) gT kT bT .nil pass0 (pa_cons (pv 0) (pa_cons pe_int pa_nil))) pe_int (nomark _)) (pw_and1 (pt_cmpR op_lt (pe_callB call_len_seq (by rfl) ml PySem.boot_len (pa_cons (pv 7) pa_nil)) pe_int (nomark _)))))
            (pss_one (ps_expr (pe_bm PySem.F.plainAttrs_list PySem.F.slot_list_append PySem.F.type_list_append mt_append (pv 7) (pa_cons (pe_callTy call_tuple_of (by rfl) mt (by decide +kernel) (pa_cons
              (pe_lc (own := [("one", 11)]) (g := gName 11) (tt := tYes) rfl scHouse.nd (pi_tup (pe_ix ix_list (pv 7) (pe_call GT hr (by rfl) gT kT bT .nil pass0 (pa_cons (pv 0) (pa_cons (pe_callB call_len_seq (by rfl) ml PySem.boot_len (pa_cons (pv 7) pa_nil)) pa_nil))) (fun _ _ => rfl)))
                (blkOk_by (N := ["pen", "kinds", "asks", "ways", "size", "found", "i", "ask", "k", "way", "kind", "one"]) (sc := defScope sHouse) (by decide +kernel)) (fun _ _ _ _ _ => by exact pg_name (i := 11) scHouse.nd rfl (.inl rfl)) (fun _ _ _ _ _ => pts_nil)
                (fun _ _ _ _ _ => by exact pe_op op_sub pe_int (pv 11))) pa_nil)) pa_nil)))) pss_nil)
        (pss_one (ps_expr (pe_bm PySem.F.plainAttrs_list PySem.F.slot_list_append PySem.F.type_list_append mt_append (pv 5) (pa_cons (pe_callTy call_tuple_of (by rfl) mt (by decide +kernel) (pa_cons (pv 7) pa_nil)) pa_nil))))))))
      (pss_one (ps_ret (pe_callTy call_tuple_of (by rfl) mt (by decide +kernel) (pa_cons (pv 5) pa_nil))))), ?_⟩
    have npc : ∀ {H' : Hp} {m : Nat} {a : Addr}, Pen H' p c ns m → H' a = none → p ≠ a ∧ c ≠ a := fun h q => h.nep q
    -- found = []
    refine ⟨by show 0 ≤ sizeLine; decide, fun F nF => ?_⟩
    have sF := same_upd (o := .lst []) nF
    obtain ⟨npF, ncF⟩ := hP.nep nF
    refine ⟨_, rfl, _, rfl, p, c, ns, n, asks, rfl, hP.same sF, by unfold penMost; omega, a0, by omega, fun r H1 r0 r1 kp1 P1 => ?_⟩
    refine ⟨1, r, rfl, rfl, _, rfl, by omega, by omega, ?_⟩
    refine for_range (lo := 0) (n := (1 + r).toNat) (fun i σ H2 => ∃ (y6 y7 y8 y9 : Option V) (fs : List V) (hs : List (List (List Int))), σ = [some (.ref p), some (.int kinds), some (.int asks), some (.int ways), some (.int size), some (.ref F), y6, y7, y8, y9, none, none] ∧
      Kp p H H2 ∧ Pen H2 p c ns (n + 1 + 60 * i) ∧ H2 F = some (.lst fs) ∧ DpAll K H2 fs (hs.map askD) ∧ hs.length = i ∧ ∀ a ∈ hs, AskOk kinds ways size a)
      ⟨none, none, none, none, [], [], rfl, sF.kp.trans kp1, P1, kp1 _ _ upd_same npF.symm, .nil, rfl, by simp⟩ ?_ ?_
    · rintro i σ H2 hi ⟨y6, y7, y8, y9, fs, hs, rfl, kp2, P2, hF, dF, lF, okF⟩
      have hi8 : i < 8 := by omega
      -- ask = []
      refine ⟨by show 0 ≤ sizeLine; decide, fun A nA => ?_⟩
      have sA := same_upd (o := .lst []) nA
      obtain ⟨npA, ncA⟩ := P2.nep nA
      have nFA : F ≠ A := ne_of_none hF nA
      have nHA : H A = none := kp2.free nA npA.symm
      refine ⟨_, rfl, _, rfl, p, c, ns, _, ways, rfl, P2.same sA, by unfold penMost; omega, w0, by omega, fun r' H3 r0' r1' kp3 P3 => ?_⟩
      refine ⟨1, r', rfl, rfl, _, rfl, by omega, by omega, ?_⟩
      refine for_range (lo := 0) (n := (1 + r').toNat) (fun j σ H4 => ∃ (y8 y9 : Option V) (ws : List V) (ls : List (List Int)), σ = [some (.ref p), some (.int kinds), some (.int asks), some (.int ways), some (.int size), some (.ref F), some (.int (0 + (i : Int))), some (.ref A), y8, y9, none, none] ∧
        Kp p H H4 ∧ Pen H4 p c ns (n + 2 + 60 * i + 10 * j) ∧ H4 F = some (.lst fs) ∧ DpAll K H4 fs (hs.map askD) ∧ H4 A = some (.lst ws) ∧ DpAll K H4 ws (ls.map wayD) ∧ ls.length = j ∧ ∀ l ∈ ls, WayOk kinds size l)
        ⟨y8, y9, [], [], rfl, (kp2.same sA).trans kp3, P3.mono (by omega), kp3 _ _ (sA _ _ hF) npF.symm, (P2.same sA).dpAll kp3 (dpAll_same sA dF) (noLAll_map noL_ask hs), kp3 _ _ upd_same npA.symm, .nil, rfl, by simp⟩ ?_ ?_
      · rintro j σ H4 hj ⟨y8, y9, ws, ls, rfl, kp4, P4, hF4, dF4, hA4, dA4, lA, okA⟩
        have hj5 : j < 5 := by omega
        -- way = [.. for kind in range(kinds)]
        refine ⟨_, rfl, kinds, rfl, by omega, by omega, fun D nD => ?_⟩
        have sD := same_upd (o := .lst []) nD
        obtain ⟨npD, ncD⟩ := P4.nep nD
        refine lc_range (lo := 0) (n := kinds.toNat) (fun t H5 => Kp p H4 H5 ∧ Pen H5 p c ns (n + 2 + 60 * i + 10 * j + t) ∧ ∃ xs : List Int, H5 D = some (.lst (xs.map V.int)) ∧ xs.length = t ∧ ∀ x ∈ xs, -size ≤ x ∧ x ≤ size)
          ⟨sD.kp, P4.same sD, [], upd_same, rfl, by simp⟩ ?_ ?_
        · rintro t H5 ht ⟨kp5, P5, xs, hD, lx, bx⟩
          refine ⟨rfl, ?_⟩
          refine ⟨_, rfl, _, rfl, 2, size, rfl, rfl, .inl ⟨by decide, by decide⟩, _, 1, rfl, rfl, p, c, ns, _, _, rfl, P5, by unfold penMost; omega, by omega, by omega, fun z H6 z0 z1 kp6 P6 => ?_⟩
          refine ⟨_, rfl, z, size, rfl, rfl, _, kp6 _ _ hD npD.symm, by rw [List.length_map]; exact small_line (by omega), ?_⟩
          refine ⟨(kp5.trans kp6).put nD, P6.put npD ncD, xs ++ [z - size], ?_, by rw [List.length_append, lx]; rfl, mem_app1 bx ⟨by omega, by omega⟩⟩
          rw [upd_same, List.map_append]
          rfl
        · rintro H5 ⟨kp5, P5, xs, hD, lx, bx⟩
          have okx : WayOk kinds size xs := ⟨by omega, bx⟩
          -- now and then a number otherwise
          refine ⟨fun σ H6 => ∃ xs : List Int, σ = [some (.ref p), some (.int kinds), some (.int asks), some (.int ways), some (.int size), some (.ref F), some (.int (0 + (i : Int))), some (.ref A), some (.int (0 + (j : Int))), some (.ref D), none, none] ∧
            Kp p H4 H6 ∧ Pen H6 p c ns (n + 2 + 60 * i + 10 * j + 8) ∧ H6 D = some (.lst (xs.map V.int)) ∧ WayOk kinds size xs, ?_, ?_⟩
          · refine ⟨_, rfl, p, c, ns, _, 6, rfl, P5, by unfold penMost; omega, by decide, by decide, fun z H6 z0 z1 kp6 P6 => ?_⟩
            have hD6 := kp6 _ _ hD npD.symm
            refine ⟨rfl, _, rfl, ite2 (fun _ => ?_) (fun _ => ?_)⟩
            · refine ⟨_, rfl, _, rfl, 0, size, rfl, rfl, by show 3 ≤ sizeLine; decide, fun L nL => ?_⟩
              have sL := same_upd (o := .lst [V.int size, V.int (0 - size), V.int 0]) nL
              have nDL : D ≠ L := ne_of_none hD6 nL
              obtain ⟨npL, ncL⟩ := P6.nep nL
              refine ⟨_, rfl, p, c, ns, _, 3, rfl, P6.same sL, by unfold penMost; omega, by decide, by decide, fun z2 H7 z20 z21 kp7 P7 => ?_⟩
              obtain ⟨u, hu, u0, u1⟩ := at3 s0 z20 z21
              refine ⟨L, _, z2, _, rfl, rfl, SqL.of (kp7 _ _ upd_same npL.symm), hu, ?_⟩
              refine ⟨_, rfl, _, rfl, _, rfl, p, c, ns, _, kinds, rfl, P7, by unfold penMost; omega, k0, by omega, fun z3 H8 z30 z31 kp8 P8 => ?_⟩
              have hD8 := kp8 _ _ (kp7 _ _ (sL _ _ hD6) npD.symm) npD.symm
              refine ⟨D, _, z3, _, rfl, rfl, hD8, ixN_of z30 (by rw [List.length_map, lx]; omega), ?_⟩
              refine ⟨xs.set z3.toNat u, rfl, ((((kp5.trans kp6).same sL).trans kp7).trans kp8).put nD, (P8.put npD ncD).mono (by omega), ?_, ⟨by rw [List.length_set]; exact okx.len, fun x hx => ?_⟩⟩
              · rw [upd_same, List.map_set]
              · rcases List.mem_or_eq_of_mem_set hx with h | h
                · exact bx x h
                · rw [h]
                  exact ⟨u0, u1⟩
            · exact ⟨xs, rfl, kp5.trans kp6, P6.mono (by omega), hD6, okx⟩
          · rintro σ H6 ⟨xs, rfl, kp6, P6, hD6, okx⟩
            -- ask.append(tuple(way))
            have hA6 := kp6 _ _ hA4 npA.symm
            refine ⟨_, rfl, .inl ⟨rfl, _, SqL.of hA6⟩, _, rfl, D, _, rfl, .inl ⟨SqL.of hD6, fun W nW => ?_⟩⟩
            have sW := same_upd (o := .tup (xs.map V.int)) nW
            have dW : Dp K (upd H6 W (.tup (xs.map V.int))) (.ref W) (wayD xs) := dp_tup nW (dpAll_ints xs)
            have hAW := sW _ _ hA6
            refine ⟨A, ws, _, rfl, rfl, hAW, small_line (by rw [dpAll_len dA4, List.length_map]; omega), ?_⟩
            refine ⟨_, _, ws ++ [.ref W], ls ++ [xs], rfl, (kp4.trans (kp6.same sW)).put nHA, ((P6.same sW).put npA ncA).mono (by omega), ?_, ?_, upd_same, ?_, by rw [List.length_append, lA]; rfl, mem_app1 okA okx⟩
            · rw [upd_ne nFA]
              exact sW _ _ (kp6 _ _ hF4 npF.symm)
            · exact dpAll_put hAW (dpAll_same sW (P4.dpAll kp6 dF4 (noLAll_map noL_ask hs))) (noLAll_map noL_ask hs)
            · exact dpAll_put hAW (dpAll_app1 (dpAll_same sW (P4.dpAll kp6 dA4 (noLAll_map noL_way ls))) dW) (noLAll_map noL_way _)
      · rintro σ H4 ⟨y8', y9', ws, ls, rfl, kp4, P4, hF4, dF4, hA4, dA4, lA, okA⟩
        have l1 : 1 ≤ ls.length := by omega
        have l5 : ls.length ≤ 5 := by omega
        have lw : (ls.length : Int) ≤ ways := by omega
        -- now and then one turned about
        refine ⟨fun σ H5 => ∃ (ws : List V) (ls : List (List Int)), σ = [some (.ref p), some (.int kinds), some (.int asks), some (.int ways), some (.int size), some (.ref F), some (.int (0 + (i : Int))), some (.ref A), y8', y9', none, none] ∧
          Kp p H H5 ∧ Pen H5 p c ns (n + 2 + 60 * i + 55) ∧ H5 F = some (.lst fs) ∧ DpAll K H5 fs (hs.map askD) ∧ H5 A = some (.lst ws) ∧ DpAll K H5 ws (ls.map wayD) ∧ AskOk kinds ways size ls, ?_, ?_⟩
        · refine ⟨_, rfl, p, c, ns, _, 3, rfl, P4, by unfold penMost; omega, by decide, by decide, fun z H5 z0 z1 kp5 P5 => ?_⟩
          have hA5 := kp5 _ _ hA4 npA.symm
          have hF5 := kp5 _ _ hF4 npF.symm
          have dF5 := P4.dpAll kp5 dF4 (noLAll_map noL_ask hs)
          have dA5 := P4.dpAll kp5 dA4 (noLAll_map noL_way ls)
          refine ⟨rfl, _, rfl, ite2 (fun _ => ?_) (fun _ => ?_)⟩
          · refine ⟨_, rfl, A, ws, rfl, .inl (SqL.of hA5), _, 5, rfl, rfl, _, rfl, ite2 (fun hl => ?_) (fun _ => ?_)⟩
            · have hl := of_decide_eq_true hl
              have lws : ws.length = ls.length := by rw [dpAll_len dA4, List.length_map]
              refine ⟨_, rfl, .inl ⟨rfl, _, SqL.of hA5⟩, _, rfl, _, rfl, _, rfl, A, ws, rfl, .inl (SqL.of hA5), p, c, ns, _, _, rfl, P5, by unfold penMost; omega, by omega, by omega, fun z2 H6 z20 z21 kp6 P6 => ?_⟩
              have hA6 := kp6 _ _ hA5 npA.symm
              have dA6 := P5.dpAll kp6 dA5 (noLAll_map noL_way ls)
              obtain ⟨v, hv, hv2⟩ := atI_some z20 z21
              obtain ⟨d, hd, hdp⟩ := dpAll_get dA6 hv2
              rw [List.getElem?_map] at hd
              obtain ⟨xs, hx, rfl⟩ := Option.map_eq_some_iff.mp hd
              cases hdp with
              | @tup ta vs' _ hT hall =>
                obtain rfl := ints_of_dp hall
                refine ⟨A, ws, z2, _, rfl, rfl, SqL.of hA6, hv, ta, rfl, ⟨_, hT⟩, fun D nD => ?_⟩
                have sD := same_upd (o := .lst []) nD
                refine lc_tup (K := K) (a := ta) (xs := xs.map V.int) (fun t H7 => Same H6 H7 ∧ H7 D = some (.lst ((xs.take t).map fun x => V.int (0 - x)))) ⟨sD, upd_same⟩ (fun t H7 _ ⟨s7, _⟩ => s7.seqT hT) ?_ ?_
                · rintro t v H7 hv3 ⟨s7, hD7⟩
                  obtain ⟨y, hy, rfl⟩ := ints_get hv3
                  refine ⟨rfl, _, rfl, 0, y, rfl, rfl, _, hD7, ?_, ?_, ?_⟩
                  · rw [List.length_map, List.length_take]
                    have okl := okA xs (List.mem_of_getElem? hx)
                    have := okl.len
                    exact small_line (by omega)
                  · intro b o e
                    rw [upd_ne (ne_of_none e nD)]
                    exact s7 _ _ e
                  · rw [upd_same, List.take_add_one, hy, List.map_append]
                    rfl
                · rintro H7 ⟨s7, hD7⟩
                  rw [List.length_map, List.take_length] at hD7
                  have okl := okA xs (List.mem_of_getElem? hx)
                  have hA7 := s7 _ _ hA6
                  refine ⟨D, _, rfl, .inl ⟨SqL.of hD7, fun W nW => ?_⟩⟩
                  have sW := same_upd (o := .tup (xs.map fun x => V.int (0 - x))) nW
                  have s8 := s7.trans sW
                  have eW : (xs.map fun x => V.int (0 - x)) = (xs.map fun x => 0 - x).map V.int := by rw [List.map_map]; rfl
                  have dW : Dp K (upd H7 W (.tup (xs.map fun x => V.int (0 - x)))) (.ref W) (wayD (xs.map fun x => 0 - x)) := dp_tup nW (by rw [eW]; exact dpAll_ints _)
                  have hA8 := sW _ _ hA7
                  refine ⟨A, ws, _, rfl, rfl, hA8, small_line (by omega), ?_⟩
                  have okn : WayOk kinds size (xs.map fun x => 0 - x) := ⟨by rw [List.length_map]; exact okl.len, fun x hx => by
                    obtain ⟨y, hy, rfl⟩ := List.mem_map.mp hx
                    have := okl.all y hy
                    exact ⟨by omega, by omega⟩⟩
                  refine ⟨ws ++ [.ref W], ls ++ [xs.map fun x => 0 - x], rfl, (((kp4.trans kp5).trans kp6).same s8).put nHA, ((P6.same s8).put npA ncA).mono (by omega), ?_, ?_, upd_same, ?_, ⟨?_, ?_, ?_, mem_app1 okA okn⟩⟩
                  · rw [upd_ne nFA]
                    exact s8 _ _ (kp6 _ _ hF5 npF.symm)
                  · exact dpAll_put hA8 (dpAll_same s8 (P5.dpAll kp6 dF5 (noLAll_map noL_ask hs))) (noLAll_map noL_ask hs)
                  · exact dpAll_put hA8 (dpAll_app1 (dpAll_same s8 dA6) dW) (noLAll_map noL_way _)
                  · rw [List.length_append]
                    omega
                  · rw [List.length_append]
                    show ls.length + 1 ≤ 5
                    omega
                  · rw [List.length_append]
                    show ((ls.length + 1 : Nat) : Int) ≤ ways + 1
                    omega
            · exact ⟨ws, ls, rfl, kp4.trans kp5, P5.mono (by omega), hF5, dF5, hA5, dA5, ⟨l1, l5, by omega, okA⟩⟩
          · exact ⟨ws, ls, rfl, kp4.trans kp5, P5.mono (by omega), hF5, dF5, hA5, dA5, ⟨l1, l5, by omega, okA⟩⟩
        · rintro σ H5 ⟨ws, ls, rfl, kp5, P5, hF5, dF5, hA5, dA5, okL⟩
          -- found.append(tuple(ask))
          refine ⟨_, rfl, .inl ⟨rfl, _, SqL.of hF5⟩, _, rfl, A, _, rfl, .inl ⟨SqL.of hA5, fun W nW => ?_⟩⟩
          have sW := same_upd (o := .tup ws) nW
          have dW : Dp K (upd H5 W (.tup ws)) (.ref W) (askD ls) := dp_tup nW dA5
          have hFW := sW _ _ hF5
          refine ⟨F, fs, _, rfl, rfl, hFW, small_line (by rw [dpAll_len dF5, List.length_map]; omega), ?_⟩
          refine ⟨_, _, _, _, fs ++ [.ref W], hs ++ [ls], rfl, (kp5.same sW).put ?_, ((P5.same sW).put npF ncF).mono (by omega), upd_same, ?_, by rw [List.length_append, lF]; rfl, mem_app1 okF okL⟩
          · exact nF
          · exact dpAll_put hFW (dpAll_app1 (dpAll_same sW dF5) dW) (noLAll_map noL_ask _)
    · rintro σ H2 ⟨y6, y7, y8, y9, fs, hs, rfl, kp2, P2, hF, dF, lF, okF⟩
      refine ⟨_, rfl, F, _, rfl, .inl ⟨SqL.of hF, fun W nW => ?_⟩⟩
      have sW := same_upd (o := .tup fs) nW
      exact q W _ hs (kp2.same sW) ((P2.same sW).mono (by omega)) (dp_tup nW dF) ⟨by omega, by omega, okF⟩
end
/-! ### where ways lead; which store covers which -/
def addW (s l : List Int) : List Int := List.zipWith (· + ·) s l
def okW (l : List Int) : Bool := l.all fun x => decide (0 ≤ x)
/-- the pairs (way's number, store) of an ask's ways, the first one's number k -/
def leadsK (s : List Int) : Nat → List (List Int) → List (Int × List Int)
  | _, [] => []
  | k, l :: r => (if okW (addW s l) = true then [((k : Int), addW s l)] else []) ++ leadsK s (k + 1) r
theorem leadsK_cons (s : List Int) (k : Nat) (l : List Int) (r : List (List Int)) : leadsK s k (l :: r) = (if okW (addW s l) = true then [((k : Int), addW s l)] else []) ++ leadsK s (k + 1) r := rfl
theorem leadsK_nil (s : List Int) (k : Nat) : leadsK s k [] = [] := rfl
theorem leadsK_app (s : List Int) : ∀ (a b : List (List Int)) (k : Nat), leadsK s k (a ++ b) = leadsK s k a ++ leadsK s (k + a.length) b
  | [], b, k => by simp [leadsK]
  | l :: r, b, k => by
    rw [List.cons_append, leadsK_cons, leadsK_cons, leadsK_app s r b (k + 1), List.append_assoc, List.length_cons, show k + 1 + r.length = k + (r.length + 1) by omega]
theorem leadsK_take {s : List Int} {a : List (List Int)} {i : Nat} {l : List Int} (h : a[i]? = some l) :
    leadsK s 0 (a.take (i + 1)) = leadsK s 0 (a.take i) ++ (if okW (addW s l) = true then [((i : Int), addW s l)] else []) := by
  have hi : i < a.length := (List.getElem?_eq_some_iff.mp h).1
  rw [List.take_add_one, h, Option.toList_some, leadsK_app, List.length_take, Nat.min_eq_left (by omega), Nat.zero_add, leadsK_cons, leadsK_nil, List.append_nil]
theorem leadsK_len (s : List Int) : ∀ (a : List (List Int)) (k : Nat), (leadsK s k a).length ≤ a.length
  | [], _ => by simp [leadsK]
  | l :: r, k => by
    rw [leadsK_cons, List.length_append, List.length_cons]
    have := leadsK_len s r (k + 1)
    split <;> simp only [List.length_cons, List.length_nil] <;> omega
def pairD (p : Int × List Int) : PyData := .tuple [.int p.1, wayD p.2]
theorem noL_pair (p : Int × List Int) : noL (pairD p) = true := by
  unfold pairD
  simp only [noL, noLAll, noL_way, Bool.and_true]
theorem noLAll_ints (l : List Int) : noLAll (l.map PyData.int) = true := noLAll_map noL_int l
/-- the ints of a way's or a store's data -/
theorem way_of {K : PySem.W.Frag} {H : Hp} {v : V} {l : List Int} (h : Dp K H v (wayD l)) : ∃ a, v = .ref a ∧ SqT K H a (l.map V.int) := by
  cases h with
  | @tup a vs _ hT hall =>
    obtain rfl := ints_of_dp hall
    exact ⟨a, rfl, hT⟩
theorem way_dp {K : PySem.W.Frag} {H : Hp} {a : Addr} {l : List Int} (h : SqT K H a (l.map V.int)) : Dp K H (.ref a) (wayD l) := .tup h (dpAll_ints l)
theorem zip_at {α β : Type} {a : List α} {b : List β} {γ : Type} {f : α → β → γ} {i : Nat} {x : α} {y : β} (h1 : a[i]? = some x) (h2 : b[i]? = some y) : (List.zipWith f a b)[i]? = some (f x y) := by
  rw [List.getElem?_zipWith, h1, h2]
theorem addW_take {s l : List Int} {i : Nat} {x y : Int} (h1 : s[i]? = some x) (h2 : l[i]? = some y) : (addW s l).take (i + 1) = (addW s l).take i ++ [x + y] := by
  have h : (addW s l)[i]? = some (x + y) := zip_at h1 h2
  rw [List.take_add_one, h]
  rfl
theorem okW_min (n : Int) (ns : List Int) : okW (n :: ns) = decide (0 ≤ ns.foldl min n) := by
  rw [Bool.eq_iff_iff, decide_eq_true_iff, foldl_min_le]
  unfold okW
  rw [List.all_cons, Bool.and_eq_true, decide_eq_true_iff, List.all_eq_true]
  exact and_congr Iff.rfl (forall_congr' fun m => imp_congr Iff.rfl decide_eq_true_iff)
def geL (s t : List Int) : List Bool := List.zipWith (fun a b => decide (b ≤ a)) s t
def coversB (s t : List Int) : Bool := (geL s t).all id
def sLeads : Stmt := topS 1
def sCovers : Stmt := topS 3
def sPut : Stmt := topS 2
def spPut (K : PySem.W.Frag) : Sp := fun vs H Q _ => ∃ (x y : V) (s l : List Int), vs = [x, y] ∧ Dp K H x (wayD s) ∧ Dp K H y (wayD l) ∧ s.length = l.length ∧ 1 ≤ s.length ∧ s.length ≤ 1000 ∧
  ∀ r H', Same H H' → H r = none → Dp K H' (.ref r) (wayD (addW s l)) → Q (.ref r) H'
theorem take_snoc {α : Type} {l : List α} {j : Nat} {x : α} (h : l[j]? = some x) : l.take (j + 1) = l.take j ++ [x] := by
  rw [List.take_succ, h]
  rfl
def spLeads (K : PySem.W.Frag) : Sp := fun vs H Q _ => ∃ (x y : V) (h : List (List (List Int))) (i : Nat) (a : List (List Int)) (t : List Int), vs = [x, .int (i : Int), y] ∧ Dp K H x (houseD h) ∧ Dp K H y (wayD t) ∧ h[i]? = some a ∧ (∀ l ∈ a, l.length = t.length) ∧ 1 ≤ t.length ∧ t.length ≤ 4 ∧ a.length ≤ 10 ∧
  ∀ q H' ps, Same H H' → H q = none → H' q = some (.lst ps) → DpAll K H' ps ((leadsK t 0 a).map pairD) → Q (.ref q) H'
def spCovers (K : PySem.W.Frag) : Sp := fun vs H Q _ => ∃ (x y : V) (s t : List Int), vs = [x, y] ∧ Dp K H x (wayD s) ∧ Dp K H y (wayD t) ∧ s.length = t.length ∧ s.length ≤ 4 ∧ ∀ H', Same H H' → Q (.bl (coversB s t)) H'
section
variable {P : Program} {w : World} {K : PySem.W.Frag} {mg : Str → Option Value} {base : Heap}
theorem addW_len {s l : List Int} (h : s.length = l.length) : (addW s l).length = s.length := by
  unfold addW
  rw [List.length_zipWith, h, Nat.min_self]
theorem scPut : FnScope ["numbers", "others", "one", "other"] ["numbers", "others"] (defScope sPut) := ⟨rfl, rfl, rfl, by decide +kernel, rfl, by decide +kernel, by decide +kernel⟩
theorem ok_put {f : Addr} {fd : FuncData} {k : Nat} (F : Fun K "put_together" "put_together" sPut f fd) (mz : mg "zip" = none) (mt : mg "tuple" = none) : FnOk P w K mg base CX0 (k + 1) f fd ["numbers", "others"] (spPut K) := by
  refine F.ok scPut (fun vs H Q E h => ?_) (fun cdv A outer s H vs Q E hr h => ?_)
  · obtain ⟨x, y, a, b, rfl, _⟩ := h
    rfl
  · obtain ⟨x, y, t, l, rfl, hx, hy, ll, t1, t4, q⟩ := h
    refine ⟨_, pss_one (ps_ret (pe_callTy call_tuple_of (by rfl) mt (by decide +kernel) (pa_cons
            (pe_lc (own := [("one", 2), ("other", 3)]) (g := gTup K 2 (gCons (gName 2) (gCons (gName 3) gNil))) (tt := tYes) rfl scPut.nd (pi_zipA (by rfl) mz (pa_cons (pv 0) (pa_cons (pv 1) pa_nil)))
              (blkOk_by (N := ["numbers", "others", "one", "other"]) (sc := defScope sPut) (by decide +kernel))
              (fun _ _ _ _ _ => by refine pg_tup rfl (pgs_cons ?_ (pgs_cons ?_ pgs_nil)); exact pg_name (i := 2) scPut.nd rfl (.inl rfl); exact pg_name (i := 3) scPut.nd rfl (.inl rfl))
              (fun _ _ _ _ _ => pts_nil) (fun _ _ _ _ _ => by exact pe_op op_add (pv 2) (pv 3))) pa_nil))), ?_⟩
    obtain ⟨sa, rfl, hS⟩ := way_of hx
    obtain ⟨la, rfl, hL⟩ := way_of hy
    refine ⟨_, rfl, _, rfl, sa, la, _, _, rfl, .inr ⟨hS, hL, fun D nD => ?_⟩⟩
    have sD := same_upd (o := .lst []) nD
    have lA := addW_len ll
    refine lc_it (walk_zipT (K := K) (a := sa) (b := la) (xs := t.map V.int) (ys := l.map V.int) (n := t.length) (by rw [List.length_map, List.length_map, ll, Nat.min_self])) (fun m H4 => Same H H4 ∧ H4 D = some (.lst (((addW t l).take m).map V.int))) ⟨sD, upd_same⟩ ?_ ?_ ?_
    · rintro m H4 _ ⟨s4, _⟩
      exact ⟨s4.seqT hS, s4.seqT hL⟩
    · rintro m v H4 H5 hm ⟨s4, hD⟩ ⟨U, z1, z2, rfl, nU, rfl, g1, g2⟩
      obtain ⟨u1, e1, rfl⟩ := ints_get g1
      obtain ⟨u2, e2, rfl⟩ := ints_get g2
      have sU := same_upd (o := .tup [V.int u1, V.int u2]) nU
      refine ⟨U, _, rfl, SqT.of upd_same, rfl, _, _, rfl, _, _, rfl, rfl, rfl, ?_⟩
      refine ⟨_, rfl, _, rfl, u1, u2, rfl, rfl, _, sU _ _ hD, ?_, fun b o e => ?_, ?_⟩
      · rw [List.length_map, List.length_take]
        exact small_line (by omega)
      · rw [upd_ne (ne_of_none e nD)]
        exact sU _ _ (s4 _ _ e)
      · rw [upd_same, addW_take e1 e2, List.map_append]
        rfl
    · rintro H4 ⟨s4, hD⟩
      rw [List.take_of_length_le (by omega)] at hD
      refine ⟨D, _, rfl, .inl ⟨SqL.of hD, fun R nR => ?_⟩⟩
      exact q R _ (s4.trans (same_upd nR)) (s4.free nR) (way_dp (SqT.of upd_same))
theorem scLeads : FnScope ["house", "i", "store", "found", "number", "way", "reached"] ["house", "i", "store"] (defScope sLeads) := ⟨rfl, rfl, rfl, by decide +kernel, rfl, by decide +kernel, by decide +kernel⟩
/-- all pairs, the first one's number k -/
def putsK (s : List Int) : Nat → List (List Int) → List (Int × List Int)
  | _, [] => []
  | k, l :: r => ((k : Int), addW s l) :: putsK s (k + 1) r
theorem putsK_len (s : List Int) : ∀ (a : List (List Int)) (k : Nat), (putsK s k a).length = a.length
  | [], _ => rfl
  | l :: r, k => by rw [putsK, List.length_cons, putsK_len s r (k + 1), List.length_cons]
theorem putsK_at (s : List Int) : ∀ (a : List (List Int)) (k j : Nat), (putsK s k a)[j]? = (a[j]?).map fun l => (((k + j : Nat) : Int), addW s l)
  | [], _, _ => rfl
  | l :: r, k, 0 => rfl
  | l :: r, k, j + 1 => by
    show (putsK s (k + 1) r)[j]? = _
    rw [putsK_at s r (k + 1) j, List.getElem?_cons_succ, show k + 1 + j = k + (j + 1) by omega]
theorem leadsK_filter (s : List Int) : ∀ (a : List (List Int)) (k : Nat), leadsK s k a = (putsK s k a).filter fun p => okW p.2
  | [], _ => rfl
  | l :: r, k => by
    rw [leadsK_cons, putsK, List.filter_cons, leadsK_filter s r (k + 1)]
    split <;> rfl
theorem ok_leads {f fU : Addr} {fd fdU : FuncData} {k : Nat} (F : Fun K "leads" "leads" sLeads f fd) (GU : FnOk P w K mg base CX0 (k + 1) fU fdU ["numbers", "others"] (spPut K)) (kU : PySem.W.keepIn K (.ref fU) = true) (bU : Binds K fdU ["numbers", "others"] []) (gU : mg "put_together" = some (.ref fU))
    (me : mg "enumerate" = none) (mm : mg "min" = none) : FnOk P w K mg base CX0 (k + 2) f fd ["house", "i", "store"] (spLeads K) := by
  refine F.ok scLeads (fun vs H Q E h => ?_) (fun cdv A outer s H vs Q E hr h => ?_)
  · obtain ⟨x, y, h, i, a, t, rfl, _⟩ := h
    rfl
  · obtain ⟨x, y, h, i, a, t, rfl, hx, hy, hi, hl, t1, t4, a10, q⟩ := h
    refine ⟨_, pss_cons (ps_setLc (i := 3) (own := [("number", 4), ("way", 5)]) (g := gTup K 2 (gCons (gName 4) (gCons (gName 5) gNil))) (tt := tYes) rfl scLeads.nd rfl rfl (sw_true rfl rfl rfl (by decide +kernel)) (pi_enumT (by rfl) me (pa_cons (pe_ix ix_tup (pv 0) (pv 1) (fun _ _ => rfl)) pa_nil))
          (blkOk_by (N := ["house", "i", "store", "found", "number", "way", "reached"]) (sc := defScope sLeads) (by decide +kernel))
          (fun _ _ _ _ _ => by refine pg_tup rfl (pgs_cons ?_ (pgs_cons ?_ pgs_nil)); exact pg_name (i := 4) scLeads.nd rfl (.inl rfl); exact pg_name (i := 5) scLeads.nd rfl (.inl rfl))
          (fun _ _ _ _ _ => pts_nil)
          (fun _ _ _ _ _ => by exact pe_tup (pa_cons (pv 4) (pa_cons (pe_call GU hr (by rfl) gU kU bU .nil pass0 (pa_cons (pv 2) (pa_cons (pv 5) pa_nil))) pa_nil))))
      (pss_one (ps_ret (pe_lc (own := [("number", 4), ("reached", 6)]) (g := gTup K 2 (gCons (gName 4) (gCons (gName 6) gNil)))
          (tt := tTest (tOp (rI0 fun i j => .bl (decide (j ≤ i))) (tCB (rMinT K) (tCons (tVar 6) tNil)) (tC (.int 0)))) rfl scLeads.nd (pi_list (pv 3))
          (blkOk_by (N := ["house", "i", "store", "found", "number", "way", "reached"]) (sc := defScope sLeads) (by decide +kernel))
          (fun _ _ _ _ _ => by refine pg_tup rfl (pgs_cons ?_ (pgs_cons ?_ pgs_nil)); exact pg_name (i := 4) scLeads.nd rfl (.inl rfl); exact pg_name (i := 6) scLeads.nd rfl (.inl rfl))
          (fun _ _ _ _ _ => by exact pts_one (pt_cmpR op_ge (pe_callB (cr_minT rfl hr) (by rfl) mm (by decide +kernel) (pa_cons (pv 6) pa_nil)) pe_int (nomark _)))
          (fun _ _ _ _ _ => by exact pe_tup (pa_cons (pv 4) (pa_cons (pv 6) pa_nil)))))), ?_⟩
    obtain ⟨sa, rfl, hS⟩ := way_of hy
    cases hx with
    | @tup ha as _ hT hall =>
    obtain ⟨av, hav, dav⟩ := dpAll_getD hall (by rw [List.getElem?_map, hi]; rfl : (h.map askD)[i]? = some (askD a))
    cases dav with
    | @tup aa ws _ aT wall =>
    have lw : ws.length = a.length := by rw [dpAll_len wall, List.length_map]
    refine ⟨_, rfl, _, rfl, ha, as, (i : Int), .ref aa, rfl, rfl, hT, atI_nat hav, aa, ws, rfl, aT, fun F nF => ?_⟩
    have sF := same_upd (o := .lst []) nF
    refine lc_it (walk_enumT (K := K) (a := aa) (xs := ws)) (fun j H2 => Same H H2 ∧ ∃ ps, H2 F = some (.lst ps) ∧ DpAll K H2 ps (((putsK t 0 a).take j).map pairD)) ⟨sF, [], upd_same, .nil⟩ (fun j H2 _ ⟨s2, _⟩ => s2.seqT aT) ?_ ?_
    · rintro j v H2 H3 hj ⟨s2, ps, hF, dps⟩ ⟨T, x1, x2, rfl, nT, rfl, f1, f2⟩
      obtain rfl := Option.some.inj f1
      have sT := same_upd (o := .tup [V.int (j : Int), x2]) nT
      obtain ⟨d, hd, dx2⟩ := dpAll_get wall f2
      rw [List.getElem?_map] at hd
      obtain ⟨l, hlj, rfl⟩ := Option.map_eq_some_iff.mp hd
      have ll : l.length = t.length := hl l (List.mem_of_getElem? hlj)
      have s3 := s2.trans sT
      have pj : (putsK t 0 a)[j]? = some ((j : Int), addW t l) := by rw [putsK_at, hlj, Nat.zero_add]; rfl
      have lp := dpAll_len dps
      simp only [List.length_map, List.length_take] at lp
      refine ⟨T, _, rfl, SqT.of upd_same, rfl, _, _, rfl, _, _, rfl, rfl, rfl, ?_⟩
      refine ⟨_, rfl, _, rfl, _, rfl, .ref sa, x2, t, l, rfl, dp_same s3 hy, dp_same (s2.trans sT) dx2, ll.symm, t1, by omega, fun r H4 s4 nr dr => ?_⟩
      refine ⟨by show 2 ≤ sizeLine; decide, fun U nU => ?_⟩
      have sU := same_upd (o := .tup [V.int (j : Int), V.ref r]) nU
      have hF4 := sU _ _ (s4 _ _ (sT _ _ hF))
      have dU := dp_tup nU (.cons (.int (j : Int)) (.cons dr .nil))
      refine ⟨ps, hF4, small_line (by omega), fun b o e => ?_, ps ++ [.ref U], upd_same, ?_⟩
      · rw [upd_ne (ne_of_none e nF)]
        exact sU _ _ (s4 _ _ (s3 _ _ e))
      · rw [take_snoc pj]
        exact dpAll_put hF4 (dpAll_app1 (dpAll_same ((sT.trans s4).trans sU) dps) (show Dp K _ _ (pairD ((j : Int), addW t l)) from dU)) (noLAll_map noL_pair _)
    · rintro H2 ⟨s2, ps, hF, dps⟩
      rw [lw, List.take_of_length_le (by rw [putsK_len]; exact Nat.le_refl _)] at dps
      have lps : ps.length = (putsK t 0 a).length := by rw [dpAll_len dps, List.length_map]
      refine ⟨_, rfl, F, rfl, ⟨_, SqL.of hF⟩, fun G nG => ?_⟩
      have sG := same_upd (o := .lst []) nG
      refine lc_list (K := K) (a := F) (xs := ps) (fun j H3 => Same H2 H3 ∧ ∃ qs, H3 G = some (.lst qs) ∧ DpAll K H3 qs ((((putsK t 0 a).take j).filter fun p => okW p.2).map pairD)) ⟨sG, [], upd_same, .nil⟩ (fun j H3 _ ⟨s3, _⟩ => s3.seq (SqL.of hF)) ?_ ?_
      · rintro j v H3 hj ⟨s3, qs, hG, dqs⟩
        obtain ⟨d, hd, dv⟩ := dpAll_get dps hj
        rw [List.getElem?_map] at hd
        obtain ⟨p, hp, rfl⟩ := Option.map_eq_some_iff.mp hd
        have hp' := hp
        rw [putsK_at] at hp'
        obtain ⟨l, hlj, rfl⟩ := Option.map_eq_some_iff.mp hp'
        have ll : l.length = t.length := hl l (List.mem_of_getElem? hlj)
        have lA := addW_len ll.symm
        cases dv with
        | @tup va vvs _ vT vall =>
        cases vall with
        | @cons v1 _ _ _ d1 r1 =>
        cases r1 with
        | @cons v2 _ _ _ d2 r2 =>
        cases r2
        cases d1
        obtain ⟨R, rfl, hR⟩ := way_of d2
        obtain ⟨n0, nr, en⟩ : ∃ n0 nr, addW t l = n0 :: nr := by
          cases e : addW t l with
          | nil =>
            rw [e] at lA
            simp at lA
            omega
          | cons n0 nr => exact ⟨n0, nr, rfl⟩
        have lq := dpAll_len dqs
        have lq2 := List.length_filter_le (fun p : Int × List Int => okW p.2) ((putsK t 0 a).take j)
        simp only [List.length_map, List.length_take, putsK_len] at lq lq2
        refine ⟨va, _, rfl, s3.seqT vT, rfl, _, _, rfl, _, _, rfl, rfl, rfl, ?_⟩
        refine ⟨_, rfl, R, n0, nr, rfl, by rw [← en]; exact s3.seqT hR, _, 0, rfl, rfl, _, rfl, ?_⟩
        rw [← okW_min, ← en]
        have hstep : ((putsK t 0 a).take (j + 1)).filter (fun p => okW p.2) = ((putsK t 0 a).take j).filter (fun p => okW p.2) ++ (if okW (addW t l) = true then [(((0 + j : Nat) : Int), addW t l)] else []) := by
          rw [take_snoc hp, List.filter_append, List.filter_cons]
          split <;> rfl
        refine ite2 (fun ok => ?_) (fun bad => ?_)
        · rw [if_pos ok] at hstep
          refine ⟨_, rfl, _, rfl, by show 2 ≤ sizeLine; decide, fun U nU => ?_⟩
          have sU := same_upd (o := .tup [V.int ((0 + j : Nat) : Int), V.ref R]) nU
          have hGU := sU _ _ hG
          have dU := dp_tup nU (.cons (.int ((0 + j : Nat) : Int)) (.cons (dp_same s3 (way_dp hR)) .nil))
          refine ⟨qs, hGU, small_line (by omega), fun b o e => ?_, qs ++ [.ref U], upd_same, ?_⟩
          · rw [upd_ne (ne_of_none e nG)]
            exact sU _ _ (s3 _ _ e)
          · rw [hstep]
            exact dpAll_put hGU (dpAll_app1 (dpAll_same sU dqs) (show Dp K _ _ (pairD (((0 + j : Nat) : Int), addW t l)) from dU)) (noLAll_map noL_pair _)
        · rw [if_neg bad, List.append_nil] at hstep
          exact ⟨s3, qs, hG, by rw [hstep]; exact dqs⟩
      · rintro H3 ⟨s3, qs, hG, dqs⟩
        rw [lps, List.take_length, ← leadsK_filter] at dqs
        exact q G H3 qs (s2.trans s3) (s2.free nG) hG dqs
theorem scCovers : FnScope ["store", "other", "mine", "its"] ["store", "other"] (defScope sCovers) := ⟨rfl, rfl, rfl, by decide +kernel, rfl, by decide +kernel, by decide +kernel⟩
theorem ok_covers {f : Addr} {fd : FuncData} {k : Nat} (F : Fun K "covers" "covers" sCovers f fd) (mz : mg "zip" = none) (ma : mg "all" = none) : FnOk P w K mg base CX0 (k + 1) f fd ["store", "other"] (spCovers K) := by
  refine F.ok scCovers (fun vs H Q E h => ?_) (fun cdv A outer s H vs Q E hr h => ?_)
  · obtain ⟨x, y, a, b, rfl, _⟩ := h
    rfl
  · obtain ⟨x, y, a, b, rfl, hx, hy, hl, l4, q⟩ := h
    refine ⟨_, pss_one (ps_ret (pe_callB (cr_all rfl) (by rfl) ma (by decide +kernel) (pa_cons
            (pe_lc (own := [("mine", 2), ("its", 3)]) (g := gTup K 2 (gCons (gName 2) (gCons (gName 3) gNil))) (tt := tYes) rfl scCovers.nd (pi_zipA (by rfl) mz (pa_cons (pv 0) (pa_cons (pv 1) pa_nil)))
              (blkOk_by (N := ["store", "other", "mine", "its"]) (sc := defScope sCovers) (by decide +kernel))
              (fun _ _ _ _ _ => by refine pg_tup rfl (pgs_cons ?_ (pgs_cons ?_ pgs_nil)); exact pg_name (i := 2) scCovers.nd rfl (.inl rfl); exact pg_name (i := 3) scCovers.nd rfl (.inl rfl))
              (fun _ _ _ _ _ => pts_nil) (fun _ _ _ _ _ => by exact pe_cmpR op_ge (pv 2) (pv 3) (nomark _))) pa_nil))), ?_⟩
    obtain ⟨xa, rfl, hX⟩ := way_of hx
    obtain ⟨ya, rfl, hY⟩ := way_of hy
    refine ⟨_, rfl, _, rfl, xa, ya, _, _, rfl, .inr ⟨hX, hY, fun D nD => ?_⟩⟩
    have sD := same_upd (o := .lst []) nD
    have lg : (geL a b).length = a.length := by
      unfold geL
      rw [List.length_zipWith, hl, Nat.min_self]
    refine lc_it (walk_zipT (K := K) (a := xa) (b := ya) (xs := a.map V.int) (ys := b.map V.int) (n := a.length) (by rw [List.length_map, List.length_map, hl, Nat.min_self])) (fun m H4 => Same H H4 ∧ H4 D = some (.lst (((geL a b).take m).map V.bl))) ⟨sD, upd_same⟩ ?_ ?_ ?_
    · rintro m H4 _ ⟨s4, _⟩
      exact ⟨s4.seqT hX, s4.seqT hY⟩
    · rintro m v H4 H5 hm ⟨s4, hD⟩ ⟨U, z1, z2, rfl, nU, rfl, g1, g2⟩
      obtain ⟨u1, e1, rfl⟩ := ints_get g1
      obtain ⟨u2, e2, rfl⟩ := ints_get g2
      have sU := same_upd (o := .tup [V.int u1, V.int u2]) nU
      refine ⟨U, _, rfl, SqT.of upd_same, rfl, _, _, rfl, _, _, rfl, rfl, rfl, ?_⟩
      refine ⟨_, rfl, _, rfl, u1, u2, rfl, rfl, _, sU _ _ hD, ?_, fun b o e => ?_, ?_⟩
      · rw [List.length_map, List.length_take]
        exact small_line (by omega)
      · rw [upd_ne (ne_of_none e nD)]
        exact sU _ _ (s4 _ _ e)
      · have e3 : (geL a b)[m]? = some (decide (u2 ≤ u1)) := zip_at e1 e2
        rw [upd_same, List.take_add_one, e3, List.map_append]
        rfl
    · rintro H4 ⟨s4, hD⟩
      rw [List.take_of_length_le (by omega)] at hD
      exact ⟨D, _, rfl, SqL.of hD, q H4 s4⟩
end
/-! ### what is shown of a house -/
theorem shown_small : ∀ n : Nat, n < 199 → (PyData.shown (.int ((n : Int) - 99))).length ≤ 3 := by decide +kernel
theorem log_small : ∀ n : Nat, n < 199 → ((n : Int) - 99).natAbs.log2 < 1920 := by decide +kernel
theorem shown_int {i : Int} (h : -99 ≤ i ∧ i ≤ 99) : (PyData.shown (.int i)).length ≤ 3 := by
  have := shown_small (i + 99).toNat (by omega)
  rw [show (((i + 99).toNat : Nat) : Int) - 99 = i by omega] at this
  exact this
theorem log_int {i : Int} (h : -99 ≤ i ∧ i ≤ 99) : i.natAbs.log2 < 1920 := by
  have := log_small (i + 99).toNat (by omega)
  rw [show (((i + 99).toNat : Nat) : Int) - 99 = i by omega] at this
  exact this
theorem tupleText_len (ts : List Str) : (tupleText ts).length ≤ piled ts + 3 := by
  cases ts with
  | nil => decide +kernel
  | cons t r =>
    have h := join_length_add (t :: r) (by simp)
    unfold tupleText
    rw [Str.length_append, Str.length_append]
    have e1 : (("(" : Str)).length = 1 := by decide +kernel
    have e2 : ((if (t :: r).length == 1 then ",)" else ")" : String) : Str).length ≤ 2 := by
      split <;> decide +kernel
    omega
theorem piled_le {ts : List Str} {m : Nat} (h : ∀ t ∈ ts, t.length ≤ m) : piled ts ≤ ts.length * (m + 2) := by
  induction ts with
  | nil => simp [piled]
  | cons t r ih =>
    rw [piled_cons, List.length_cons, Nat.add_mul, Nat.one_mul]
    have := h t List.mem_cons_self
    have := ih fun x hx => h x (List.mem_cons_of_mem _ hx)
    omega
theorem shownAll_map {α : Type} {f : α → PyData} {m : Nat} : ∀ {l : List α}, (∀ x ∈ l, (f x).shown.length ≤ m) → (∀ t ∈ PyData.shownAll (l.map f), t.length ≤ m) ∧ (PyData.shownAll (l.map f)).length = l.length
  | [], _ => ⟨fun t ht => by simp [PyData.shownAll] at ht, rfl⟩
  | x :: r, h => by
    obtain ⟨h1, h2⟩ := shownAll_map (l := r) fun y hy => h y (List.mem_cons_of_mem _ hy)
    rw [List.map_cons]
    refine ⟨fun t ht => ?_, ?_⟩
    · have ht' : t = (f x).shown ∨ t ∈ PyData.shownAll (r.map f) := by simpa [PyData.shownAll] using ht
      rcases ht' with rfl | ht'
      · exact h x List.mem_cons_self
      · exact h1 t ht'
    · show (PyData.shownAll (r.map f)).length + 1 = _
      rw [h2] <;> rfl
theorem tuple_shown {α : Type} {f : α → PyData} {m k : Nat} {l : List α} (h : ∀ x ∈ l, (f x).shown.length ≤ m) (hk : l.length ≤ k) : (PyData.shown (.tuple (l.map f))).length ≤ k * (m + 2) + 3 := by
  obtain ⟨h1, h2⟩ := shownAll_map h
  have e : PyData.shown (.tuple (l.map f)) = tupleText (PyData.shownAll (l.map f)) := by simp [PyData.shown]
  rw [e]
  have := tupleText_len (PyData.shownAll (l.map f))
  have p := piled_le h1
  have q := Nat.mul_le_mul_right (m + 2) (h2 ▸ hk : (PyData.shownAll (l.map f)).length ≤ k)
  omega
theorem showAll_map {α : Type} {f : α → PyData} : ∀ {l : List α}, (∀ x ∈ l, (f x).showable = true) → PyData.showableAll (l.map f) = true
  | [], _ => by simp [PyData.showableAll]
  | x :: r, h => by
    rw [List.map_cons]
    simp only [PyData.showableAll, Bool.and_eq_true]
    exact ⟨h x List.mem_cons_self, showAll_map fun y hy => h y (List.mem_cons_of_mem _ hy)⟩
theorem noDictAll_map {α : Type} {f : α → PyData} : ∀ {l : List α}, (∀ x ∈ l, (f x).hasDict = false) → PyData.hasDictAll (l.map f) = false
  | [], _ => by simp [PyData.hasDictAll]
  | x :: r, h => by
    rw [List.map_cons]
    simp only [PyData.hasDictAll, Bool.or_eq_false_iff]
    exact ⟨h x List.mem_cons_self, noDictAll_map fun y hy => h y (List.mem_cons_of_mem _ hy)⟩
theorem depthAll_map {α : Type} {f : α → PyData} {m : Nat} : ∀ {l : List α}, (∀ x ∈ l, (f x).depth ≤ m) → PyData.depthAll (l.map f) ≤ m
  | [], _ => by simp [PyData.depthAll]
  | x :: r, h => by
    rw [List.map_cons]
    simp only [PyData.depthAll]
    have h1 := h x List.mem_cons_self
    have h2 := depthAll_map (m := m) fun y hy => h y (List.mem_cons_of_mem _ hy)
    omega
structure Shows (d : PyData) (m : Nat) (k : Nat) : Prop where
  show_ : d.showable = true
  dict : d.hasDict = false
  depth : d.depth ≤ k
  len : d.shown.length ≤ m
theorem shows_tuple {α : Type} {f : α → PyData} {l : List α} {m k n : Nat} (h : ∀ x ∈ l, Shows (f x) m k) (hn : l.length ≤ n) : Shows (.tuple (l.map f)) (n * (m + 2) + 3) (k + 1) where
  show_ := by simp only [PyData.showable]; exact showAll_map fun x hx => (h x hx).show_
  dict := by simp only [PyData.hasDict]; exact noDictAll_map fun x hx => (h x hx).dict
  depth := by
    simp only [PyData.depth]
    have := depthAll_map fun x hx => (h x hx).depth
    omega
  len := tuple_shown (fun x hx => (h x hx).len) hn
theorem shows_int {i : Int} (h : -99 ≤ i ∧ i ≤ 99) : Shows (.int i) 3 0 where
  show_ := by simp only [PyData.showable]; exact decide_eq_true (log_int h)
  dict := by simp only [PyData.hasDict]
  depth := by simp [PyData.depth]
  len := shown_int h
theorem shows_house {kinds asks ways size : Int} {h : List (List (List Int))} (ok : HouseOk kinds asks ways size h) (k4 : kinds ≤ 4) (a8 : asks ≤ 8) (s99 : size ≤ 99) : Shows (houseD h) 10000 3 := by
  have w : ∀ a ∈ h, ∀ l ∈ a, Shows (wayD l) 23 1 := fun a ha l hl => by
    have okl := (ok.all a ha).all l hl
    have := okl.len
    exact shows_tuple (n := 4) (m := 3) (k := 0) (fun x hx => shows_int (by have := okl.all x hx; omega)) (by omega)
  have s := shows_tuple (f := askD) (n := 8) (m := 128) (k := 2) (fun a ha => shows_tuple (f := wayD) (n := 5) (m := 23) (k := 1) (w a ha) (ok.all a ha).five) (by have := ok.most; omega : h.length ≤ 8)
  exact ⟨s.show_, s.dict, s.depth, Nat.le_trans s.len (by decide)⟩
/-! ### the law of k02 -/
def sEnds : Stmt := topS 10
def sStore : Stmt := topS 11
def sLaw : Stmt := topS 12
def spEnds (K : PySem.W.Frag) : Sp := fun vs H Q _ => ∃ (x y : V) (a : List (List Int)) (t : List Int), vs = [x, y] ∧ Dp K H x (askD a) ∧ Dp K H y (wayD t) ∧ (∀ l ∈ a, l.length = t.length) ∧ 1 ≤ t.length ∧ t.length ≤ 4 ∧ a.length ≤ 10 ∧
  ∀ q H' ps, Same H H' → H q = none → H' q = some (.lst ps) → DpAll K H' ps ((leadsK t 0 a).map pairD) → Q (.ref q) H'
def spStore (K : PySem.W.Frag) : Sp := fun vs H Q _ => ∃ (p c : Addr) (ns : List Int) (n : Nat) (x : V) (a : List (List Int)) (kinds : Int), vs = [.ref p, x, .int kinds] ∧ Pen H p c ns n ∧ n + 20 < penMost ∧ Dp K H x (askD a) ∧ 1 ≤ a.length ∧ a.length ≤ 10 ∧ (1 ≤ kinds ∧ kinds ≤ 4) ∧
  (∀ l ∈ a, (l.length : Int) = kinds) ∧ ∀ r H' t, Kp p H H' → Pen H' p c ns (n + 20) → Dp K H' (.ref r) (wayD t) → (t.length : Int) = kinds → Q (.ref r) H'
theorem neg_filter (l : List Int) : (l.filter fun x => decide (x < 0)) = [] ↔ okW l = true := by
  unfold okW
  rw [List.filter_eq_nil_iff, List.all_eq_true]
  refine forall_congr' fun x => imp_congr Iff.rfl ?_
  rw [decide_eq_true_iff, decide_eq_true_iff]
  omega
theorem eqv_nil (l : List Int) : PyData.eqv (.list (l.map PyData.int)) (.list []) = decide (l = []) := by
  cases l with
  | nil => rfl
  | cons x r => rfl
theorem shaped_list {l : List Int} : SeqAt.shaped (.list (l.map PyData.int)) = true := by
  have h : ∀ l : List Int, PyData.canLayAll0 (l.map PyData.int) = true := by
    intro l
    induction l with
    | nil => rfl
    | cons x r ih =>
      rw [List.map_cons]
      simp only [PyData.canLayAll0, PyData.canLay0, ih, Bool.and_self]
  have d := depthAll_ints l
  unfold SeqAt.shaped
  rw [Bool.and_eq_true, decide_eq_true_iff]
  refine ⟨by simp only [PyData.canLay0]; exact h l, ?_⟩
  simp only [PyData.depth]
  omega
theorem inV_geL : ∀ l : List Bool, inV (.bl false) (l.map V.bl) = !(l.all id)
  | [] => rfl
  | b :: r => by
    have := inV_geL r
    unfold inV at this ⊢
    rw [List.map_cons, List.any_cons, this, List.all_cons]
    cases b <;> simp [eqV]
theorem flat_bls : ∀ l : List Bool, (l.map V.bl).all flatV = true
  | [] => rfl
  | _ :: r => flat_bls r
section
variable {P : Program} {w : World} {K : PySem.W.Frag} {mg : Str → Option Value} {base : Heap}
theorem scEnds : FnScope ["ask", "store", "found", "k", "way", "there", "a", "b", "one"] ["ask", "store"] (defScope sEnds) := ⟨rfl, rfl, rfl, by decide +kernel, rfl, by decide +kernel, by decide +kernel⟩
theorem ok_ends {f : Addr} {fd : FuncData} {k : Nat} (F : Fun K "_law_ends" "_law_ends" sEnds f fd) (mz : mg "zip" = none) (me : mg "enumerate" = none) (mt : mg "tuple" = none) : FnOk P w K mg base CX0 (k + 1) f fd ["ask", "store"] (spEnds K) := by
  refine F.ok scEnds (fun vs H Q E h => ?_) (fun cdv A outer s H vs Q E hr h => ?_)
  · obtain ⟨x, y, a, t, rfl, _⟩ := h
    rfl
  · obtain ⟨x, y, a, t, rfl, hx, hy, hl, t1, t4, a10, q⟩ := h
    refine ⟨_, pss_cons (ps_set (i := 2) scEnds.nd rfl (.inl rfl) (pe_lst pa_nil))
      (pss_cons (ps_for PassesOwn.never rfl (pi_enumT (by rfl) me (pa_cons (pv 0) pa_nil))
          (pg_tup rfl (pgs_cons (pg_name (i := 3) scEnds.nd rfl (.inl rfl)) (pgs_cons (pg_name (i := 4) scEnds.nd rfl (.inl rfl)) pgs_nil)))
        (pss_cons (ps_set (i := 5) scEnds.nd rfl (.inl rfl) (pe_callTy call_tuple_of (by rfl) mt (by decide +kernel) (pa_cons
            (pe_lc (own := [("a", 6), ("b", 7)]) (g := gTup K 2 (gCons (gName 6) (gCons (gName 7) gNil))) (tt := tYes) rfl scEnds.nd (pi_zipA (by rfl) mz (pa_cons (pv 1) (pa_cons (pv 4) pa_nil)))
              (blkOk_by (N := ["ask", "store", "found", "k", "way", "there", "a", "b", "one"]) (sc := defScope sEnds) (by decide +kernel))
              (fun _ _ _ _ _ => by refine pg_tup rfl (pgs_cons ?_ (pgs_cons ?_ pgs_nil)); exact pg_name (i := 6) scEnds.nd rfl (.inl rfl); exact pg_name (i := 7) scEnds.nd rfl (.inl rfl))
              (fun _ _ _ _ _ => pts_nil) (fun _ _ _ _ _ => by exact pe_op op_add (pv 6) (pv 7))) pa_nil)))
        (pss_one (ps_if (pt_cmpR (op_eqD hr.units)
              (pe_lc (own := [("one", 8)]) (g := gName 8) (tt := tTest (tOp (rI0 fun i j => .bl (decide (i < j))) (tVar 8) (tC (.int 0)))) rfl scEnds.nd (pi_tup (pv 5))
                (blkOk_by (N := ["ask", "store", "found", "k", "way", "there", "a", "b", "one"]) (sc := defScope sEnds) (by decide +kernel)) (fun _ _ _ _ _ => by exact pg_name (i := 8) scEnds.nd rfl (.inl rfl))
                (fun _ _ _ _ _ => by exact pts_one (pt_cmpR op_lt (pv 8) pe_int (nomark _))) (fun _ _ _ _ _ => by exact pv 8)) (pe_lst pa_nil) (nomark _))
          (pss_one (ps_expr (pe_bm PySem.F.plainAttrs_list PySem.F.slot_list_append PySem.F.type_list_append mt_append (pv 2) (pa_cons (pe_tup (pa_cons (pv 3) (pa_cons (pv 5) pa_nil))) pa_nil)))) pss_nil))))
      (pss_one (ps_ret (pv 2)))), ?_⟩
    obtain ⟨sa, rfl, hS⟩ := way_of hy
    cases hx with
    | @tup aa ws _ aT wall =>
    refine ⟨by show 0 ≤ sizeLine; decide, fun F nF => ?_⟩
    have sF := same_upd (o := .lst []) nF
    refine ⟨_, rfl, aa, ws, rfl, sF.seqT aT, ?_⟩
    have lw : ws.length = a.length := by rw [dpAll_len wall, List.length_map]
    refine for_it (walk_enumT (K := K) (a := aa) (xs := ws)) (fun j σ H2 => ∃ (y3 y4 y5 : Option V) (ps : List V), σ = [some (.ref aa), some (.ref sa), some (.ref F), y3, y4, y5, none, none, none] ∧ Same H H2 ∧ H2 F = some (.lst ps) ∧ DpAll K H2 ps ((leadsK t 0 (a.take j)).map pairD))
      ⟨none, none, none, [], rfl, sF, upd_same, .nil⟩ ?_ ?_ ?_
    · rintro j σ H2 _ ⟨_, _, _, _, _, s2, _⟩
      exact s2.seqT aT
    · rintro j v σ H2 H3 hj ⟨y4, y5, y6, ps, rfl, s2, hF, dps⟩ ⟨T, x1, x2, rfl, nT, rfl, f1, f2⟩
      obtain rfl := Option.some.inj f1
      have sT := same_upd (o := .tup [V.int (j : Int), x2]) nT
      obtain ⟨d, hd, dx2⟩ := dpAll_get wall f2
      rw [List.getElem?_map] at hd
      obtain ⟨l, hlj, rfl⟩ := Option.map_eq_some_iff.mp hd
      have ll : l.length = t.length := hl l (List.mem_of_getElem? hlj)
      have s3 := s2.trans sT
      obtain ⟨la, rfl, hL⟩ := way_of dx2
      have hFT := sT _ _ hF
      refine ⟨T, _, rfl, SqT.of upd_same, rfl, _, _, rfl, _, _, rfl, rfl, ?_⟩
      refine ⟨_, rfl, _, rfl, sa, la, _, _, rfl, .inr ⟨s3.seqT hS, s3.seqT hL, fun D nD => ?_⟩⟩
      have sD := same_upd (o := .lst []) nD
      refine lc_it (walk_zipT (K := K) (a := sa) (b := la) (xs := t.map V.int) (ys := l.map V.int) (n := t.length) (by rw [List.length_map, List.length_map, ll, Nat.min_self])) (fun m H4 => Same (upd H2 T (.tup [V.int (j : Int), .ref la])) H4 ∧ H4 D = some (.lst (((addW t l).take m).map V.int))) ⟨sD, upd_same⟩ ?_ ?_ ?_
      · rintro m H4 _ ⟨s4, _⟩
        exact ⟨s4.seqT (s3.seqT hS), s4.seqT (s3.seqT hL)⟩
      · rintro m v H4 H5 hm ⟨s4, hD⟩ ⟨U, z1, z2, rfl, nU, rfl, g1, g2⟩
        obtain ⟨u1, e1, rfl⟩ := ints_get g1
        obtain ⟨u2, e2, rfl⟩ := ints_get g2
        have sU := same_upd (o := .tup [V.int u1, V.int u2]) nU
        refine ⟨U, _, rfl, SqT.of upd_same, rfl, _, _, rfl, _, _, rfl, rfl, rfl, ?_⟩
        refine ⟨_, rfl, _, rfl, u1, u2, rfl, rfl, _, sU _ _ hD, ?_, fun b o e => ?_, ?_⟩
        · rw [List.length_map, List.length_take]
          exact small_line (by omega)
        · rw [upd_ne (ne_of_none e nD)]
          exact sU _ _ (s4 _ _ e)
        · rw [upd_same, addW_take e1 e2, List.map_append]
          rfl
      · rintro H4 ⟨s4, hD⟩
        have lA : (addW t l).length = t.length := by
          unfold addW
          rw [List.length_zipWith, ll, Nat.min_self]
        rw [List.take_of_length_le (by omega)] at hD
        refine ⟨D, _, rfl, .inl ⟨SqL.of hD, fun R nR => ?_⟩⟩
        have sR := same_upd (o := .tup ((addW t l).map V.int)) nR
        have s6 := (s3.trans s4).trans sR
        have hFR := sR _ _ (s4 _ _ hFT)
        have hRT : SqT K (upd H4 R (.tup ((addW t l).map V.int))) R ((addW t l).map V.int) := SqT.of upd_same
        -- the numbers below 0
        refine ⟨_, rfl, R, rfl, ⟨_, hRT⟩, fun M nM => ?_⟩
        have sM := same_upd (o := .lst []) nM
        refine lc_tup (K := K) (a := R) (xs := (addW t l).map V.int) (fun m H5 => Same (upd H4 R (.tup ((addW t l).map V.int))) H5 ∧ H5 M = some (.lst ((((addW t l).take m).filter fun x => decide (x < 0)).map V.int))) ⟨sM, upd_same⟩ (fun m H5 _ ⟨s5, _⟩ => s5.seqT hRT) ?_ ?_
        · rintro m v H5 hv ⟨s5, hM⟩
          obtain ⟨u, hu, rfl⟩ := ints_get hv
          refine ⟨rfl, _, rfl, u, 0, rfl, rfl, _, rfl, ite2 (fun neg => ?_) (fun pos => ?_)⟩
          · refine ⟨_, rfl, _, hM, ?_, fun b o e => ?_, ?_⟩
            · rw [List.length_map]
              have h1 := List.length_filter_le (fun x : Int => decide (x < 0)) ((addW t l).take m)
              rw [List.length_take] at h1
              exact small_line (by omega)
            · rw [upd_ne (ne_of_none e nM)]
              exact s5 _ _ e
            · rw [upd_same, List.take_add_one, hu, List.filter_append, List.map_append]
              simp only [Option.toList_some, List.filter_cons, neg, if_true, List.filter_nil, List.map_cons, List.map_nil]
          · refine ⟨s5, ?_⟩
            rw [hM, List.take_add_one, hu, List.filter_append]
            simp only [Option.toList_some, List.filter_cons, pos, if_false, Bool.false_eq_true, List.filter_nil, List.append_nil]
        · rintro H5 ⟨s5, hM⟩
          rw [List.length_map, List.take_length] at hM
          refine ⟨by show 0 ≤ sizeLine; decide, fun N nN => ?_⟩
          have sN := same_upd (o := .lst []) nN
          have s7 := s5.trans sN
          refine ⟨.list (((addW t l).filter fun x => decide (x < 0)).map PyData.int), .list [], .lst (SqL.of (sN _ _ hM)) (dpAll_ints _), .lst (SqL.of upd_same) .nil, shaped_list, shaped_list (l := []), _, rfl, ?_⟩
          rw [eqv_nil]
          have hstep := leadsK_take (s := t) hlj
          have hF7 := s7 _ _ hFR
          refine ite2 (fun ok => ?_) (fun bad => ?_)
          · have ok' := (neg_filter _).mp (of_decide_eq_true ok)
            rw [if_pos ok'] at hstep
            refine ⟨_, rfl, .inl ⟨rfl, _, SqL.of hF7⟩, _, rfl, _, rfl, by show 2 ≤ sizeLine; decide, fun U nU => ?_⟩
            have sU := same_upd (o := .tup [V.int (j : Int), V.ref R]) nU
            have hFU := sU _ _ hF7
            have dU := dp_tup (K := K) nU (.cons (.int (j : Int)) (.cons (way_dp (s7.seqT hRT)) .nil))
            have dps2 := dpAll_same ((((sT.trans s4).trans sR).trans s7).trans sU) dps
            refine ⟨F, ps, _, rfl, rfl, hFU, small_line ?_, ?_⟩
            · rw [dpAll_len dps, List.length_map]
              have := leadsK_len t (a.take j) 0
              rw [List.length_take] at this
              omega
            · refine ⟨_, _, _, ps ++ [.ref U], rfl, fun b o e => ?_, upd_same, ?_⟩
              · rw [upd_ne (ne_of_none e nF)]
                exact sU _ _ (s7 _ _ (s6 _ _ e))
              · rw [hstep]
                exact dpAll_put hFU (dpAll_app1 (f := pairD) (x := ((j : Int), addW t l)) dps2 dU) (noLAll_map noL_pair _)
          · have bad' : ¬ okW (addW t l) = true := fun h => bad (decide_eq_true ((neg_filter _).mpr h))
            rw [if_neg bad', List.append_nil] at hstep
            refine ⟨_, _, _, ps, rfl, s6.trans s7, hF7, ?_⟩
            rw [hstep]
            exact dpAll_same (((sT.trans s4).trans sR).trans s7) dps
    · rintro σ H2 ⟨y4, y5, y6, ps, rfl, s2, hF, dps⟩
      rw [lw, List.take_length] at dps
      exact ⟨_, rfl, q F H2 ps s2 nF hF dps⟩
theorem at5 {z near u e r : Int} (h0 : 0 ≤ r) (h1 : r < 5) : ∃ y, atI [V.int z, V.int near, V.int near, V.int u, V.int e] r = some (.int y) := by
  have : r = 0 ∨ r = 1 ∨ r = 2 ∨ r = 3 ∨ r = 4 := by omega
  rcases this with rfl | rfl | rfl | rfl | rfl
  · exact ⟨_, atI_nat (j := 0) rfl⟩
  · exact ⟨_, atI_nat (j := 1) rfl⟩
  · exact ⟨_, atI_nat (j := 2) rfl⟩
  · exact ⟨_, atI_nat (j := 3) rfl⟩
  · exact ⟨_, atI_nat (j := 4) rfl⟩
theorem scStore : FnScope ["pen", "ask", "kinds", "way", "found", "k", "near"] ["pen", "ask", "kinds"] (defScope sStore) := ⟨rfl, rfl, rfl, by decide +kernel, rfl, by decide +kernel, by decide +kernel⟩
theorem ok_store {f fT : Addr} {fd fdT : FuncData} {k : Nat} (F : Fun K "_law_store" "_law_store" sStore f fd) (GT : FnOk P w K mg base CX0 (k + 2) fT fdT ["pen", "amount"] spTake) (kT : PySem.W.keepIn K (.ref fT) = true) (bT : Binds K fdT ["pen", "amount"] []) (gT : mg "_law_take" = some (.ref fT))
    (mr : mg "range" = none) (mt : mg "tuple" = none) (ml : mg "len" = none) (mx : mg "max" = none) : FnOk P w K mg base CX0 (k + 3) f fd ["pen", "ask", "kinds"] (spStore K) := by
  refine F.ok scStore (fun vs H Q E h => ?_) (fun cdv A outer s H vs Q E hr h => ?_)
  · obtain ⟨p, c, ns, n, x, a, kinds, rfl, _⟩ := h
    rfl
  · obtain ⟨p, c, ns, n, x, a, kinds, rfl, hP, hn, hx, l1, l10, ⟨k0, k4⟩, hl, q⟩ := h
    unfold penMost at hn
    refine ⟨_, pss_cons (ps_set (i := 3) scStore.nd rfl (.inl rfl) (pe_ix ix_tup (pv 1) (pe_call GT hr (by rfl) gT kT bT .nil pass0 (pa_cons (pv 0) (pa_cons (pe_callB call_len_seq (by rfl) ml PySem.boot_len (pa_cons (pv 1) pa_nil)) pa_nil))) (fun _ _ => rfl)))
      (pss_cons (ps_set (i := 4) scStore.nd rfl (.inl rfl) (pe_lst pa_nil))
      (pss_cons (ps_for PassesOwn.never rfl (pi_range1 (by rfl) mr (pa_cons (pv 2) pa_nil)) (pg_name (i := 5) scStore.nd rfl (.inl rfl))
        (pss_cons (ps_set (i := 6) scStore.nd rfl (.inl rfl) (pe_callB (call_max2 rfl) (by rfl) mx (by decide +kernel) (pa_cons pe_int (pa_cons (pe_op op_sub (pe_op op_add (pe_op op_sub pe_int (pe_ix ix_tup (pv 3) (pv 5) (fun _ _ => rfl))) (pe_call GT hr (by rfl) gT kT bT .nil pass0 (pa_cons (pv 0) (pa_cons pe_int pa_nil)))) pe_int) pa_nil))))
        (pss_one (ps_expr (pe_bm PySem.F.plainAttrs_list PySem.F.slot_list_append PySem.F.type_list_append mt_append (pv 4) (pa_cons (pe_ix ix_list
          (pe_lst (pa_cons (pe_call GT hr (by rfl) gT kT bT .nil pass0 (pa_cons (pv 0) (pa_cons pe_int pa_nil))) (pa_cons (pv 6) (pa_cons (pv 6) (pa_cons (pe_callB (call_max2 rfl) (by rfl) mx (by decide +kernel) (pa_cons pe_int (pa_cons (pe_op op_sub pe_int (pe_ix ix_tup (pv 3) (pv 5) (fun _ _ => rfl))) pa_nil)))
            (pa_cons (pe_op op_add (pe_op op_pow pe_int pe_int) (pv 6)) pa_nil))))))
          (pe_call GT hr (by rfl) gT kT bT .nil pass0 (pa_cons (pv 0) (pa_cons pe_int pa_nil))) (fun _ _ => rfl)) pa_nil))))))
      (pss_one (ps_ret (pe_callTy call_tuple_of (by rfl) mt (by decide +kernel) (pa_cons (pv 4) pa_nil)))))), ?_⟩
    cases hx with
    | @tup aa ws _ aT wall =>
    have lw : ws.length = a.length := by rw [dpAll_len wall, List.length_map]
    refine ⟨_, rfl, _, rfl, _, rfl, aa, ws, rfl, .inr aT, p, c, ns, n, _, rfl, hP, by unfold penMost; omega, by omega, by omega, fun r H1 r0 r1 kp1 P1 => ?_⟩
    obtain ⟨lp, hp⟩ := hP.at
    have aT1 := kp1.seqT hp aT
    obtain ⟨v, hv, hv2⟩ := atI_some r0 r1
    have wall1 := hP.dpAll kp1 wall (noLAll_map noL_way a)
    obtain ⟨d, hd, dv⟩ := dpAll_get wall1 hv2
    rw [List.getElem?_map] at hd
    obtain ⟨l, hla, rfl⟩ := Option.map_eq_some_iff.mp hd
    have ll := hl l (List.mem_of_getElem? hla)
    obtain ⟨la, rfl, hL⟩ := way_of dv
    refine ⟨aa, ws, r, _, rfl, rfl, aT1, hv, ?_⟩
    refine ⟨by show 0 ≤ sizeLine; decide, fun F nF => ?_⟩
    have sF := same_upd (o := .lst []) nF
    obtain ⟨npF, ncF⟩ := P1.nep nF
    have nHF : H F = none := kp1.free nF npF.symm
    refine ⟨_, rfl, kinds, rfl, by omega, by omega, ?_⟩
    refine for_range (lo := 0) (n := kinds.toNat) (fun j σ H2 => ∃ (y5 y6 : Option V) (ts : List Int), σ = [some (.ref p), some (.ref aa), some (.int kinds), some (.ref la), some (.ref F), y5, y6] ∧ Kp p H H2 ∧ Pen H2 p c ns (n + 1 + 3 * j) ∧ SqT K H2 la (l.map V.int) ∧ H2 F = some (.lst (ts.map V.int)) ∧ ts.length = j)
      ⟨none, none, [], rfl, kp1.same sF, P1.same sF, sF.seqT hL, upd_same, rfl⟩ ?_ ?_
    · rintro j σ H2 hj ⟨y5, y6, ts, rfl, kp2, P2, hL2, hF2, lt⟩
      obtain ⟨u, hu⟩ := at_ints (ns := l) (k := 0 + (j : Int)) (by omega) (by omega)
      obtain ⟨lp2, hp2⟩ := P2.at
      refine ⟨_, rfl, _, rfl, la, _, _, _, rfl, rfl, hL2, hu, 0, u, rfl, rfl, _, rfl, p, c, ns, _, 3, rfl, P2, by unfold penMost; omega, by decide, by decide, fun z H3 z0 z1 kp3 P3 => ?_⟩
      have hL3 := kp3.seqT hp2 hL2
      have hF3 := kp3 _ _ hF2 npF.symm
      refine ⟨_, _, rfl, rfl, _, 1, rfl, rfl, _, _, rfl, ?_⟩
      generalize (if 0 - u + z - 1 > 0 then 0 - u + z - 1 else 0 : Int) = near
      obtain ⟨lp3, hp3⟩ := P3.at
      refine ⟨_, rfl, .inl ⟨rfl, _, SqL.of hF3⟩, _, rfl, p, c, ns, _, 5, rfl, P3, by unfold penMost; omega, by decide, by decide, fun z2 H4 z20 z21 kp4 P4 => ?_⟩
      have hL4 := kp4.seqT hp3 hL3
      have hF4 := kp4 _ _ hF3 npF.symm
      refine ⟨_, rfl, _, rfl, _, rfl, _, rfl, la, _, _, _, rfl, rfl, hL4, hu, 0, u, rfl, rfl, _, _, rfl, ?_⟩
      refine ⟨10, 59, rfl, rfl, ⟨by decide, by decide, by decide⟩, _, rfl, _, near, rfl, rfl, by show 5 ≤ sizeLine; decide, fun L nL => ?_⟩
      generalize (if 0 - u > 0 then 0 - u else 0 : Int) = um
      dsimp only
      generalize (10 ^ (59 : Int).toNat + near : Int) = big
      have sL := same_upd (o := .lst [V.int z2, V.int near, V.int near, V.int um, V.int big]) nL
      obtain ⟨npL, ncL⟩ := P4.nep nL
      refine ⟨_, rfl, p, c, ns, _, 5, rfl, P4.same sL, by unfold penMost; omega, by decide, by decide, fun z3 H5 z30 z31 kp5 P5 => ?_⟩
      obtain ⟨y, hy⟩ := at5 (z := z2) (near := near) (u := um) (e := big) z30 z31
      have hF5 := kp5 _ _ (sL _ _ hF4) npF.symm
      refine ⟨L, _, z3, _, rfl, rfl, SqL.of (kp5 _ _ upd_same npL.symm), hy, ?_⟩
      refine ⟨F, _, _, rfl, rfl, hF5, small_line (by rw [List.length_map]; omega), ?_⟩
      refine ⟨_, _, ts ++ [y], rfl, (((kp2.trans kp3).trans kp4).same sL |>.trans kp5).put nHF, (P5.put npF ncF).mono (by omega), ?_, ?_, by rw [List.length_append, lt]; rfl⟩
      · have hp4 := P4.same sL
        obtain ⟨lq, hq⟩ := hp4.at
        exact (kp_upd F H5 _).seqT hF5 (kp5.seqT hq (sL.seqT hL4))
      · rw [upd_same, List.map_append]
        rfl
    · rintro σ H2 ⟨y5, y6, ts, rfl, kp2, P2, hL2, hF2, lt⟩
      refine ⟨_, rfl, F, _, rfl, .inl ⟨SqL.of hF2, fun R nR => ?_⟩⟩
      have sR := same_upd (o := .tup (ts.map V.int)) nR
      exact q R _ ts (kp2.same sR) ((P2.same sR).mono (by omega)) (way_dp (SqT.of upd_same)) (by omega)
end
def spLaw (K : PySem.W.Frag) : Sp := fun vs H Q _ => ∃ (a : Addr) (ns : List Int), vs = [.ref a] ∧ SqL K H a (ns.map V.int) ∧ ns.length ≤ 63 ∧ ∀ H', Q (.bl true) H'
theorem at3s {r : Int} (h0 : 0 ≤ r) (h1 : r < 3) : ∃ z, atI [V.int 2, V.int 9, V.int 99] r = some (.int z) ∧ 0 ≤ z ∧ z ≤ 99 := by
  have : r = 0 ∨ r = 1 ∨ r = 2 := by omega
  rcases this with rfl | rfl | rfl
  · exact ⟨2, atI_nat (j := 0) rfl, by decide, by decide⟩
  · exact ⟨9, atI_nat (j := 1) rfl, by decide, by decide⟩
  · exact ⟨99, atI_nat (j := 2) rfl, by decide, by decide⟩
theorem at4s {r : Int} (h0 : 0 ≤ r) (h1 : r < 4) : ∃ z, atI [V.int 0, V.int 0, V.int 1, V.int (-1)] r = some (.int z) := by
  have : r = 0 ∨ r = 1 ∨ r = 2 ∨ r = 3 := by omega
  rcases this with rfl | rfl | rfl | rfl
  · exact ⟨_, atI_nat (j := 0) rfl⟩
  · exact ⟨_, atI_nat (j := 1) rfl⟩
  · exact ⟨_, atI_nat (j := 2) rfl⟩
  · exact ⟨_, atI_nat (j := 3) rfl⟩
theorem okD_way (l : List Int) (n : Nat) (h : l.length ≤ 1000000) : okD (n + 2) (wayD l) = true := by
  unfold wayD
  simp only [okD, Bool.and_eq_true, decide_eq_true_eq, List.length_map]
  refine ⟨h, okAll_of fun d hd => ?_⟩
  obtain ⟨x, _, rfl⟩ := List.mem_map.mp hd
  rfl
theorem okD_pairs {ps : List (Int × List Int)} {m : Nat} (hl : ps.length ≤ m) (hm : m ≤ 1000000) (h : ∀ p ∈ ps, p.2.length ≤ m) : okD 4 (.list (ps.map pairD)) = true := by
  simp only [okD, Bool.and_eq_true, decide_eq_true_eq, List.length_map]
  refine ⟨by omega, okAll_of fun d hd => ?_⟩
  obtain ⟨p, hp, rfl⟩ := List.mem_map.mp hd
  have := h p hp
  unfold pairD
  simp only [okD, okAll, Bool.and_eq_true, decide_eq_true_eq, Bool.and_true]
  exact ⟨by simp, trivial, okD_way p.2 0 (by omega)⟩
theorem leadsK_mem {s : List Int} : ∀ {a : List (List Int)} {k : Nat} {p : Int × List Int}, p ∈ leadsK s k a → p.2.length ≤ s.length
  | [], _, p, h => by simp [leadsK] at h
  | l :: r, k, p, h => by
    rw [leadsK_cons] at h
    rcases List.mem_append.mp h with h | h
    · split at h
      · rw [List.mem_singleton.mp h]
        unfold addW
        rw [List.length_zipWith]
        exact Nat.min_le_left _ _
      · simp at h
    · exact leadsK_mem h
section
variable {P : Program} {w : World} {K : PySem.W.Frag} {mg : Str → Option Value} {base : Heap}
structure Txt (mg : Str → Option Value) (fO fT fS fH fE fR fL fC : Addr) : Prop where
  gO : mg "_law_open" = some (.ref fO)
  gT : mg "_law_take" = some (.ref fT)
  gS : mg "_law_same" = some (.ref fS)
  gH : mg "_law_house" = some (.ref fH)
  gE : mg "_law_ends" = some (.ref fE)
  gR : mg "_law_store" = some (.ref fR)
  gL : mg "leads" = some (.ref fL)
  gC : mg "covers" = some (.ref fC)
  range : mg "range" = none
  repr : mg "repr" = none
  enumerate : mg "enumerate" = none
  tuple : mg "tuple" = none
  max : mg "max" = none
  zip : mg "zip" = none
theorem scLaw : FnScope ["script", "pen", "turn", "kinds", "house", "kept", "i", "ask", "store", "due", "again", "found", "one", "other", "two", "a", "b"] ["script"] (defScope sLaw) := ⟨rfl, rfl, rfl, by decide +kernel, rfl, by decide +kernel, by decide +kernel⟩
theorem ok_law {f fO fT fS fH fE fR fL fC : Addr} {fd fdO fdT fdS fdH fdE fdR fdL fdC : FuncData} (F : Fun K "law" "law" sLaw f fd) (T : Txt mg fO fT fS fH fE fR fL fC)
    (GO : FnOk P w K mg base CX0 1 fO fdO ["script"] (spOpen K)) (kO : PySem.W.keepIn K (.ref fO) = true) (bO : Binds K fdO ["script"] [])
    (GT : FnOk P w K mg base CX0 2 fT fdT ["pen", "amount"] spTake) (kT : PySem.W.keepIn K (.ref fT) = true) (bT : Binds K fdT ["pen", "amount"] [])
    (GS : FnOk P w K mg base CX0 5 fS fdS ["found", "due"] (spSame K 4)) (kS : PySem.W.keepIn K (.ref fS) = true) (bS : Binds K fdS ["found", "due"] [])
    (GH : FnOk P w K mg base CX0 3 fH fdH ["pen", "kinds", "asks", "ways", "size"] (spHouse K)) (kH : PySem.W.keepIn K (.ref fH) = true) (bH : Binds K fdH ["pen", "kinds", "asks", "ways", "size"] [])
    (GE : FnOk P w K mg base CX0 1 fE fdE ["ask", "store"] (spEnds K)) (kE : PySem.W.keepIn K (.ref fE) = true) (bE : Binds K fdE ["ask", "store"] [])
    (GR : FnOk P w K mg base CX0 3 fR fdR ["pen", "ask", "kinds"] (spStore K)) (kR : PySem.W.keepIn K (.ref fR) = true) (bR : Binds K fdR ["pen", "ask", "kinds"] [])
    (GL : FnOk P w K mg base CX0 2 fL fdL ["house", "i", "store"] (spLeads K)) (kL : PySem.W.keepIn K (.ref fL) = true) (bL : Binds K fdL ["house", "i", "store"] [])
    (GC : FnOk P w K mg base CX0 1 fC fdC ["store", "other"] (spCovers K)) (kC : PySem.W.keepIn K (.ref fC) = true) (bC : Binds K fdC ["store", "other"] []) :
    FnG P w K mg base 6 f fd ["script"] (spLaw K) := by
  refine fnG_body F scLaw (fun vs H Q E h => ?_) (fun cdv A g outer s H vs Q E hr h => ?_)
  · obtain ⟨a, ns, rfl, _⟩ := h
    rfl
  · obtain ⟨a, ns, rfl, hS, hlen, q⟩ := h
    have g' := calmG_deeper g (envOfC "law" (defScope sLaw) s.heap.objs.size f cdv)
    have h1 : Room 1 _ := hr.mono (by decide)
    have h2 : Room 2 _ := hr.mono (by decide)
    have h3 : Room 3 _ := hr.mono (by decide)
    refine ⟨_, pss_cons (ps_set (i := 1) scLaw.nd rfl (.inr rfl) (pe_call GO h1 (by rfl) T.gO kO bO .nil pass0 (pa_cons (pv 0) pa_nil)))
      (pss_cons (ps_for PassesOwn.never rfl (pi_range1 (by rfl) T.range (pa_cons pe_int pa_nil)) (pg_name (i := 2) scLaw.nd rfl (.inl rfl))
        (pss_cons (ps_set (i := 3) scLaw.nd rfl (.inl rfl) (pe_op op_add pe_int (pe_call GT h2 (by rfl) T.gT kT bT .nil pass0 (pa_cons (pv 1) (pa_cons pe_int pa_nil)))))
        (pss_cons (ps_set (i := 4) scLaw.nd rfl (.inl rfl) (pe_call GH h3 (by rfl) T.gH kH bH .nil pass0 (pa_cons (pv 1) (pa_cons (pv 3) (pa_cons pe_int (pa_cons pe_int
            (pa_cons (pe_ix ix_list (pe_lst (pa_cons pe_int (pa_cons pe_int (pa_cons pe_int pa_nil)))) (pe_call GT h2 (by rfl) T.gT kT bT .nil pass0 (pa_cons (pv 1) (pa_cons pe_int pa_nil))) (fun _ _ => rfl)) pa_nil)))))))
        (pss_cons (ps_set (i := 5) scLaw.nd rfl (.inl rfl) (pe_callB (call_show g' hr) (by rfl) T.repr (by decide +kernel) (pa_cons (pv 4) pa_nil)))
        (pss_cons (ps_for PassesOwn.never rfl (pi_enumT (by rfl) T.enumerate (pa_cons (pv 4) pa_nil))
            (pg_tup rfl (pgs_cons (pg_name (i := 6) scLaw.nd rfl (.inl rfl)) (pgs_cons (pg_name (i := 7) scLaw.nd rfl (.inl rfl)) pgs_nil)))
          (pss_cons (ps_set (i := 8) scLaw.nd rfl (.inl rfl) (pe_call GR h3 (by rfl) T.gR kR bR .nil pass0 (pa_cons (pv 1) (pa_cons (pv 7) (pa_cons (pv 3) pa_nil)))))
          (pss_cons (ps_set (i := 9) scLaw.nd rfl (.inl rfl) (pe_call GE h1 (by rfl) T.gE kE bE .nil pass0 (pa_cons (pv 7) (pa_cons (pv 8) pa_nil))))
          (pss_cons (ps_for PassesOwn.never rfl (pi_range1 (by rfl) T.range (pa_cons pe_int pa_nil)) (pg_name (i := 10) scLaw.nd rfl (.inl rfl))
            (pss_cons (ps_set (i := 11) scLaw.nd rfl (.inl rfl) (pe_call GL h2 (by rfl) T.gL kL bL .nil pass0 (pa_cons (pv 4) (pa_cons (pv 6) (pa_cons (pv 8) pa_nil)))))
            (pss_cons (ps_if (pt_not (pt_val (pe_call GS hr (by rfl) T.gS kS bS .nil pass0 (pa_cons (pv 11) (pa_cons (pv 9) pa_nil))))) (pss_one (ps_ret pe_bl)) pss_nil)
            (pss_one (ps_expr (pe_bm PySem.F.plainAttrs_list PySem.F.slot_list_append PySem.F.type_list_append mt_append (pv 11) (pa_cons (pe_tup (pa_cons pe_int (pa_cons (pe_tup pa_nil) pa_nil))) pa_nil)))))))
          (pss_cons (ps_set (i := 13) scLaw.nd rfl (.inl rfl) (pe_callTy call_tuple_of (by rfl) T.tuple (by decide +kernel) (pa_cons
            (pe_lc (own := [("one", 12)]) (g := gName 12) (tt := tYes) rfl scLaw.nd (pi_tup (pv 8))
              (blkOk_by (N := ["script", "pen", "turn", "kinds", "house", "kept", "i", "ask", "store", "due", "again", "found", "one", "other", "two", "a", "b"]) (sc := defScope sLaw) (by decide +kernel))
              (fun _ _ _ _ _ => by exact pg_name (i := 12) scLaw.nd rfl (.inl rfl)) (fun _ _ _ _ _ => pts_nil)
              (fun _ _ _ _ _ => by exact pe_callB (call_max2 rfl) (by rfl) T.max (by decide +kernel) (pa_cons pe_int (pa_cons (pe_op op_add (pv 12)
                (pe_ix (r := rIxL K) ix_list (pe_lst (pa_cons pe_int (pa_cons pe_int (pa_cons pe_int (pa_cons (pe_un un_neg pe_int) pa_nil))))) (pe_call GT h2 (by rfl) T.gT kT bT .nil pass0 (pa_cons (pv 1) (pa_cons pe_int pa_nil))) (fun _ _ => rfl))) pa_nil)))) pa_nil)))
          (pss_one (ps_for PassesOwn.never rfl (pi_list (pe_lst (pa_cons (pe_tup (pa_cons (pv 8) (pa_cons (pv 13) pa_nil))) (pa_cons (pe_tup (pa_cons (pv 13) (pa_cons (pv 8) pa_nil))) (pa_cons (pe_tup (pa_cons (pv 8) (pa_cons (pv 8) pa_nil))) pa_nil)))))
              (pg_tup rfl (pgs_cons (pg_name (i := 12) scLaw.nd rfl (.inl rfl)) (pgs_cons (pg_name (i := 14) scLaw.nd rfl (.inl rfl)) pgs_nil)))
            (pss_one (ps_if (pt_not (pt_val (pe_call GS hr (by rfl) T.gS kS bS .nil pass0 (pa_cons (pe_call GC h1 (by rfl) T.gC kC bC .nil pass0 (pa_cons (pv 12) (pa_cons (pv 14) pa_nil))) (pa_cons
                (pe_cmpR op_notIn_seq pe_bl (pe_lc (own := [("a", 15), ("b", 16)]) (g := gTup K 2 (gCons (gName 15) (gCons (gName 16) gNil))) (tt := tYes) rfl scLaw.nd (pi_zipA (by rfl) T.zip (pa_cons (pv 12) (pa_cons (pv 14) pa_nil)))
                  (blkOk_by (N := ["script", "pen", "turn", "kinds", "house", "kept", "i", "ask", "store", "due", "again", "found", "one", "other", "two", "a", "b"]) (sc := defScope sLaw) (by decide +kernel))
                  (fun _ _ _ _ _ => by refine pg_tup rfl (pgs_cons ?_ (pgs_cons ?_ pgs_nil)); exact pg_name (i := 15) scLaw.nd rfl (.inl rfl); exact pg_name (i := 16) scLaw.nd rfl (.inl rfl))
                  (fun _ _ _ _ _ => pts_nil) (fun _ _ _ _ _ => by exact pe_cmpR op_ge (pv 15) (pv 16) (nomark _))) (by rfl)) pa_nil))))) (pss_one (ps_ret pe_bl)) pss_nil)))))))))
        (pss_one (ps_if (pt_cmpR op_ne (pe_callB (call_show g' hr) (by rfl) T.repr (by decide +kernel) (pa_cons (pv 4) pa_nil)) (pv 5) (nomark _)) (pss_one (ps_ret pe_bl)) pss_nil)))))))
      (pss_one (ps_ret pe_bl))), ?_⟩
    -- pen = _law_open(script)
    refine ⟨_, rfl, a, ns, rfl, hS, hlen, fun H0 p c ms s0 P0 _ => ?_⟩
    refine ⟨6, rfl, by decide, by decide, ?_⟩
    refine for_range (lo := 0) (n := 6) (fun t σ H1 => ∃ (y2 y3 y4 y5 y6 y7 y8 y9 y10 y11 y12 y13 y14 : Option V), σ = [some (.ref a), some (.ref p), y2, y3, y4, y5, y6, y7, y8, y9, y10, y11, y12, y13, y14, none, none] ∧ Pen H1 p c ms (1000 * t))
      ⟨none, none, none, none, none, none, none, none, none, none, none, none, none, rfl, P0⟩ ?_ (fun σ H1 _ => q H1)
    rintro t σ H1 ht ⟨y2, y3, y4, y5, y6, y7, y8, y9, y10, y11, y12, y13, y14, rfl, P1⟩
    -- kinds
    refine ⟨_, rfl, p, c, ms, _, 4, rfl, P1, by unfold penMost; omega, by decide, by decide, fun r H2 r0 r1 kp2 P2 => ?_⟩
    refine ⟨1, r, rfl, rfl, ?_⟩
    -- house
    refine ⟨_, rfl, _, rfl, by show 3 ≤ sizeLine; decide, fun L nL => ?_⟩
    have sL := same_upd (o := .lst [V.int 2, V.int 9, V.int 99]) nL
    obtain ⟨npL, ncL⟩ := P2.nep nL
    refine ⟨_, rfl, p, c, ms, _, 3, rfl, P2.same sL, by unfold penMost; omega, by decide, by decide, fun r2 H3 r20 r21 kp3 P3 => ?_⟩
    obtain ⟨size, hz, z0, z1⟩ := at3s r20 r21
    refine ⟨L, _, r2, _, rfl, rfl, SqL.of (kp3 _ _ upd_same npL.symm), hz, ?_⟩
    refine ⟨p, c, ms, _, 1 + r, 8, 5, size, rfl, P3, by unfold penMost; omega, ⟨by omega, by omega⟩, ⟨by decide, by decide⟩, ⟨by decide, by decide⟩, ⟨z0, z1⟩, fun ha H4 h kp4 P4 dH okH => ?_⟩
    have sh := shows_house okH (by omega) (by decide) z1
    -- kept
    refine ⟨_, rfl, ha, houseD h, rfl, dH, sh.show_, sh.dict, Nat.le_trans sh.depth (by decide), Nat.le_trans sh.len (by decide), ?_⟩
    have hkinds : ∀ a ∈ h, ∀ l ∈ a, (l.length : Int) = 1 + r := fun a ha l hl => ((okH.all a ha).all l hl).len
    cases dH with
    | @tup _ asv _ hT hall =>
    have lh : asv.length = h.length := by rw [dpAll_len hall, List.length_map]
    have h8 := okH.most
    -- for i, ask in enumerate(house)
    refine ⟨_, rfl, ha, asv, rfl, hT, ?_⟩
    refine for_it (walk_enumT (K := K) (a := ha) (xs := asv)) (fun j σ H5 => ∃ (y6 y7 y8 y9 y10 y11 y12 y13 y14 : Option V), σ = [some (.ref a), some (.ref p), some (.int (0 + (t : Int))), some (.int (1 + r)), some (.ref ha), some (.str (houseD h).shown), y6, y7, y8, y9, y10, y11, y12, y13, y14, none, none] ∧
      Pen H5 p c ms (1000 * t + 602 + 30 * j) ∧ SqT K H5 ha asv ∧ DpAll K H5 asv (h.map askD))
      ⟨y6, y7, y8, y9, y10, y11, y12, y13, y14, rfl, P4, hT, hall⟩ ?_ ?_ ?_
    · rintro j σ H5 _ ⟨_, _, _, _, _, _, _, _, _, _, _, hT5, _⟩
      exact hT5
    · rintro j v σ H5 H6 hj ⟨y6, y7, y8, y9, y10, y11, y12, y13, y14, rfl, P5, hT5, hall5⟩ ⟨T1, x1, x2, rfl, nT, rfl, f1, f2⟩
      obtain rfl := Option.some.inj f1
      have sT := same_upd (o := .tup [V.int (j : Int), x2]) nT
      obtain ⟨d, hd, dx⟩ := dpAll_get hall5 f2
      rw [List.getElem?_map] at hd
      obtain ⟨ask, hask, rfl⟩ := Option.map_eq_some_iff.mp hd
      have memA := List.mem_of_getElem? hask
      have okA := okH.all ask memA
      have P6 := P5.same sT
      refine ⟨T1, _, rfl, SqT.of upd_same, rfl, _, _, rfl, _, _, rfl, rfl, ?_⟩
      -- store
      refine ⟨_, rfl, _, rfl, _, rfl, p, c, ms, _, x2, ask, 1 + r, rfl, P6, by unfold penMost; omega, dp_same sT dx, okA.one, by have := okA.five; omega, ⟨by omega, by omega⟩, hkinds ask memA, fun sa H7 st kp7 P7 dst lst => ?_⟩
      obtain ⟨lp6, hp6⟩ := P6.at
      have dx7 := P6.dp kp7 (dp_same sT dx) (noL_ask ask)
      have hT7 := kp7.seqT hp6 (sT.seqT hT5)
      have hall7 := P6.dpAll kp7 (dpAll_same sT hall5) (noLAll_map noL_ask h)
      have lens : ∀ l ∈ ask, l.length = st.length := fun l hl => by have := hkinds ask memA l hl; omega
      -- due
      refine ⟨_, rfl, _, rfl, x2, .ref sa, ask, st, rfl, dx7, dst, lens, by omega, by omega, by have := okA.five; omega, fun qd H8 ps s8 nqd hqd dps => ?_⟩
      have dDue : Dp K H8 (.ref qd) (.list ((leadsK st 0 ask).map pairD)) := .lst (SqL.of hqd) dps
      have okDue : okD 4 (.list ((leadsK st 0 ask).map pairD)) = true := okD_pairs (m := 10) (by have := leadsK_len st ask 0; have := okA.five; omega) (by decide) fun pr hp => by have := leadsK_mem hp; omega
      have P8 := P7.same s8
      -- for again in range(2)
      refine ⟨2, rfl, by decide, by decide, ?_⟩
      refine for_range (lo := 0) (n := 2) (fun m σ H9 => ∃ (y10 y11 y12 y13 y14 : Option V), σ = [some (.ref a), some (.ref p), some (.int (0 + (t : Int))), some (.int (1 + r)), some (.ref ha), some (.str (houseD h).shown), some (.int (j : Int)), some x2, some (.ref sa), some (.ref qd), y10, y11, y12, y13, y14, none, none] ∧ Same H8 H9)
        ⟨y10, y11, y12, y13, y14, rfl, Same.refl H8⟩ ?_ ?_
      · rintro m σ H9 hm ⟨y10, y11, y12, y13, y14, rfl, s9⟩
        refine ⟨_, rfl, _, rfl, _, rfl, .ref ha, .ref sa, h, j, ask, st, rfl, .tup (s9.seqT (s8.seqT hT7)) (dpAll_same s9 (dpAll_same s8 hall7)), dp_same s9 (dp_same s8 dst), hask, lens, by omega, by omega, by have := okA.five; omega, fun qf H10 pf s10 nqf hqf dpf => ?_⟩
        refine ⟨_, rfl, _, rfl, .ref qf, .ref qd, _, rfl, .lst (SqL.of hqf) dpf, dp_same (s9.trans s10) dDue, okDue, fun H11 s11 => ?_⟩
        refine ⟨_, rfl, ?_⟩
        refine ifF rfl ?_
        have hqf11 := s11 _ _ hqf
        refine ⟨_, rfl, .inl ⟨rfl, _, SqL.of hqf11⟩, by show 0 ≤ sizeLine; decide, fun U nU => ?_⟩
        have sU := same_upd (o := .tup []) nU
        refine ⟨by show 2 ≤ sizeLine; decide, fun W nW => ?_⟩
        have sW := same_upd (o := .tup [V.int 0, V.ref U]) nW
        refine ⟨qf, _, _, rfl, rfl, sW _ _ (sU _ _ hqf11), small_line ?_, ?_⟩
        · rw [dpAll_len dpf, List.length_map]
          have := leadsK_len st ask 0
          have := okA.five
          omega
        · refine ⟨_, _, _, _, _, rfl, fun b o e => ?_⟩
          have n1 : b ≠ qf := ne_of_none (s9 _ _ e) nqf
          rw [upd_ne n1]
          exact sW _ _ (sU _ _ (s11 _ _ (s10 _ _ (s9 _ _ e))))
      · rintro σ H9 ⟨y10, y11, y12, y13, y14, rfl, s9⟩
        have P9 := P8.same s9
        obtain ⟨sa', esa, hS9⟩ := way_of (dp_same s9 (dp_same s8 dst))
        obtain rfl := V.ref.inj esa
        have lst4 : st.length ≤ 4 := by omega
        have lsm : (st.map V.int).length ≤ 4 := by rw [List.length_map]; exact lst4
        -- other
        refine ⟨_, rfl, sa, rfl, ⟨_, hS9⟩, fun D nD => ?_⟩
        have sD := same_upd (o := .lst []) nD
        obtain ⟨npD, ncD⟩ := P9.nep nD
        refine lc_tup (K := K) (a := sa) (xs := st.map V.int) (fun m H10 => Kp p H9 H10 ∧ Pen H10 p c ms (1000 * t + 602 + 30 * j + 20 + m) ∧ ∃ xs : List Int, H10 D = some (.lst (xs.map V.int)) ∧ xs.length = m)
          ⟨sD.kp, P9.same sD, [], upd_same, rfl⟩ (fun m H10 _ ⟨kp, _⟩ => kp.seqT P9.at.choose_spec hS9) ?_ ?_
        · rintro m v H10 hv ⟨kp10, P10, xs, hD, lx⟩
          obtain ⟨u, hu, rfl⟩ := ints_get hv
          have hm : m < st.length := (List.getElem?_eq_some_iff.mp hu).1
          refine ⟨rfl, ?_⟩
          refine ⟨_, rfl, 1, rfl, by show 4 ≤ sizeLine; decide, fun M nM => ?_⟩
          have sM := same_upd (o := .lst [V.int 0, V.int 0, V.int 1, V.int (-1)]) nM
          obtain ⟨npM, ncM⟩ := P10.nep nM
          have nDM : D ≠ M := ne_of_none hD nM
          refine ⟨_, rfl, p, c, ms, _, 4, rfl, P10.same sM, by unfold penMost; omega, by decide, by decide, fun r3 H11 r30 r31 kp11 P11 => ?_⟩
          obtain ⟨z, hz4⟩ := at4s r30 r31
          refine ⟨M, _, r3, _, rfl, rfl, SqL.of (kp11 _ _ upd_same npM.symm), hz4, u, z, rfl, rfl, 0, _, rfl, ?_⟩
          refine ⟨_, kp11 _ _ (sM _ _ hD) npD.symm, small_line (by rw [List.length_map]; omega), ?_⟩
          refine ⟨((kp10.same sM).trans kp11).put nD, P11.put npD ncD, xs ++ [if u + z > 0 then u + z else 0], ?_, by rw [List.length_append, lx]; rfl⟩
          rw [upd_same, List.map_append]
          rfl
        · rintro H10 ⟨kp10, P10, xs, hD, lx⟩
          rw [List.length_map] at lx
          refine ⟨D, _, rfl, .inl ⟨SqL.of hD, fun O nO => ?_⟩⟩
          have sO := same_upd (o := .tup (xs.map V.int)) nO
          have hO : SqT K (upd H10 O (.tup (xs.map V.int))) O (xs.map V.int) := SqT.of upd_same
          have hS10 := sO.seqT (kp10.seqT P9.at.choose_spec hS9)
          -- three pairs
          refine ⟨_, rfl, _, rfl, by show 2 ≤ sizeLine; decide, fun A1 n1 => ?_⟩
          have s1 := same_upd (o := .tup [V.ref sa, V.ref O]) n1
          refine ⟨_, rfl, _, rfl, by show 2 ≤ sizeLine; decide, fun A2 n2 => ?_⟩
          have s2 := same_upd (o := .tup [V.ref O, V.ref sa]) n2
          refine ⟨_, rfl, _, rfl, by show 2 ≤ sizeLine; decide, fun A3 n3 => ?_⟩
          have s3 := same_upd (o := .tup [V.ref sa, V.ref sa]) n3
          refine ⟨by show 3 ≤ sizeLine; decide, fun L3 nL3 => ?_⟩
          have s4 := same_upd (o := .lst [V.ref A1, V.ref A2, V.ref A3]) nL3
          have s14 := ((s1.trans s2).trans s3).trans s4
          have hA1 := s4 _ _ (s3 _ _ (s2 _ _ (upd_same (H := upd H10 O (.tup (xs.map V.int))) (a := A1) (o := .tup [V.ref sa, V.ref O]))))
          have hA2 := s4 _ _ (s3 _ _ (upd_same (H := upd (upd H10 O (.tup (xs.map V.int))) A1 (.tup [V.ref sa, V.ref O])) (a := A2) (o := .tup [V.ref O, V.ref sa])))
          have hA3 := s4 _ _ (upd_same (H := upd (upd (upd H10 O (.tup (xs.map V.int))) A1 (.tup [V.ref sa, V.ref O])) A2 (.tup [V.ref O, V.ref sa])) (a := A3) (o := .tup [V.ref sa, V.ref sa]))
          have hL3 := upd_same (H := upd (upd (upd (upd H10 O (.tup (xs.map V.int))) A1 (.tup [V.ref sa, V.ref O])) A2 (.tup [V.ref O, V.ref sa])) A3 (.tup [V.ref sa, V.ref sa])) (a := L3) (o := .lst [V.ref A1, V.ref A2, V.ref A3])
          have hS14 := s14.seqT hS10
          have hO14 := s14.seqT hO
          have P14 := (P10.same sO).same s14
          have k910 : Kp p H9 _ := (kp10.same sO).same s14
          refine ⟨L3, rfl, ⟨_, SqL.of hL3⟩, ?_⟩
          generalize upd (upd (upd (upd (upd H10 O (.tup (xs.map V.int))) A1 (.tup [V.ref sa, V.ref O])) A2 (.tup [V.ref O, V.ref sa])) A3 (.tup [V.ref sa, V.ref sa])) L3 (.lst [V.ref A1, V.ref A2, V.ref A3]) = H14 at *
          refine for_list (K := K) (a := L3) (xs := [V.ref A1, V.ref A2, V.ref A3]) (fun m σ H15 => ∃ (y12 y14 : Option V), σ = [some (.ref a), some (.ref p), some (.int (0 + (t : Int))), some (.int (1 + r)), some (.ref ha), some (.str (houseD h).shown), some (.int (j : Int)), some x2, some (.ref sa), some (.ref qd), y10, y11, y12, some (.ref O), y14, none, none] ∧ Same H14 H15)
            ⟨y12, y14, rfl, Same.refl H14⟩ (fun m σ H15 _ ⟨_, _, _, s15⟩ => s15.seq (SqL.of hL3)) ?_ ?_
          · rintro m v σ H15 hv ⟨y12, y14, rfl, s15⟩
            obtain ⟨B, u1, u2, w1, w2, rfl, hB, hu1, hu2, l1, l2⟩ : ∃ (B u1 u2 : Addr) (w1 w2 : List Int), v = .ref B ∧ H14 B = some (.tup [V.ref u1, V.ref u2]) ∧ SqT K H14 u1 (w1.map V.int) ∧ SqT K H14 u2 (w2.map V.int) ∧ w1.length = st.length ∧ w2.length = st.length := by
              have hm : m = 0 ∨ m = 1 ∨ m = 2 := by
                have := (List.getElem?_eq_some_iff.mp hv).1
                have e3 : [V.ref A1, V.ref A2, V.ref A3].length = 3 := rfl
                omega
              rcases hm with rfl | rfl | rfl
              · exact ⟨A1, sa, O, st, xs, (Option.some.inj hv).symm, hA1, hS14, hO14, rfl, lx⟩
              · exact ⟨A2, O, sa, xs, st, (Option.some.inj hv).symm, hA2, hO14, hS14, lx, rfl⟩
              · exact ⟨A3, sa, sa, st, st, (Option.some.inj hv).symm, hA3, hS14, hS14, rfl, rfl⟩
            refine ⟨B, _, rfl, SqT.of (s15 _ _ hB), rfl, _, _, rfl, _, _, rfl, rfl, ?_⟩
            have d1 := way_dp (s15.seqT hu1)
            have d2 := way_dp (s15.seqT hu2)
            refine ⟨_, rfl, _, rfl, .ref u1, .ref u2, w1, w2, rfl, d1, d2, by omega, by omega, fun H16 s16 => ?_⟩
            have k1 := s16.seqT (s15.seqT hu1)
            have k2 := s16.seqT (s15.seqT hu2)
            refine ⟨_, rfl, _, rfl, u1, u2, _, _, rfl, .inr ⟨k1, k2, fun G nG => ?_⟩⟩
            have sG := same_upd (o := .lst []) nG
            have lg : (geL w1 w2).length = w1.length := by
              unfold geL
              rw [List.length_zipWith, l1, l2, Nat.min_self]
            refine lc_it (walk_zipT (K := K) (a := u1) (b := u2) (xs := w1.map V.int) (ys := w2.map V.int) (n := w1.length) (by rw [List.length_map, List.length_map, l1, l2, Nat.min_self])) (fun m H17 => Same H16 H17 ∧ H17 G = some (.lst (((geL w1 w2).take m).map V.bl))) ⟨sG, upd_same⟩ ?_ ?_ ?_
            · rintro m H17 _ ⟨s17, _⟩
              exact ⟨s17.seqT k1, s17.seqT k2⟩
            · rintro m v H17 H18 hm ⟨s17, hG⟩ ⟨U, z1, z2, rfl, nU, rfl, g1, g2⟩
              obtain ⟨v1, e1, rfl⟩ := ints_get g1
              obtain ⟨v2, e2, rfl⟩ := ints_get g2
              have sU := same_upd (o := .tup [V.int v1, V.int v2]) nU
              refine ⟨U, _, rfl, SqT.of upd_same, rfl, _, _, rfl, _, _, rfl, rfl, rfl, ?_⟩
              refine ⟨_, rfl, _, rfl, v1, v2, rfl, rfl, _, sU _ _ hG, ?_, fun b o e => ?_, ?_⟩
              · rw [List.length_map, List.length_take]
                exact small_line (by omega)
              · rw [upd_ne (ne_of_none e nG)]
                exact sU _ _ (s17 _ _ e)
              · have e3 : (geL w1 w2)[m]? = some (decide (v2 ≤ v1)) := zip_at e1 e2
                rw [upd_same, List.take_add_one, e3, List.map_append]
                rfl
            · rintro H17 ⟨s17, hG⟩
              rw [List.take_of_length_le (by omega)] at hG
              refine ⟨G, _, rfl, .inl (SqL.of hG), rfl, flat_bls _, ?_⟩
              have eb : (if true = true then !inV (V.bl false) ((geL w1 w2).map V.bl) else inV (V.bl false) ((geL w1 w2).map V.bl)) = coversB w1 w2 := by
                rw [if_pos rfl, inV_geL, Bool.not_not]
                rfl
              rw [eb]
              refine ⟨_, _, .bool (coversB w1 w2), rfl, .bl _, .bl _, rfl, fun H18 s18 => ?_⟩
              refine ⟨_, rfl, ?_⟩
              refine ifF rfl ?_
              exact ⟨_, _, rfl, ((s15.trans s16).trans s17).trans s18⟩
          · rintro σ H15 ⟨y12, y14, rfl, s15⟩
            have P15 := P14.same s15
            obtain ⟨lp9, hp9⟩ := P9.at
            refine ⟨_, _, _, _, _, _, _, _, _, rfl, P15.mono (by omega), ?_, ?_⟩
            · exact s15.seqT (k910.seqT hp9 (s9.seqT (s8.seqT hT7)))
            · exact dpAll_same s15 (dpAll_kp k910 hp9 (dpAll_same s9 (dpAll_same s8 hall7)) (noLAll_map noL_ask h))
    · rintro σ H5 ⟨y6, y7, y8, y9, y10, y11, y12, y13, y14, rfl, P5, hT5, hall5⟩
      -- if repr(house) != kept
      refine ⟨_, rfl, ha, houseD h, rfl, .tup hT5 hall5, sh.show_, sh.dict, Nat.le_trans sh.depth (by decide), Nat.le_trans sh.len (by decide), ?_⟩
      refine ⟨_, rfl, rfl, _, rfl, ?_⟩
      refine iteNS rfl ?_
      exact ⟨_, _, _, _, _, _, _, _, _, _, _, _, _, rfl, P5.mono (by omega)⟩
end
/-! ### what the top has written -/
theorem all_mk {l : PySem.W.OpenLaw} {w : World} {K : PySem.W.Frag} {h : Heap} {mg : Str → Option Value} {fa f1 f2 f3 f4 f5 f6 f7 f8 f9 f10 f11 : Addr} (X : K.In h) (G : h.Ns mainGlobals mg) (hfa : mg "law" = some (.ref fa))
    {od1 an1 od2 an2 od3 an3 od4 an4 od5 an5 od6 an6 od7 an7 od8 an8 od9 an9 od10 an10 od11 an11 : Option Addr} {sl1 sl2 sl3 sl4 sl5 sl6 sl7 sl8 sl9 sl10 sl11 : Array (Option Value)} {oc1 kV1 dc1 pm1 cd1 ct1 oc2 kV2 dc2 pm2 cd2 ct2 oc3 kV3 dc3 pm3 cd3 ct3 oc4 kV4 dc4 pm4 cd4 ct4 oc5 kV5 dc5 pm5 cd5 ct5 oc6 kV6 dc6 pm6 cd6 ct6 oc7 kV7 dc7 pm7 cd7 ct7 oc8 kV8 dc8 pm8 cd8 ct8 oc9 kV9 dc9 pm9 cd9 ct9 oc10 kV10 dc10 pm10 cd10 ct10 oc11 kV11 dc11 pm11 cd11 ct11 : Value}
    (a1 : PySem.W.nsIn K mainGlobals "leads" = some (some (.ref f1))) (l1 : K.lookup f1 = some ⟨oc1, od1, .func (PySem.W.fnOf "leads" "leads" (defArgs sLeads) (defBody sLeads) (defScope sLeads) .none kV1 dc1 pm1 an1 cd1 ct1), sl1⟩) (c1 : PySem.W.codeIn K cd1 "leads" = true) (k1 : PySem.W.keepIn K (.ref f1) = true)
    (a2 : PySem.W.nsIn K mainGlobals "covers" = some (some (.ref f2))) (l2 : K.lookup f2 = some ⟨oc2, od2, .func (PySem.W.fnOf "covers" "covers" (defArgs sCovers) (defBody sCovers) (defScope sCovers) .none kV2 dc2 pm2 an2 cd2 ct2), sl2⟩) (c2 : PySem.W.codeIn K cd2 "covers" = true) (k2 : PySem.W.keepIn K (.ref f2) = true)
    (a3 : PySem.W.nsIn K mainGlobals "_law_open" = some (some (.ref f3))) (l3 : K.lookup f3 = some ⟨oc3, od3, .func (PySem.W.fnOf "_law_open" "_law_open" (defArgs sOpen) (defBody sOpen) (defScope sOpen) .none kV3 dc3 pm3 an3 cd3 ct3), sl3⟩) (c3 : PySem.W.codeIn K cd3 "_law_open" = true) (k3 : PySem.W.keepIn K (.ref f3) = true)
    (a4 : PySem.W.nsIn K mainGlobals "_law_spread" = some (some (.ref f4))) (l4 : K.lookup f4 = some ⟨oc4, od4, .func (PySem.W.fnOf "_law_spread" "_law_spread" (defArgs sSpread) (defBody sSpread) (defScope sSpread) .none kV4 dc4 pm4 an4 cd4 ct4), sl4⟩) (c4 : PySem.W.codeIn K cd4 "_law_spread" = true) (k4 : PySem.W.keepIn K (.ref f4) = true)
    (a5 : PySem.W.nsIn K mainGlobals "_law_take" = some (some (.ref f5))) (l5 : K.lookup f5 = some ⟨oc5, od5, .func (PySem.W.fnOf "_law_take" "_law_take" (defArgs sTake) (defBody sTake) (defScope sTake) .none kV5 dc5 pm5 an5 cd5 ct5), sl5⟩) (c5 : PySem.W.codeIn K cd5 "_law_take" = true) (k5 : PySem.W.keepIn K (.ref f5) = true)
    (a6 : PySem.W.nsIn K mainGlobals "_law_same" = some (some (.ref f6))) (l6 : K.lookup f6 = some ⟨oc6, od6, .func (PySem.W.fnOf "_law_same" "_law_same" (defArgs sSame) (defBody sSame) (defScope sSame) .none kV6 dc6 pm6 an6 cd6 ct6), sl6⟩) (c6 : PySem.W.codeIn K cd6 "_law_same" = true) (k6 : PySem.W.keepIn K (.ref f6) = true)
    (a7 : PySem.W.nsIn K mainGlobals "_law_house" = some (some (.ref f7))) (l7 : K.lookup f7 = some ⟨oc7, od7, .func (PySem.W.fnOf "_law_house" "_law_house" (defArgs sHouse) (defBody sHouse) (defScope sHouse) .none kV7 dc7 pm7 an7 cd7 ct7), sl7⟩) (c7 : PySem.W.codeIn K cd7 "_law_house" = true) (k7 : PySem.W.keepIn K (.ref f7) = true)
    (a8 : PySem.W.nsIn K mainGlobals "_law_ends" = some (some (.ref f8))) (l8 : K.lookup f8 = some ⟨oc8, od8, .func (PySem.W.fnOf "_law_ends" "_law_ends" (defArgs sEnds) (defBody sEnds) (defScope sEnds) .none kV8 dc8 pm8 an8 cd8 ct8), sl8⟩) (c8 : PySem.W.codeIn K cd8 "_law_ends" = true) (k8 : PySem.W.keepIn K (.ref f8) = true)
    (a9 : PySem.W.nsIn K mainGlobals "_law_store" = some (some (.ref f9))) (l9 : K.lookup f9 = some ⟨oc9, od9, .func (PySem.W.fnOf "_law_store" "_law_store" (defArgs sStore) (defBody sStore) (defScope sStore) .none kV9 dc9 pm9 an9 cd9 ct9), sl9⟩) (c9 : PySem.W.codeIn K cd9 "_law_store" = true) (k9 : PySem.W.keepIn K (.ref f9) = true)
    (a10 : PySem.W.nsIn K mainGlobals "put_together" = some (some (.ref f10))) (l10 : K.lookup f10 = some ⟨oc10, od10, .func (PySem.W.fnOf "put_together" "put_together" (defArgs sPut) (defBody sPut) (defScope sPut) .none kV10 dc10 pm10 an10 cd10 ct10), sl10⟩) (c10 : PySem.W.codeIn K cd10 "put_together" = true) (k10 : PySem.W.keepIn K (.ref f10) = true)
    (a11 : PySem.W.nsIn K mainGlobals "law" = some (some (.ref f11))) (l11 : K.lookup f11 = some ⟨oc11, od11, .func (PySem.W.fnOf "law" "law" (defArgs sLaw) (defBody sLaw) (defScope sLaw) .none kV11 dc11 pm11 an11 cd11 ct11), sl11⟩) (c11 : PySem.W.codeIn K cd11 "law" = true) (k11 : PySem.W.keepIn K (.ref f11) = true)
    (z1 : PySem.W.nsIn K mainGlobals "range" = some none)
    (z2 : PySem.W.nsIn K mainGlobals "repr" = some none)
    (z3 : PySem.W.nsIn K mainGlobals "enumerate" = some none)
    (z4 : PySem.W.nsIn K mainGlobals "tuple" = some none)
    (z5 : PySem.W.nsIn K mainGlobals "max" = some none)
    (z6 : PySem.W.nsIn K mainGlobals "zip" = some none)
    (z7 : PySem.W.nsIn K mainGlobals "len" = some none)
    (z8 : PySem.W.nsIn K mainGlobals "list" = some none)
    (z9 : PySem.W.nsIn K mainGlobals "isinstance" = some none)
    (z10 : PySem.W.nsIn K mainGlobals "bool" = some none)
    (z11 : PySem.W.nsIn K mainGlobals "int" = some none)
    (z12 : PySem.W.nsIn K mainGlobals "str" = some none)
    (z13 : PySem.W.nsIn K mainGlobals "min" = some none)
    (z14 : PySem.W.nsIn K mainGlobals "all" = some none)
    : ∃ fd : FuncData, (∀ (s : Shared) (v : Value), BindsTo s fd ⟨[v], []⟩ [("script", v)]) ∧ ∀ base : Heap, K.In base → base.Ns mainGlobals mg → FnG l.prog w K mg base 6 fa fd ["script"] (spLaw K) := by
  have e := hfa.symm.trans (PySem.W.mg_of X G a11)
  cases e
  have F1 := fun_mk (st := sLeads) l1 c1 k1
  have g1 := PySem.W.mg_of X G a1
  have b1 := F1.binds (ps := ["house", "i", "store"]) fun _ _ _ _ _ _ us hl => match us, hl with | [_, _, _], _ => rfl
  have F2 := fun_mk (st := sCovers) l2 c2 k2
  have g2 := PySem.W.mg_of X G a2
  have b2 := F2.binds (ps := ["store", "other"]) fun _ _ _ _ _ _ us hl => match us, hl with | [_, _], _ => rfl
  have F3 := fun_mk (st := sOpen) l3 c3 k3
  have g3 := PySem.W.mg_of X G a3
  have b3 := F3.binds (ps := ["script"]) fun _ _ _ _ _ _ us hl => match us, hl with | [_], _ => rfl
  have F4 := fun_mk (st := sSpread) l4 c4 k4
  have g4 := PySem.W.mg_of X G a4
  have b4 := F4.binds (ps := ["cell", "at"]) fun _ _ _ _ _ _ us hl => match us, hl with | [_, _], _ => rfl
  have F5 := fun_mk (st := sTake) l5 c5 k5
  have g5 := PySem.W.mg_of X G a5
  have b5 := F5.binds (ps := ["pen", "amount"]) fun _ _ _ _ _ _ us hl => match us, hl with | [_, _], _ => rfl
  have F6 := fun_mk (st := sSame) l6 c6 k6
  have g6 := PySem.W.mg_of X G a6
  have b6 := F6.binds (ps := ["found", "due"]) fun _ _ _ _ _ _ us hl => match us, hl with | [_, _], _ => rfl
  have F7 := fun_mk (st := sHouse) l7 c7 k7
  have g7 := PySem.W.mg_of X G a7
  have b7 := F7.binds (ps := ["pen", "kinds", "asks", "ways", "size"]) fun _ _ _ _ _ _ us hl => match us, hl with | [_, _, _, _, _], _ => rfl
  have F8 := fun_mk (st := sEnds) l8 c8 k8
  have g8 := PySem.W.mg_of X G a8
  have b8 := F8.binds (ps := ["ask", "store"]) fun _ _ _ _ _ _ us hl => match us, hl with | [_, _], _ => rfl
  have F9 := fun_mk (st := sStore) l9 c9 k9
  have g9 := PySem.W.mg_of X G a9
  have b9 := F9.binds (ps := ["pen", "ask", "kinds"]) fun _ _ _ _ _ _ us hl => match us, hl with | [_, _, _], _ => rfl
  have F10 := fun_mk (st := sPut) l10 c10 k10
  have g10 := PySem.W.mg_of X G a10
  have b10 := F10.binds (ps := ["numbers", "others"]) fun _ _ _ _ _ _ us hl => match us, hl with | [_, _], _ => rfl
  have F11 := fun_mk (st := sLaw) l11 c11 k11
  have g11 := PySem.W.mg_of X G a11
  have m_range := PySem.W.mg_none_of X G z1
  have m_repr := PySem.W.mg_none_of X G z2
  have m_enumerate := PySem.W.mg_none_of X G z3
  have m_tuple := PySem.W.mg_none_of X G z4
  have m_max := PySem.W.mg_none_of X G z5
  have m_zip := PySem.W.mg_none_of X G z6
  have m_len := PySem.W.mg_none_of X G z7
  have m_list := PySem.W.mg_none_of X G z8
  have m_isinstance := PySem.W.mg_none_of X G z9
  have m_bool := PySem.W.mg_none_of X G z10
  have m_int := PySem.W.mg_none_of X G z11
  have m_str := PySem.W.mg_none_of X G z12
  have m_min := PySem.W.mg_none_of X G z13
  have m_all := PySem.W.mg_none_of X G z14
  refine ⟨PySem.W.fnOf "law" "law" (defArgs sLaw) (defBody sLaw) (defScope sLaw) .none kV11 dc11 pm11 an11 cd11 ct11, fun s v => .of_eq rfl, fun base _ _ => ?_⟩
  have B : Blt mg := ⟨m_isinstance, m_bool, m_int, m_str, m_tuple, m_list, m_len, m_zip⟩
  have GO : FnOk l.prog w K mg base CX0 1 f3 _ ["script"] (spOpen K) := ok_open (k := 0) F3 m_list m_enumerate
  have GT : FnOk l.prog w K mg base CX0 2 f5 _ ["pen", "amount"] spTake := ok_take (k := 0) F5 F4 b4 g4 m_len
  have GS : FnOk l.prog w K mg base CX0 5 f6 _ ["found", "due"] (spSame K 4) := ok_same F6 b6 g6 B 4
  have GH := ok_house (k := 0) (base := base) (P := l.prog) (w := w) F7 GT F5.kp b5 g5 m_range m_tuple m_len
  have GE := ok_ends (k := 0) (base := base) (P := l.prog) (w := w) (mg := mg) F8 m_zip m_enumerate m_tuple
  have GR := ok_store (k := 0) (base := base) (P := l.prog) (w := w) F9 GT F5.kp b5 g5 m_range m_tuple m_len m_max
  have GU := ok_put (k := 0) (base := base) (P := l.prog) (w := w) (mg := mg) F10 m_zip m_tuple
  have GL := ok_leads (k := 0) (base := base) (P := l.prog) (w := w) (mg := mg) F1 GU F10.kp b10 g10 m_enumerate m_min
  have GC := ok_covers (k := 0) (base := base) (P := l.prog) (w := w) (mg := mg) F2 m_zip m_all
  exact ok_law F11 ⟨g3, g5, g6, g7, g8, g9, g1, g2, m_range, m_repr, m_enumerate, m_tuple, m_max, m_zip⟩ GO F3.kp b3 GT F5.kp b5 GS F6.kp b6 GH F7.kp b7 GE F8.kp b8 GR F9.kp b9 GL F1.kp b1 GC F2.kp b2
end My
open PySem PySem.W PyProof.Rows
set_option maxRecDepth 100000 in
set_option maxHeartbeats 0 in
theorem PySem.Challenge.cw_everstock_k02_where_ways_lead_holds : PySem.Challenge.rw_everstock_k02_where_ways_lead.Holds := by
  w_on; o_law; k_head; (case hw => w_witness2)
  k_fill
  refine My.walkG (l := PySem.Challenge.rw_everstock_k02_where_ways_lead) (k := 6) (x := "script") (sp := My.spLaw) rfl rfl ⟨rfl, by decide, by decide⟩ (fun w h Y => PySem.W.kIn_of Y) ?F (fun K H a ns hl _ hS => ⟨a, ns, rfl, hS, hl, fun _ => rfl⟩)
  case F =>
    intro w mg fa h KX G hmg
    refine' My.all_mk KX G hmg ?a1 ?l1 ?c1 ?k1 ?a2 ?l2 ?c2 ?k2 ?a3 ?l3 ?c3 ?k3 ?a4 ?l4 ?c4 ?k4 ?a5 ?l5 ?c5 ?k5 ?a6 ?l6 ?c6 ?k6 ?a7 ?l7 ?c7 ?k7 ?a8 ?l8 ?c8 ?k8 ?a9 ?l9 ?c9 ?k9 ?a10 ?l10 ?c10 ?k10 ?a11 ?l11 ?c11 ?k11 ?z1 ?z2 ?z3 ?z4 ?z5 ?z6 ?z7 ?z8 ?z9 ?z10 ?z11 ?z12 ?z13 ?z14
    (case a1 => k_is); (case l1 => k_is); (case c1 => k_is); (case k1 => k_is); (case a2 => k_is); (case l2 => k_is); (case c2 => k_is); (case k2 => k_is); (case a3 => k_is); (case l3 => k_is); (case c3 => k_is); (case k3 => k_is); (case a4 => k_is); (case l4 => k_is); (case c4 => k_is); (case k4 => k_is); (case a5 => k_is); (case l5 => k_is); (case c5 => k_is); (case k5 => k_is); (case a6 => k_is); (case l6 => k_is); (case c6 => k_is); (case k6 => k_is); (case a7 => k_is); (case l7 => k_is); (case c7 => k_is); (case k7 => k_is); (case a8 => k_is); (case l8 => k_is); (case c8 => k_is); (case k8 => k_is); (case a9 => k_is); (case l9 => k_is); (case c9 => k_is); (case k9 => k_is); (case a10 => k_is); (case l10 => k_is); (case c10 => k_is); (case k10 => k_is); (case a11 => k_is); (case l11 => k_is); (case c11 => k_is); (case k11 => k_is); (case z1 => k_is); (case z2 => k_is); (case z3 => k_is); (case z4 => k_is); (case z5 => k_is); (case z6 => k_is); (case z7 => k_is); (case z8 => k_is); (case z9 => k_is); (case z10 => k_is); (case z11 => k_is); (case z12 => k_is); (case z13 => k_is); (case z14 => k_is)
#print axioms PySem.Challenge.cw_everstock_k02_where_ways_lead_holds
