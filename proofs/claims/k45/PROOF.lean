import PyProof.Rows.All
import Wide.All
import OpenK.AllK
import Wide.FinOn
import HandS.ForMost
import HandS.Codes
import HandS.IsInst
import HandS.Walk
import HandS.Zip
import HandS.TupSets
import HandS.SortOrd
import HandS.NamedTupSort
import HandS.TupMul
import HandS.TupAny
import KE.DataMinMax
import HandS.Zip0
import HandS.Flt
import HandS.TupLe
import PySem.Challenge.RW_everstock_k45_houses_put_together
set_option Elab.async false
set_option linter.all false
set_option maxRecDepth 100000
set_option maxHeartbeats 4000000
namespace My
open PySem PySem.Spec PyProof.Rows L2
/-! ### the tables of sets of tuples, up to 4914 of them -/
/-- each slot begins a run early enough -/
structure MOk (m : Nat) : Prop where
  full : ∀ (h : Int) (j : Nat), j ≤ m → ∃ n, n ≤ m + 12 ∧ runI m (SetTable.bits h) n = j
  odd : m % 2 = 1
  few : m ≤ 9000
theorem mok_of {m : Nat} (q : MaskOk m) : MOk m := ⟨fun h _ hj => run_meets q h hj, mask_odd q, by rcases q with rfl | rfl | rfl <;> decide⟩
/-- the slots that are met, as bits -/
def orb (m : Nat) : Nat → Nat → Nat → Nat
  | 0, _, acc => acc
  | n + 1, x, acc => orb m n ((x * 5 + 1) % (m + 1)) (acc ||| 2 ^ x)
theorem lcgI_front (m : Nat) : ∀ k x, lcgI m x (k + 1) = lcgI m ((x * 5 + 1) % (m + 1)) k
  | 0, _ => rfl
  | k + 1, x => by
    show (lcgI m x (k + 1) * 5 + 1) % (m + 1) = (lcgI m ((x * 5 + 1) % (m + 1)) k * 5 + 1) % (m + 1)
    rw [lcgI_front m k x]
theorem orb_bit (m : Nat) : ∀ n x acc j, (orb m n x acc).testBit j = true → acc.testBit j = true ∨ ∃ k, k < n ∧ lcgI m x k = j
  | 0, _, _, _, h => .inl h
  | n + 1, x, acc, j, h => by
    rcases orb_bit m n _ _ j h with z | ⟨k, hk, e⟩
    · rw [Nat.testBit_or, Bool.or_eq_true, Nat.testBit_two_pow, decide_eq_true_eq] at z
      rcases z with z | z
      · exact .inl z
      · exact .inr ⟨0, Nat.succ_pos n, z⟩
    · exact .inr ⟨k + 1, Nat.succ_lt_succ hk, (lcgI_front m k x).trans e⟩
theorem lcgI_plus (m x a : Nat) : ∀ k, lcgI m (lcgI m x a) k = lcgI m x (a + k)
  | 0 => rfl
  | k + 1 => by
    show (lcgI m (lcgI m x a) k * 5 + 1) % (m + 1) = (lcgI m x (a + k) * 5 + 1) % (m + 1)
    rw [lcgI_plus m x a k]
theorem mok_by {m : Nat} (c : orb m (m + 1) 0 0 = 2 ^ (m + 1) - 1) (r : lcgI m 0 (m + 1) = 0) (o : m % 2 = 1) (f : m ≤ 9000) : MOk m := by
  have hit : ∀ j, j ≤ m → ∃ b, b ≤ m ∧ lcgI m 0 b = j := fun j hj => by
    have z : (orb m (m + 1) 0 0).testBit j = true := by
      rw [c, Nat.testBit_two_pow_sub_one, decide_eq_true_eq]
      omega
    rcases orb_bit m _ _ _ j z with z | ⟨k, hk, e⟩
    · rw [Nat.zero_testBit] at z
      cases z
    · exact ⟨k, by omega, e⟩
  have again : ∀ k, lcgI m 0 (m + 1 + k) = lcgI m 0 k := fun k => by rw [← lcgI_plus, r]
  refine ⟨fun h j hj => ?_, o, f⟩
  obtain ⟨a, ha, ea⟩ := hit _ (runI_le m (SetTable.bits h) 12)
  obtain ⟨b, hb, eb⟩ := hit j hj
  have reach : ∃ k, k ≤ m ∧ lcgI m (runI m (SetTable.bits h) 12) k = j := by
    rw [← ea]
    by_cases lt : b < a
    · refine ⟨b + (m + 1) - a, by omega, ?_⟩
      rw [lcgI_plus, show a + (b + (m + 1) - a) = m + 1 + b by omega, again, eb]
    · exact ⟨b - a, by omega, by rw [lcgI_plus, show a + (b - a) = b by omega, eb]⟩
  obtain ⟨k, hk, e⟩ := reach
  exact ⟨12 + k, by omega, (runI_tail (bits_lt h) k).trans e⟩
theorem mok_2047 : MOk 2047 := mok_by (by decide +kernel) (by decide +kernel) rfl (by decide)
theorem mok_8191 : MOk 8191 := mok_by (by decide +kernel) (by decide +kernel) rfl (by decide)
theorem mok_511 : MOk 511 := mok_by (by decide +kernel) (by decide +kernel) rfl (by decide)
theorem way_in {m : Nat} (h : Int) (k : Nat) : way m h k ≤ m := by
  have hi : SetTable.bits h % (m + 1) ≤ m := by have := Nat.mod_lt (SetTable.bits h) (show 0 < m + 1 by omega); omega
  have hr := runEnd_bd hi
  have z := nth_in k (runAt m (SetTable.bits h % (m + 1)) (SetTable.bits h)) (show SetTable.bits h % (m + 1) + (SetTable.runEnd m (SetTable.bits h % (m + 1)) - SetTable.bits h % (m + 1)) ≤ m by omega)
  exact Nat.le_trans (Nat.le_add_right _ _) z
theorem MOk.meets {m : Nat} (q : MOk m) (h : Int) {j : Nat} (hj : j ≤ m) : ∃ k, k < 10 * SetTable.turns m ∧ way m h k = j := by
  obtain ⟨n, hn, e⟩ := q.full h j hj
  obtain ⟨k, hk, z⟩ := run_nth m (SetTable.bits h) n
  exact ⟨k, by unfold SetTable.turns; omega, (congrArg SetTable.Probe.j z).trans e⟩

/-! ### a table that is found through -/
structure TabG (t : SetTable) (hs : List Int) : Prop where
  up : Ris t.place.toList
  nod : t.dummies = #[]
  cnt : t.place.size = hs.length
  mok : MOk t.mask
  le : ∀ x ∈ t.place.toList, x ≤ t.mask
  met : ∀ (i : Nat) (h : Int) (j : Nat), hs[i]? = some h → t.place.toList[i]? = some j → ∃ k, way t.mask h k = j ∧ ∀ c, c < k → way t.mask h c ∈ t.place.toList
theorem TabG.first {t : SetTable} {hs : List Int} (T : TabG t hs) (hl : hs.length ≤ t.mask) (h : Int) : ∃ K, K < 10 * SetTable.turns t.mask ∧ way t.mask h K ∉ t.place.toList ∧ ∀ c, c < K → way t.mask h c ∈ t.place.toList := by
  obtain ⟨j, hj, hn⟩ := st_missing t.place.toList (t.mask + 1) (by rw [Array.length_toList, T.cnt]; omega)
  obtain ⟨k, hk, e⟩ := T.mok.meets h (j := j) (by omega)
  subst e
  obtain ⟨K, h1, h2, h3⟩ := st_least (p := fun c => way t.mask h c ∉ t.place.toList) k hn
  exact ⟨K, by omega, h2, fun c hc => Classical.byContradiction fun z => h3 c hc z⟩
theorem TabG.ahead {t : SetTable} {hs : List Int} (T : TabG t hs) {h : Int} {K i j : Nat} (hK : way t.mask h K ∉ t.place.toList) (hi : hs[i]? = some h) (hj : t.place.toList[i]? = some j) : ∃ k, k < K ∧ way t.mask h k = j := by
  obtain ⟨k, e, hb⟩ := T.met i h j hi hj
  refine ⟨k, Nat.lt_of_not_le fun c => ?_, e⟩
  rcases Nat.lt_or_eq_of_le c with c | c
  · exact hK (hb K c)
  · rw [c, e] at hK
    exact hK (List.mem_of_getElem? hj)
theorem TabG.put {t : SetTable} {hs : List Int} (T : TabG t hs) {h : Int} {K : Nat} (hK : way t.mask h K ∉ t.place.toList) (hb : ∀ c, c < K → way t.mask h c ∈ t.place.toList) {p : Nat} (hp : p = SetTable.below t.place (way t.mask h K)) :
    (t.put (way t.mask h K)).2 = p ∧ p ≤ hs.length ∧ TabG (t.put (way t.mask h K)).1 (hs.take p ++ h :: hs.drop p) ∧ (t.put (way t.mask h K)).1.fill = hs.length + 1 := by
  subst hp
  have wl := way_in (m := t.mask) h K
  obtain ⟨cut, _, _⟩ := below_cut T.up (way t.mask h K)
  have l1 : SetTable.below t.place (way t.mask h K) ≤ t.place.toList.length := by rw [Array.length_toList]; exact cut
  have l2 : SetTable.below t.place (way t.mask h K) ≤ hs.length := by rw [← T.cnt]; exact cut
  have l3 : t.place.toList.length = hs.length := by rw [Array.length_toList, T.cnt]
  have pl := put_place t (way t.mask h K)
  have sz : (t.put (way t.mask h K)).1.place.size = hs.length + 1 := by rw [← Array.length_toList, pl, len_ins _ l1, l3]
  have more : ∀ {x : Nat}, x ∈ t.place.toList → x ∈ (t.put (way t.mask h K)).1.place.toList := fun m => by rw [pl]; exact mem_ins.2 (.inr m)
  have fr : t.place[SetTable.below t.place (way t.mask h K)]? ≠ some (way t.mask h K) := fun e => hK (List.mem_of_getElem? (by rw [Array.getElem?_toList]; exact e))
  refine ⟨rfl, l2, ⟨ris_insert T.up fr, put_dm T.nod _, by rw [len_ins _ l2]; exact sz, T.mok, fun x hx => ?_, fun i g j a b => ?_⟩, ?_⟩
  · rw [pl] at hx
    rcases mem_ins.1 hx with rfl | z
    · exact wl
    · exact T.le x z
  · rw [pl, tins_get _ l1] at b
    rw [tins_get hs l2] at a
    show ∃ k, way t.mask g k = j ∧ ∀ c, c < k → way t.mask g c ∈ (t.put (way t.mask h K)).1.place.toList
    rcases Nat.lt_trichotomy i (SetTable.below t.place (way t.mask h K)) with c | c | c
    · rw [if_pos c] at a b
      obtain ⟨k, e, z⟩ := T.met i g j a b
      exact ⟨k, e, fun c hc => more (z c hc)⟩
    · rw [if_neg (by omega), if_pos c] at a b
      cases a
      cases b
      exact ⟨K, rfl, fun c hc => more (hb c hc)⟩
    · rw [if_neg (by omega), if_neg (by omega)] at a b
      obtain ⟨k, e, z⟩ := T.met _ g j a b
      exact ⟨k, e, fun c hc => more (z c hc)⟩
  · unfold SetTable.fill
    rw [sz, put_dm T.nod]
    rfl

/-! ### laid anew -/
theorem free_at {m : Nat} (q : MOk m) (owner : Array (Option Nat)) (h : Int) {j : Nat} (hj : j ≤ m) (hf : oAt owner j = none) :
    ∃ K, SetTable.layClean.free m owner (SetTable.turns m) (SetTable.bits h % (m + 1)) (SetTable.bits h) = some (way m h K) ∧ oAt owner (way m h K) = none ∧ ∀ c, c < K → oAt owner (way m h c) ≠ none := by
  obtain ⟨n, hn, e⟩ := q.full h j hj
  have hw : way m h (off m (SetTable.bits h % (m + 1)) (SetTable.bits h) n) = j := by
    unfold way
    rw [nth_off, itL_run]
    exact e
  obtain ⟨K, k1, k2, k3⟩ := st_least (p := fun c => oAt owner (way m h c) = none) (off m (SetTable.bits h % (m + 1)) (SetTable.bits h) n) (hw.symm ▸ hf)
  refine ⟨K, free_spec m owner _ n _ _ K (by unfold SetTable.turns; omega) k1 (fun c hc => ?_) (Option.isNone_iff_eq_none.mpr k2), k2, k3⟩
  cases z : oAt owner (way m h c) with
  | none => exact absurd z (k3 c hc)
  | some v => rfl
theorem own_more {m : Nat} (q : MOk m) {done : List Int} {owner : Array (Option Nat)} (W : Own m done owner) (hl : done.length ≤ m) (h : Int) :
    ∃ j, SetTable.layClean.free m owner (SetTable.turns m) (SetTable.bits h % (m + 1)) (SetTable.bits h) = some j ∧ Own m (done ++ [h]) (owner.setIfInBounds j (some done.length)) := by
  obtain ⟨ps, hps, hin⟩ := W.ps
  obtain ⟨j0, h0, hn0⟩ := st_missing ps (m + 1) (by omega)
  have hj0 : oAt owner j0 = none := Classical.byContradiction fun z => hn0 (hin j0 (by omega) z)
  obtain ⟨K, e1, e2, e3⟩ := free_at q owner h (by omega) hj0
  have wl := way_in (m := m) h K
  have at0 := oAt_set_self (owner := owner) (some done.length) (show way m h K < owner.size by rw [W.sz]; omega)
  have oth : ∀ {i}, i ≠ way m h K → oAt (owner.setIfInBounds (way m h K) (some done.length)) i = oAt owner i := fun c => oAt_set_ne _ c
  have stays : ∀ {i : Nat}, oAt owner i ≠ none → oAt (owner.setIfInBounds (way m h K) (some done.length)) i ≠ none := fun {i} hi => by
    by_cases c : i = way m h K
    · rw [c, at0]
      simp
    · rw [oth c]
      exact hi
  refine ⟨_, e1, by rw [Array.size_setIfInBounds, W.sz], fun j k hj e => ?_, fun k hk => ?_, way m h K :: ps, by simp [hps], fun j hj e => ?_⟩
  · by_cases c : j = way m h K
    · rw [c, at0] at e
      cases e
      exact ⟨h, K, by simp, c.symm, fun c hc => stays (e3 c hc)⟩
    · rw [oth c] at e
      obtain ⟨g, G, a1, a2, a3⟩ := W.at_ j k hj e
      exact ⟨g, G, by rw [List.getElem?_append_left (List.getElem?_eq_some_iff.mp a1).1, a1], a2, fun c hc => stays (a3 c hc)⟩
  · rcases Nat.lt_or_eq_of_le (show k ≤ done.length by simp at hk; omega) with c | rfl
    · obtain ⟨j, hj, e⟩ := W.all k c
      exact ⟨j, hj, by rw [oth fun z => by rw [z, e2] at e; cases e]; exact e⟩
    · exact ⟨_, wl, at0⟩
  · by_cases c : j = way m h K
    · simp [c]
    · rw [oth c] at e
      exact List.mem_cons_of_mem _ (hin j hj e)
theorem own_all {m : Nat} (q : MOk m) : ∀ (rest done : List Int) (owner : Array (Option Nat)), Own m done owner → done.length + rest.length ≤ m →
    ∃ o', rest.foldl (stepF m) (some (owner, done.length)) = some (o', (done ++ rest).length) ∧ Own m (done ++ rest) o'
  | [], done, owner, W, _ => ⟨owner, by simp, by simpa using W⟩
  | h :: rest, done, owner, W, hl => by
    simp only [List.length_cons] at hl
    obtain ⟨j, e, W'⟩ := own_more q W (by omega) h
    obtain ⟨o', f, W2⟩ := own_all q rest (done ++ [h]) _ W' (by simp; omega)
    refine ⟨o', ?_, by simpa using W2⟩
    rw [List.foldl_cons, stepF_some e]
    simpa using f
theorem laid_all {m : Nat} (q : MOk m) {hs : Array Int} (hn : hs.size ≤ m) : ∃ owner, SetTable.layClean m hs = some owner ∧ Own m hs.toList owner := by
  obtain ⟨o', f, W⟩ := own_all q hs.toList [] _ (Own.init m) (by simpa using hn)
  exact ⟨o', by rw [layClean_eq, show (0 : Nat) = ([] : List Int).length from rfl, f]; rfl, by simpa using W⟩
theorem relaid_all (t : SetTable) {hs : Array Int} {wanted M : Nat} (hw : SetTable.sizeAbove wanted - 1 = M) (q : MOk M) (hn : hs.size ≤ M) :
    ∃ t' order, t.relaid hs wanted = some (t', order) ∧ order.toList.Perm (List.range hs.size) ∧ TabG t' (order.toList.map fun i => hs.getD i 0) ∧ t'.mask = M ∧ t'.led = t.led ∧ t'.plain = t.plain ∧ t'.dummies = #[] := by
  obtain ⟨owner, e, W⟩ := laid_all q hn
  have ris := ris_live (fun j => owner.getD j none) (List.range (M + 1)) (by unfold Ris; exact List.pairwise_lt_range)
  have r1 : Ris ((liveOf M owner).map (·.1)) := ris.1
  have nd : ((liveOf M owner).map (·.1)).Nodup := r1.imp Nat.ne_of_lt
  have cnt : (liveOf M owner).length = hs.size := by
    obtain ⟨ps, p1, p2⟩ := W.ps
    refine Nat.le_antisymm ?_ ?_
    · have z := nat_nodup_len ((liveOf M owner).map (·.1)) ps nd fun x hx => by
        obtain ⟨⟨y, k⟩, hq, rfl⟩ := List.mem_map.mp hx
        obtain ⟨b1, b2⟩ := (mem_live W.sz).1 hq
        exact p2 y b1 (by rw [b2]; simp)
      rwa [List.length_map, p1, Array.length_toList] at z
    · have z := nat_nodup_len (List.range hs.size) ((liveOf M owner).map (·.2)) List.nodup_range fun k hk => by
        obtain ⟨j, b1, b2⟩ := W.all k (by simpa using hk)
        exact List.mem_map.mpr ⟨(j, k), (mem_live W.sz).2 ⟨b1, b2⟩, rfl⟩
      rwa [List.length_map, List.length_range] at z
  refine ⟨tabOf t M owner, ((liveOf M owner).map (·.2)).toArray, by rw [relaid_eq, hw, e]; rfl, ?_, ⟨r1, rfl, ?_, q, fun x hx => ?_, fun i g j a b => ?_⟩, rfl, rfl, rfl, rfl⟩
  · refine perm_range _ _ (by show ((liveOf M owner).map (·.2)).length = _; rw [List.length_map, cnt]) fun k hk => ?_
    obtain ⟨j, b1, b2⟩ := W.all k (by simpa using hk)
    exact List.mem_map.mpr ⟨(j, k), (mem_live W.sz).2 ⟨b1, b2⟩, rfl⟩
  · show ((liveOf M owner).map (·.1)).toArray.size = (((liveOf M owner).map (·.2)).map fun i => hs.getD i 0).length
    simp
  · obtain ⟨⟨y, k⟩, hq, rfl⟩ := List.mem_map.mp (show x ∈ (liveOf M owner).map (·.1) from hx)
    exact ((mem_live W.sz).1 hq).1
  · have a' : (((liveOf M owner).map (·.2)).map fun i => hs.getD i 0)[i]? = some g := a
    have b' : ((liveOf M owner).map (·.1))[i]? = some j := b
    simp only [List.getElem?_map, Option.map_map, Option.map_eq_some_iff] at a' b'
    obtain ⟨⟨y, k⟩, hq, ea⟩ := a'
    obtain ⟨z, hz, eb⟩ := b'
    rw [hq] at hz
    cases hz
    subst eb
    obtain ⟨b1, b2⟩ := (mem_live W.sz).1 (List.mem_of_getElem? hq)
    obtain ⟨h0, K, a1, a2, a3⟩ := W.at_ y k b1 b2
    have e0 : hs.getD k 0 = h0 := by
      rw [Array.getD_eq_getD_getElem?, ← Array.getElem?_toList, a1]
      rfl
    obtain rfl : h0 = g := e0.symm.trans ea
    refine ⟨K, a2, fun c hc => ?_⟩
    show way M h0 c ∈ (liveOf M owner).map (·.1)
    cases z : oAt owner (way M h0 c) with
    | none => exact absurd z (a3 c hc)
    | some k2 => exact List.mem_map.mpr ⟨(way M h0 c, k2), (mem_live W.sz).2 ⟨way_in h0 c, z⟩, rfl⟩
theorem grow_307 : SetTable.sizeAbove (SetTable.grown 307) = 2048 := by decide +kernel
theorem grow_1229 : SetTable.sizeAbove (SetTable.grown 1229) = 8192 := by decide +kernel
theorem grow_77 : SetTable.sizeAbove (SetTable.grown 77) = 512 := by decide +kernel
/-! ### a set of tuples of ints, in such a table -/
def Mk6 (m : Nat) : Prop := m = 7 ∨ m = 31 ∨ m = 127 ∨ m = 511 ∨ m = 2047 ∨ m = 8191
theorem Mk6.mok {m : Nat} (q : Mk6 m) : MOk m := by
  rcases q with h | h | h | h | h | h
  · exact mok_of (.inl h)
  · exact mok_of (.inr (.inl h))
  · exact mok_of (.inr (.inr h))
  · rw [h]; exact mok_511
  · rw [h]; exact mok_2047
  · rw [h]; exact mok_8191
theorem grow_next {m n : Nat} (q : Mk6 m) (room : n * 5 < m * 3) (full : (n + 1) * 5 ≥ m * 3) (few : n + 1 < 4915) :
    ∃ M, SetTable.sizeAbove (SetTable.grown (n + 1)) - 1 = M ∧ Mk6 M ∧ SetTable.sizeAbove (SetTable.grown (n + 1)) ≤ 8192 ∧ (n + 1) * 5 < M * 3 ∧ n + 1 ≤ m := by
  rcases q with h | h | h | h | h | h <;> subst h
  · obtain rfl : n = 4 := by omega
    exact ⟨31, by rw [size_20], .inr (.inl rfl), by rw [size_20]; decide, by decide, by decide⟩
  · obtain rfl : n = 18 := by omega
    exact ⟨127, by rw [size_76], .inr (.inr (.inl rfl)), by rw [size_76]; decide, by decide, by decide⟩
  · obtain rfl : n = 76 := by omega
    exact ⟨511, by rw [grow_77], .inr (.inr (.inr (.inl rfl))), by rw [grow_77]; decide, by decide, by decide⟩
  · obtain rfl : n = 306 := by omega
    exact ⟨2047, by rw [grow_307], .inr (.inr (.inr (.inr (.inl rfl)))), by rw [grow_307]; decide, by decide, by decide⟩
  · obtain rfl : n = 1228 := by omega
    exact ⟨8191, by rw [grow_1229], .inr (.inr (.inr (.inr (.inr rfl)))), by rw [grow_1229]; decide, by decide, by decide⟩
  · omega
structure SetG (P : Program) (w : World) (h : Heap) (a : Addr) (L : List (Addr × List Int)) (es : Array (Int × Value)) (ep : Nat) (t : SetTable) : Prop where
  obj : ∃ u, h.get? a = some u ∧ u.ExactSet ∧ u.data = .set es ep t
  rws : es.toList = rowsOf P w L
  tb : TabG t (L.map fun p => thash P w p.2)
  once : (L.map (·.2)).Nodup
  tups : ∀ p ∈ L, IsT P w h p.2 p.1
  pla : t.plain = true
  ledd : w.params.followText "set-order" = true ∨ t.led = true
  rm : L.length * 5 < t.mask * 3
  few : L.length < 4915
  m6 : Mk6 t.mask
section
variable {P : Program} {w : World} {A : Around} {E : Value → Shared → Prop} {s : Shared} {a : Addr} {L : List (Addr × List Int)} {es : Array (Int × Value)} {ep : Nat} {t : SetTable}
theorem rows_size (h : es.toList = rowsOf P w L) : es.size = L.length := by
  rw [← Array.length_toList, h]
  simp [rowsOf]
theorem SetG.size {h : Heap} (R : SetG P w h a L es ep t) : es.size = L.length := rows_size R.rws
theorem SetG.cnt {h : Heap} (R : SetG P w h a L es ep t) : t.place.toList.length = L.length := by rw [Array.length_toList, R.tb.cnt, List.length_map]
theorem fits_by (h1 : t.place.size = es.size) (h2 : t.dummies = #[]) (h3 : es.size ≤ t.mask) : t.fits es.size = true := by
  unfold SetTable.fits SetTable.fill
  simp [h1, h2, h3]
theorem SetG.fits {h : Heap} (R : SetG P w h a L es ep t) : t.fits es.size = true := by
  have e := R.size
  have c := R.rm
  exact fits_by (by rw [R.tb.cnt, List.length_map, e]) R.tb.nod (by omega)
theorem SetG.row {h : Heap} (R : SetG P w h a L es ep t) {i : Nat} {p : Addr × List Int} (hp : L[i]? = some p) : es[i]? = some (thash P w p.2, Value.ref p.1) := by
  rw [← Array.getElem?_toList, R.rws]
  unfold rowsOf
  simp [hp]
theorem SetG.keeps {h : Heap} (R : SetG P w h a L es ep t) : ¬ t.gaveWay = true := by
  unfold SetTable.gaveWay
  rw [R.m6.mok.odd]
  decide
theorem nth_nod (m : Nat) : ∀ (n : Nat) (p : SetTable.Probe), p.dummy = none → (nth m p n).dummy = none
  | 0, _, h => h
  | n + 1, p, h => nth_nod m n (adv m p) (by unfold adv; split <;> exact h)
/-- the search, from the c-th slot of the way on -/
theorem find_from (R : SetG P w s.heap a L es ep t) {x : Addr} {k : List Int} (hx : IsT P w s.heap k x) (hu : A.units < cLine) {K : Nat} (hKf : K < 10 * SetTable.turns t.mask)
    (hK : way t.mask (thash P w k) K ∉ t.place.toList) (hKb : ∀ c, c < K → way t.mask (thash P w k) c ∈ t.place.toList) {Q : SetFound → Shared → Prop}
    (yes : k ∈ L.map (·.2) → Q (.there none) s) (no : k ∉ L.map (·.2) → Q (.free (way t.mask (thash P w k) K) false) s) :
    ∀ (f c : Nat) (stand : Option SetTable.Probe), stand.getD (t.probeStart (thash P w k)) = nth t.mask (t.probeStart (thash P w k)) c → c ≤ K → K - c < f →
      (∀ (i : Nat) p, L[i]? = some p → p.2 = k → ∃ b, c ≤ b ∧ b < K ∧ t.place.toList[i]? = some (way t.mask (thash P w k) b)) →
      wpAny (model P w) A (setSearchFrom a (.ref x) (thash P w k) true f stand) Q E s
  | 0, _, _, _, _, z, _ => absurd z (Nat.not_lt_zero _)
  | f + 1, c, stand, hst, hc, hf, hre => by
    obtain ⟨u, hu1, hu2, hu3⟩ := R.obj
    have at_ : ∀ q, nth t.mask (nth t.mask (t.probeStart (thash P w k)) c) q = nth t.mask (t.probeStart (thash P w k)) (c + q) := fun q => (nth_add t.mask c _ q).symm
    have jt : ∀ q, (nth t.mask (nth t.mask (t.probeStart (thash P w k)) c) q).j = way t.mask (thash P w k) (c + q) := fun q => by rw [at_]; rfl
    have cK : c + (K - c) = K := by omega
    have spec := go_spec t R.tb.up R.tb.nod (fun i => (es[i]?.map (·.1)).getD 0) (thash P w k) (10 * SetTable.turns t.mask) (K - c) (nth t.mask (t.probeStart (thash P w k)) c) (nth_nod _ c _ rfl) (by omega)
      (fun q hq => by rw [jt]; exact hKb _ (by omega)) (by rw [jt, cK]; exact hK)
    have hashOf : ∀ (i : Nat) p, L[i]? = some p → (es[i]?.map (·.1)).getD 0 = thash P w p.2 := fun i p hp => by rw [R.row hp]; rfl
    rw [setSearchFrom_succ]
    refine wpAny_bind (wpAny_setState_of hu1 hu3 R.fits ?_)
    dsimp only
    refine wp_if_neg R.keeps ?_
    try refine wpAny_bind (wpAny_pure ?_)
    rw [hst]
    rcases spec with ⟨q, i, hq, hi, hh, hno, hpr⟩ | ⟨hno, hpr⟩
    · rw [show t.probe (fun i => (es[i]?.map (·.1)).getD 0) (thash P w k) (nth t.mask (t.probeStart (thash P w k)) c) = _ from hpr]
      dsimp only
      rw [jt] at hi ⊢
      rw [at_]
      obtain ⟨p, hp⟩ : ∃ p, L[i]? = some p := ⟨_, List.getElem?_eq_getElem (by rw [← R.cnt]; exact (List.getElem?_eq_some_iff.mp hi).1)⟩
      have pm := List.mem_of_getElem? hp
      have sl : t.slot (way t.mask (thash P w k) (c + q)) = .live i := slot_live R.tb.up hi
      have go : wpAny (model P w) A (searchRest a (.ref x) (thash P w k) true f es t (way t.mask (thash P w k) (c + q)) i (nth t.mask (t.probeStart (thash P w k)) (c + (q + 1)))) Q E s := by
        unfold searchRest
        rw [R.row hp]
        dsimp only
        refine wpAny_bind (wpAny_holding (wpAny_eqBool_tuple hu (R.tups p pm) hx ?_))
        refine wpAny_bind (wpAny_setState_of hu1 hu3 R.fits ?_)
        dsimp only
        by_cases same : p.2 = k
        · exact wp_if_pos (by simp [same]) (wpAny_pure (yes (List.mem_map.mpr ⟨p, pm, same⟩)))
        · refine wp_if_neg (by simp [same]) ?_
          try refine wpAny_bind (wpAny_pure ?_)
          rw [sameMem]
          simp only [if_true, sl, R.row hp]
          refine wpAny_bind (wpAny_isSame_ref_self (wpAny_bind (wpAny_pure ?_)))
          simp only [if_true]
          refine wp_if_neg (by simp [same]) (find_from R hx hu hKf hK hKb yes no f (c + (q + 1)) _ rfl (by omega) (by omega) fun i0 p0 h0 hk0 => ?_)
          obtain ⟨b, b1, b2, b3⟩ := hre i0 p0 h0 hk0
          refine ⟨b, ?_, b2, b3⟩
          rcases Nat.lt_trichotomy b (c + q) with z | z | z
          · refine absurd ((hashOf i0 p0 h0).trans (congrArg (thash P w) hk0)) (hno (b - c) i0 (by omega) ?_)
            rw [jt, show c + (b - c) = b by omega]
            exact b3
          · rw [z] at b3
            have e := slot_live R.tb.up b3
            rw [sl] at e
            cases e
            rw [hp] at h0
            cases h0
            exact absurd hk0 same
          · omega
      by_cases ld : t.led = true
      · refine wp_if_neg (by simp [ld]) ?_
        try refine wpAny_bind (wpAny_pure ?_)
        exact go
      · refine wp_if_pos (by simp [ld]) (wpAny_bind (seen_tup hx (fun y hy => ?_) ?_))
        · obtain ⟨r, hr, rfl⟩ := List.mem_map.mp hy
          have hr2 : r ∈ es.toList := by
            have := (Array.mem_filter.mp (Array.mem_toList_iff.mp hr)).1
            exact Array.mem_toList_iff.mpr this
          rw [R.rws] at hr2
          obtain ⟨p2, hp2, rfl⟩ := List.mem_map.mp hr2
          exact ⟨p2.2, p2.1, rfl, R.tups p2 hp2⟩
        · refine wp_if_neg (by decide) ?_
          try refine wpAny_bind (wpAny_pure ?_)
          exact go
    · rw [show t.probe (fun i => (es[i]?.map (·.1)).getD 0) (thash P w k) (nth t.mask (t.probeStart (thash P w k)) c) = _ from hpr]
      dsimp only
      rw [jt, cK]
      refine wpAny_pure (no fun hm => ?_)
      obtain ⟨p0, h0, hk0⟩ := List.mem_map.mp hm
      obtain ⟨i0, h00⟩ := List.mem_iff_getElem?.mp h0
      obtain ⟨b, b1, b2, b3⟩ := hre i0 p0 h00 hk0
      refine hno (b - c) i0 (by omega) ?_ ((hashOf i0 p0 h00).trans (congrArg (thash P w) hk0))
      rw [jt, show c + (b - c) = b by omega]
      exact b3
theorem find_at (R : SetG P w s.heap a L es ep t) {x : Addr} {k : List Int} (hx : IsT P w s.heap k x) (hu : A.units < cLine) {Q : SetFound → Shared → Prop}
    (yes : k ∈ L.map (·.2) → Q (.there none) s)
    (no : ∀ K, k ∉ L.map (·.2) → way t.mask (thash P w k) K ∉ t.place.toList → (∀ c, c < K → way t.mask (thash P w k) c ∈ t.place.toList) → Q (.free (way t.mask (thash P w k) K) false) s) :
    wpAny (model P w) A (setSearch a (.ref x) (thash P w k) true) Q E s := by
  have c := R.rm
  have few := R.m6.mok.few
  obtain ⟨K, hKf, hK, hKb⟩ := R.tb.first (by rw [List.length_map]; omega) (thash P w k)
  have big : K < 100000 := by
    unfold SetTable.turns at hKf
    omega
  refine find_from R hx hu hKf hK hKb yes (fun n => no K n hK hKb) 100000 0 none rfl (Nat.zero_le _) (by omega) fun i p hp e => ?_
  obtain ⟨j, hj⟩ : ∃ j, t.place.toList[i]? = some j := ⟨_, List.getElem?_eq_getElem (by rw [R.cnt]; exact (List.getElem?_eq_some_iff.mp hp).1)⟩
  obtain ⟨b, hb, eb⟩ := R.tb.ahead hK (h := thash P w k) (i := i) (by rw [List.getElem?_map, hp, ← e]; rfl) hj
  exact ⟨b, Nat.zero_le _, hb, by rw [hj, eb]⟩
theorem relay_all {o : Obj} (ho : s.heap.get? a = some o) (hex : o.ExactSet) (hd : o.data = .set es ep t) (hr : es.toList = rowsOf P w L) (hsz : t.place.size = es.size) (hdm : t.dummies = #[]) (hfl : es.size ≤ t.mask)
    (nd : (L.map (·.2)).Nodup) (tp : ∀ p ∈ L, IsT P w s.heap p.2 p.1) (pl : t.plain = true) (ld : w.params.followText "set-order" = true ∨ t.led = true) (few : L.length < 4915) {wanted M : Nat}
    (hw : SetTable.sizeAbove wanted - 1 = M) (hM : Mk6 M) (hw2 : SetTable.sizeAbove wanted ≤ 8192) (hn : L.length * 5 < M * 3) {Q : Unit → Shared → Prop}
    (hQ : ∀ h' L' es' ep' t', Heap.SameBut a s.heap h' → SetG P w h' a L' es' ep' t' → L'.Perm L → Q () { s with heap := h' }) : wpAny (model P w) A (setRelay a wanted) Q E s := by
  have sl := rows_size hr
  obtain ⟨t', order, e, hp, T, em, el, epl, ed⟩ := relaid_all t (hs := es.map (·.1)) hw hM.mok (by rw [Array.size_map, sl]; omega)
  rw [Array.size_map, sl] at hp
  obtain ⟨L2, r1, r2, r3⟩ := order_rows L es order hr hp
  rw [← r3] at T
  have s2 : (order.filterMap (es[·]?)).size = es.size := (rows_size r1).trans (r2.length_eq.trans sl.symm)
  rw [setRelay_eq]
  refine wpAny_bind (wpAny_setState_of ho hd (fits_by hsz hdm hfl) ?_)
  dsimp only
  refine wp_if_neg (by rw [sizeLine_eq]; omega) ?_
  try refine wpAny_bind (wpAny_pure ?_)
  rw [e]
  refine wpAny_bind (wp_if_neg (by rw [s2]; simp) ?_)
  try refine wpAny_bind (wpAny_pure ?_)
  refine wpAny_pure (wpAny_storeSet_of ho hd ?_ (by rw [s2, sl, sizeLine_eq]; omega))
  have sb : Heap.SameBut a s.heap (s.heap.update a (Obj.putSet (order.filterMap (es[·]?)) t')) := Heap.SameBut.update ..
  exact hQ _ L2 _ (ep + 1) t' sb ⟨⟨_, store_at ho hd, ⟨hex.1, hex.2.1, hex.2.2⟩, rfl⟩, r1, T, (r2.map (·.2)).nodup_iff.mpr nd, fun p pm => isT_same (tp p (r2.mem_iff.mp pm)) ho hd sb, by rw [epl]; exact pl, by rw [el]; exact ld,
    by rw [r2.length_eq, em]; exact hn, by rw [r2.length_eq]; exact few, by rw [em]; exact hM⟩ r2
/-- a tuple is added -/
theorem add_one (R : SetG P w s.heap a L es ep t) {x : Addr} {k : List Int} (hx : IsT P w s.heap k x) (hu : A.units < cLine) (fw : k ∉ L.map (·.2) → L.length + 1 < 4915) {Q : Bool → Shared → Prop}
    (hQ : ∀ b h' L' es' ep' t', Heap.SameBut a s.heap h' → SetG P w h' a L' es' ep' t' → (k ∈ L.map (·.2) → L' = L) → (k ∉ L.map (·.2) → L'.Perm ((x, k) :: L)) → Q b { s with heap := h' }) :
    wpAny (model P w) A (setAddHashed a (.ref x) (thash P w k)) Q E s := by
  obtain ⟨o, ho, hex, hd⟩ := R.obj
  have sl := R.size
  have rm := R.rm
  unfold setAddHashed
  refine wpAny_holding ?_
  rw [show (100000 : Nat) = 99999 + 1 from rfl, setAddHashedIn_succ]
  refine wpAny_bind (wpAny_setState_of ho hd R.fits ?_)
  dsimp only
  refine wp_if_neg (by simp [byScan, Value.scannable]) ?_
  try refine wpAny_bind (wpAny_pure ?_)
  refine wpAny_bind (find_at R hx hu (fun hm => wpAny_pure (hQ false s.heap L es ep t (Heap.SameBut.refl a s.heap) R (fun _ => rfl) fun z => absurd hm z)) fun K hm hK hb => ?_)
  have fw := fw hm
  dsimp only
  refine wpAny_bind (wpAny_setState_of ho hd R.fits ?_)
  dsimp only
  obtain ⟨q1, q2, q3, q9⟩ := R.tb.put hK hb rfl
  have q4 : (t.put (way t.mask (thash P w k) K)).1.mask = t.mask := rfl
  have q5 : (t.put (way t.mask (thash P w k) K)).1.led = t.led := rfl
  have q6 : (t.put (way t.mask (thash P w k) K)).1.plain = true := R.pla
  generalize hpt : t.put (way t.mask (thash P w k) K) = pt at q1 q3 q4 q5 q6 q9 ⊢
  generalize SetTable.below t.place (way t.mask (thash P w k) K) = p at q1 q2 q3
  obtain ⟨t1, p'⟩ := pt
  dsimp only at q1 q3 q4 q5 q6 q9 ⊢
  subst q1
  first
    | refine wpAny_bind (wp_if_pos q6 (hashBy_tup hx ?_))
    | refine wp_if_pos q6 (wpAny_bind (hashBy_tup hx ?_))
  simp only [if_true]
  have hin : (SetTable.insertAt es p' (thash P w k, Value.ref x)).toList = rowsOf P w (L.take p' ++ (x, k) :: L.drop p') := by rw [SetTable.toList_insertAt, rows_put, R.rws]
  have pm := put_perm L p' (x, k)
  have ln : (L.take p' ++ (x, k) :: L.drop p').length = L.length + 1 := pm.length_eq
  have q3' : TabG t1 ((L.take p' ++ (x, k) :: L.drop p').map fun p => thash P w p.2) := by
    rw [List.map_append, List.map_cons, List.map_take, List.map_drop]
    exact q3
  have nd1 : ((L.take p' ++ (x, k) :: L.drop p').map (·.2)).Nodup := (pm.map (·.2)).nodup_iff.mpr (by rw [List.map_cons]; exact List.nodup_cons.mpr ⟨hm, R.once⟩)
  have es1s : (SetTable.insertAt es p' (thash P w k, Value.ref x)).size = L.length + 1 := (rows_size hin).trans ln
  generalize SetTable.insertAt es p' (thash P w k, Value.ref x) = es1 at hin es1s ⊢
  generalize L.take p' ++ (x, k) :: L.drop p' = L1 at pm ln q3' nd1 hin
  refine wpAny_bind (wpAny_storeSet_of ho hd ?_ (by rw [es1s, sizeLine_eq]; omega))
  have sb : Heap.SameBut a s.heap (s.heap.update a (Obj.putSet es1 t1)) := Heap.SameBut.update ..
  have ho1 := store_at (es' := es1) (t' := t1) ho hd
  generalize s.heap.update a (Obj.putSet es1 t1) = h1 at sb ho1 ⊢
  have tp1 : ∀ p ∈ L1, IsT P w h1 p.2 p.1 := fun p hp => by
    rcases List.mem_cons.mp (pm.mem_iff.mp hp) with rfl | hp
    · exact isT_same hx ho hd sb
    · exact isT_same (R.tups p hp) ho hd sb
  have ld1 : w.params.followText "set-order" = true ∨ t1.led = true := by rw [q5]; exact R.ledd
  have m61 : Mk6 t1.mask := by rw [q4]; exact R.m6
  rw [List.length_map] at q9
  by_cases hf : t1.tooFull = true
  · have full : (L.length + 1) * 5 ≥ t.mask * 3 := by
      unfold SetTable.tooFull at hf
      rw [decide_eq_true_eq, q9, q4] at hf
      exact hf
    obtain ⟨M, g1, g2, g3, g4, g5⟩ := grow_next R.m6 rm full fw
    rw [sl]
    have pl1 : t1.place.size = es1.size := by rw [q3'.cnt, List.length_map, ln, es1s]
    have go : wpAny (model P w) A (setRelay a (SetTable.grown (L.length + 1))) (fun _ s' => wpAny (model P w) A (pure true) Q E s') E { s with heap := h1 } :=
      relay_all (s := { s with heap := h1 }) ho1 ⟨hex.1, hex.2.1, hex.2.2⟩ rfl hin pl1 q3'.nod (by rw [es1s, q4]; exact g5) nd1 tp1 q6 ld1 (by rw [ln]; exact fw) g1 g2 g3 (by rw [ln]; exact g4)
        fun h2 L2 es2 ep2 t2 sb2 R2 pm2 => wpAny_pure (hQ true h2 L2 es2 ep2 t2 (sb.trans sb2) R2 (fun z => absurd z hm) fun _ => pm2.trans pm)
    first
      | exact wpAny_bind (wp_if_pos (by simp [hf]) go)
      | exact wp_if_pos (by simp [hf]) (wpAny_bind go)
  · have rm1 : L1.length * 5 < t1.mask * 3 := by
      unfold SetTable.tooFull at hf
      rw [decide_eq_true_eq, q9] at hf
      rw [ln]
      omega
    have done : wpAny (model P w) A (pure true) Q E { s with heap := h1 } :=
      wpAny_pure (hQ true h1 L1 es1 (ep + 1) t1 sb ⟨⟨_, ho1, ⟨hex.1, hex.2.1, hex.2.2⟩, rfl⟩, hin, q3', nd1, tp1, q6, ld1, rm1, by rw [ln]; exact fw, m61⟩ (fun z => absurd z hm) fun _ => pm)
    first
      | exact wp_if_neg (by simp [hf]) done
      | exact wpAny_bind (wp_if_neg (by simp [hf]) (wpAny_pure done))
end
/-! ### set(xs), xs a list of tuples of ints of any length; U: keys that they are among -/
theorem len_among {α : Type} [DecidableEq α] : ∀ (l D : List α), l.Nodup → (∀ x ∈ l, x ∈ D) → l.length ≤ D.length
  | [], _, _, _ => Nat.zero_le _
  | x :: l, D, nd, h => by
    obtain ⟨hx, nd'⟩ := List.nodup_cons.mp nd
    have hD := h x List.mem_cons_self
    have z := len_among l (D.erase x) nd' fun y hy => (List.mem_erase_of_ne (fun e => hx (by rw [← e]; exact hy))).2 (h y (List.mem_cons_of_mem _ hy))
    rw [List.length_erase_of_mem hD] at z
    have := List.length_pos_of_mem hD
    rw [List.length_cons]
    omega
abbrev newSetO (w : World) : Obj := { cls := .type "set", dict := none, data := .set #[] 0 (.fresh 0 0 (!w.params.followText "set-order")) }
section
variable {P : Program} {w : World} {A : Around} {E : Value → Shared → Prop} {s : Shared}
theorem SetG.moved {h h' : Heap} {a : Addr} {L : List (Addr × List Int)} {es : Array (Int × Value)} {ep : Nat} {t : SetTable} (R : SetG P w h a L es ep t) (ha : ∀ o, h.get? a = some o → h'.get? a = some o) (ht : ∀ p ∈ L, IsT P w h' p.2 p.1) : SetG P w h' a L es ep t :=
  { R with
    obj := let ⟨u, hu, r⟩ := R.obj
      ⟨u, ha u hu, r⟩
    tups := ht }
theorem setG_new {h : Heap} {a : Addr} (ho : h.get? a = some (newSetO w)) : SetG P w h a [] #[] 0 (.fresh 0 0 (!w.params.followText "set-order")) where
  obj := ⟨_, ho, ⟨rfl, rfl, rfl⟩, rfl⟩
  rws := rfl
  tb := ⟨List.Pairwise.nil, rfl, rfl, mok_of (.inl rfl), fun x hx => (nomatch hx), fun i h j hi => (nomatch hi)⟩
  once := List.nodup_nil
  tups := fun p hp => nomatch hp
  pla := rfl
  ledd := by
    cases e : w.params.followText "set-order"
    · exact .inr rfl
    · exact .inl rfl
  rm := by show 0 < 21; decide
  few := by show 0 < 4915; decide
  m6 := .inl rfl
theorem update_all {I : Addr} {fp wr : List Addr} {G : Array GenState → Array GenState → Prop} {n : Nat} {Pv : Nat → Value → Prop} {St : Nat → Shared → Prop} {R : Result → Shared → Prop}
    (W : WalksS P w A.in1 I fp wr G n Pv St) (S : Addr) (hSf : S ∉ fp) (ks : List (Addr × List Int)) (U : List (List Int)) (hn : n = ks.length) (hU : U.length < 4915) (inU : ∀ p ∈ ks, p.2 ∈ U) (hval : ∀ i v, Pv i v → ∃ p, ks[i]? = some p ∧ v = .ref p.1)
    (b0 : Heap) (hk : ∀ p ∈ ks, IsT P w b0 p.2 p.1) (hS0 : b0.get? S = none) (hw0 : ∀ b ∈ wr, b0.get? b = none) (hu : A.in1.units < cLine) :
    ∀ (k i : Nat) (s : Shared), n - i = k → i ≤ n → St i s → (∀ b o, b0.get? b = some o → s.heap.get? b = some o) → (∃ L es ep t, SetG P w s.heap S L es ep t ∧ Got ks i L) →
      (∀ s' L es ep t, Moved (S :: wr) G s s' → SetG P w s'.heap S L es ep t → Got ks n L → (∀ b o, b0.get? b = some o → s'.heap.get? b = some o) → R (.ok (.ret .none)) s') →
      codeAny (model P w) A (.builtin "set.update.loop" ⟨[.ref S, .ref I], []⟩) R s := by
  have apart : S ∉ wr := fun h => hSf (W.sub _ h)
  have wide : ∀ b ∈ wr, b ∈ S :: wr := fun b hb => List.mem_cons_of_mem _ hb
  have stay : ∀ {s s' : Shared}, Moved wr G s s' → (∀ b o, b0.get? b = some o → s.heap.get? b = some o) → ∀ b o, b0.get? b = some o → s'.heap.get? b = some o := fun mv kp b o e =>
    mv.heap b o (fun hb => by rw [hw0 b hb] at e; cases e) (kp b o e)
  have amongL : ∀ {i L}, Got ks i L → ∀ p ∈ L, p ∈ ks := fun g p hp => List.mem_of_mem_take (g.sub p hp)
  intro k
  induction k with
  | zero =>
    intro i s hi0 hi hst kp ⟨L, es, ep, t, hS, g⟩ hR
    obtain rfl : i = n := by omega
    refine codeAny_builtin F.entry_set_update_loop ?_
    rw [Around.under_plainId F.plain_set_update_loop _]
    refine wpAny_bind (W.done s _ _ hst fun s' mv => ?_)
    have kp' := stay mv kp
    exact wpAny_pure (hR s' L es ep t (mv.mono wide) (hS.moved (fun o e => mv.heap S o apart e) fun p hp => isT_keep (hk p (amongL g p hp)) kp') g kp')
  | succ k ih =>
    intro i s hi0 hi hst kp ⟨L, es, ep, t, hS, g⟩ hR
    have lt : i < n := by omega
    refine codeAny_builtin F.entry_set_update_loop ?_
    rw [Around.under_plainId F.plain_set_update_loop _]
    refine wpAny_bind (W.item i s _ _ lt hst fun v s' hP hst' mv => ?_)
    obtain ⟨p, hp, rfl⟩ := hval i v hP
    have pk := List.mem_of_getElem? hp
    have kp' := stay mv kp
    have hS' : SetG P w s'.heap S L es ep t := hS.moved (fun o e => mv.heap S o apart e) fun q hq => isT_keep (hk q (amongL g q hq)) kp'
    have hx : IsT P w s'.heap p.2 p.1 := isT_keep (hk p pk) kp'
    have room : p.2 ∉ L.map (·.2) → L.length + 1 < 4915 := fun nm => by
      have z := len_among (p.2 :: L.map (·.2)) U (List.nodup_cons.mpr ⟨nm, hS.once⟩) fun y hy => by
        rcases List.mem_cons.mp hy with rfl | hy
        · exact inU p pk
        · obtain ⟨r, hr, rfl⟩ := List.mem_map.mp hy
          exact inU r (amongL g r hr)
      rw [List.length_cons, List.length_map] at z
      omega
    show wpAny _ A.in1 (holding [Value.ref p.1] (setAdd S (.ref p.1)) >>= _) _ _ s'
    refine wpAny_bind (wpAny_holding ?_)
    unfold setAdd
    refine wpAny_holding (wpAny_bind (wpAny_pyHash_tuple hu hx ?_))
    refine add_one (s := { s' with toks := s'.toks + (p.2.length + 1) }) hS' hx hu room fun b h' L' es' ep' t' sb hS2 c1 c2 => ?_
    have g' : Got ks (i + 1) L' := by
      by_cases c : p.2 ∈ L.map (·.2)
      · rw [c1 c]
        exact g.same hp c
      · exact g.more hp (c2 c)
    have kp2 : ∀ b o, b0.get? b = some o → h'.get? b = some o := fun b o e => (sb.2 b (fun z => by rw [z, hS0] at e; cases e)).trans (kp' b o e)
    refine wpAny_pure ⟨plainId_quiet F.plain_set_update_loop _, ih (i + 1) _ (by omega) lt (W.frame _ s' _ _ hst' (Nat.le_add_right _ _) fun b hb o e => ?_) kp2 ⟨L', es', ep', t', hS2, g'⟩ fun s2 L2 es2 ep2 t2 mv2 hS3 g3 kp3 => ?_⟩
    · exact (sb.2 b (fun z : b = S => hSf (z ▸ hb))).trans e
    · exact hR s2 L2 es2 ep2 t2 (Moved.trans W.gtrans ((mv.mono wide).then_heap (Nat.le_add_right _ _) fun b o hb e => (sb.2 b (fun z : b = S => hb (z ▸ List.mem_cons_self))).trans e) mv2) hS3 g3 kp3
set_option maxHeartbeats 8000000 in
theorem call_setG {l : Addr} {items : Array Value} (ks : List (Addr × List Int)) (U : List (List Int)) {Q : Value → Shared → Prop} (hh : A.handled = none) (hl : s.heap.IsList l items) (hit : items.toList = ks.map fun p => Value.ref p.1)
    (hk : ∀ p ∈ ks, IsT P w s.heap p.2 p.1) (hU : U.length < 4915) (inU : ∀ p ∈ ks, p.2 ∈ U) (hu : A.units + 3 < cLine)
    (h : ∀ (h' : Heap) (tk : Nat) L es ep t, SetG P w h' s.heap.objs.size L es ep t → Got ks ks.length L → (∀ b o, s.heap.get? b = some o → h'.get? b = some o) → Q (.ref s.heap.objs.size) { s with heap := h', toks := tk }) :
    wpAny (model P w) A (call (.type "set") [.ref l]) Q E s := by
  have isz : items.size = ks.length := by rw [← Array.length_toList, hit, List.length_map]
  obtain ⟨c, tl, hmro⟩ := F.called_set.mro
  have hmade := F.called_set.made
  have hsub := F.called_set.sub
  have t1 := F.called_set.notType
  have t2 := F.called_set.canCreate
  have t3 := F.typeCall_set_1 (.ref l)
  refine wpAny_call (codeAny_of_tree (show wpAny _ _ (callAny (.type "set") _) _ _ _ from wpAny_pure ⟨Code.quiet_builtin _ (by decide +kernel), codeAny_builtin F.entry_type_call ?_⟩))
  rw [Around.under_plain (weight_type_call_type "set" [.ref l] []) rfl]
  repeat (any_goals (first | assumption | wp_step))
  refine codeAny_mono (code_set_led1 (.ref l) (E := E) (Q₁ := fun obj s₁ => obj = .ref s.heap.objs.size ∧ s₁ = { s with heap := s.heap.push (newSetO w) }) ⟨rfl, rfl⟩) fun r s₁ hr => ?_
  match r, hr with
  | .error e, hr => exact hr
  | .ok .next, hr => exact hr.elim
  | .ok .brk, hr => exact hr.elim
  | .ok .cont, hr => exact hr.elim
  | .ok (.ret obj), hr =>
    obtain ⟨rfl, rfl⟩ := hr
    have hS : (s.heap.push (newSetO w)).get? s.heap.objs.size = some (newSetO w) := Heap.get?_push_size _ rfl
    have hT : Shared.TypeIs { s with heap := s.heap.push (newSetO w) } (.ref s.heap.objs.size) "set" := ⟨_, hS, rfl⟩
    have i1 := F.called_set.init.lookup
    have i2 := F.called_set.init.bind (.ref s.heap.objs.size)
    repeat (any_goals (first | assumption | wp_step))
    refine codeAny_mono (codeAny_call_builtin (R := wants (fun r s₂ => r = .none ∧ ∃ h' tk L es ep t, s₂ = { s with heap := h', toks := tk } ∧ SetG P w h' s.heap.objs.size L es ep t ∧ Got ks ks.length L ∧
        (∀ b o, s.heap.get? b = some o → h'.get? b = some o)) E) F.called_set.init.plain F.entry_set_init (check_set_init_1 hT ?_)) fun r₂ s₂ hr₂ => ?_
    · obtain ⟨⟨ocls, odict, odata, oslots⟩, hol, hcl, nl, hdl⟩ := hl
      simp only at hcl hdl
      subst hcl hdl
      have hol' : (s.heap.push (newSetO w)).get? l = some { cls := .type "list", dict := odict, data := .seq items nl, slots := oslots } := Heap.get?_push_of_some _ hol
      have u1 := F.sub_list_set
      have u2 := F.sub_list_frozenset
      have u3 : (Value.type "list" == Value.type "dict") = false := by decide
      have isL : (s.heap.push (newSetO w)).IsList l items := ⟨_, hol', rfl, nl, rfl⟩
      unfold Builtin.«set.__init__» noKeywords Builtin.Frozenset.updateFrom
      generalize hPI : pyIter = PI
      wp_walk
      subst hPI
      refine wpAny_pyIter_list isL (wpAny_bind (wpAny_runValue ?_))
      have ll : l < s.heap.objs.size := Heap.lt_size hol
      have sz1 : (s.heap.push (newSetO w)).objs.size = s.heap.objs.size + 1 := Heap.size_push ..
      have unborn : ∀ b, s.heap.objs.size ≤ b → s.heap.get? b = none := fun b hb => by
        cases q : s.heap.get? b with
        | none => rfl
        | some o => exact absurd (Nat.lt_of_lt_of_le (Heap.lt_size q) hb) (Nat.lt_irrefl _)
      refine update_all ((Walks.list (show A.in1.in1.in1.handled = none by simp [hh]) _ l (by rw [sz1]; exact Nat.ne_of_lt (Nat.lt_succ_of_lt ll)) items).toS) s.heap.objs.size
        (by rw [sz1]; simp only [List.mem_cons, List.not_mem_nil, or_false, not_or]; exact ⟨Nat.ne_of_lt (Nat.lt_succ_self _), Nat.ne_of_gt ll⟩) ks U isz hU inU (fun i v hv => ?_) s.heap hk (unborn _ (Nat.le_refl _)) (fun b hb => unborn b (by rw [List.mem_singleton.mp hb, sz1]; exact Nat.le_succ _)) hu (items.size - 0) 0 _ (by omega) (Nat.zero_le _)
        ⟨⟨_, Heap.get?_push_size _ rfl, rfl, rfl⟩, (isL.push _)⟩ (fun b o e => Heap.get?_push_of_some _ (Heap.get?_push_of_some _ e)) ⟨[], #[], 0, _, setG_new (Heap.get?_push_of_some _ hS), Got.zero ks⟩ fun s' L es ep t mv hS' g' kp => ?_
      · have q : items.toList[i]? = some v := by rw [Array.getElem?_toList]; exact hv
        rw [hit, List.getElem?_map] at q
        obtain ⟨p, hp, e⟩ := Option.map_eq_some_iff.mp q
        exact ⟨p, hp, e.symm⟩
      · obtain ⟨h', g2, d', tk', os'⟩ := s'
        obtain rfl : g2 = s.gens := mv.gens
        obtain rfl : d' = s.drawn := mv.drawn
        obtain rfl : os' = s.os := mv.os
        rw [isz] at g'
        exact wpAny_pure (wpAny_pure ⟨rfl, h', tk', L, es, ep, t, rfl, hS', g', kp⟩)
    · match r₂, hr₂ with
      | .error e, z => exact z
      | .ok .next, z => exact z.elim
      | .ok .brk, z => exact z.elim
      | .ok .cont, z => exact z.elim
      | .ok (.ret r), z =>
        obtain ⟨rfl, h', tk, L, es, ep, t, rfl, hS', g', kp⟩ := z
        repeat (any_goals (first | assumption | wp_step))
        exact h _ _ _ _ _ _ hS' g' kp
end
/-! ### sorted of such a set: the tuples of one length, by their order -/
open TS (TupInts oneLt_ints)
section
variable {P : Program} {w : World} {A : Around} {E : Value → Shared → Prop} {s : Shared}
theorem lex_all {Q : Bool → Shared → Prop} : ∀ {xs ys : List Value} {ns ms : List Int} (i : Nat), IntsAre xs ns → IntsAre ys ms → ns.length = ms.length → Q (HT.lexLt ns ms) s → PySem.W.KatLex P w A true false Q (xs.zip ys) i s
  | _, _, _, _, i, .nil, .nil, _, h => PySem.W.kat_nil h
  | _, _, _, _, i, .cons x t r, .cons y u r2, hl, h => by
    simp only [List.length_cons, Nat.add_right_cancel_iff] at hl
    rw [HT.lexLt_cons] at h
    refine PySem.W.kat_cons (SeqAt.EqAt.int_int x t y u P w _ _ (PySem.W.kat_go (fun e => PySem.W.kat_yes (lex_all (i + 1) r r2 hl ?_)) fun e => PySem.W.kat_no (oneLt_ints _ ?_)))
    · have e' : x = y := by simpa using e
      rw [if_pos e'] at h
      exact h
    · have e' : ¬ x = y := by simpa using e
      rw [if_neg e'] at h
      exact h
  | _, _, _, _, _, .nil, .cons _ _ _, hl, _ => by simp at hl
  | _, _, _, _, _, .cons _ _ _, .nil, hl, _ => by simp at hl
theorem ints_len : ∀ {xs : List Value} {ns : List Int}, IntsAre xs ns → xs.length = ns.length
  | _, _, .nil => rfl
  | _, _, .cons _ _ r => by rw [List.length_cons, List.length_cons, ints_len r]
theorem tups_cmp {vs : List Value} {k : Value → List Int} {d : Nat} (hv : ∀ v ∈ vs, TupInts s.heap v (k v) ∧ (k v).length = d) : SrtO.Cmp P w A s (tuples' true) (fun p => p.1 ∈ vs) (SrtO.lt2 fun v u => HT.lexLt (k v) (k u)) := by
  intro p q hp hq
  obtain ⟨⟨a, xs, ea, ⟨o, ho, hc, n, hd⟩, i1⟩, l1⟩ := hv p.1 hp
  obtain ⟨⟨b, ys, eb, ⟨o2, ho2, hc2, n2, hd2⟩, i2⟩, l2⟩ := hv q.1 hq
  show wpAny (model P w) A (keyLt' (tuples' true) p.1 q.1) (fun r s' => s' = s ∧ r = HT.lexLt (k p.1) (k q.1)) (fun _ _ => False) s
  generalize k p.1 = ns at i1 l1 ⊢
  generalize k q.1 = ms at i2 l2 ⊢
  rw [ea, eb]
  refine PySem.W.kat_lt ho hd ho2 hd2 ?_
  have sz : decide (xs.size < ys.size) = false := by
    have a1 := ints_len i1
    have a2 := ints_len i2
    rw [Array.length_toList] at a1 a2
    exact decide_eq_false (by omega)
  rw [sz]
  exact lex_all 0 i1 i2 (l1.trans l2.symm) ⟨rfl, rfl⟩
theorem heads_of {h : Heap} {k : Value → List Int} {d : Nat} (hd : 1 ≤ d) : ∀ {vs : List Value}, (∀ v ∈ vs, TupInts h v (k v) ∧ (k v).length = d) → ∃ fs : List Value, PySem.W.KatTups h vs fs ∧ fs.length = vs.length ∧ ∀ f ∈ fs, ∃ x t, f = Value.int x t
  | [], _ => ⟨[], PySem.W.KatTups.nil, rfl, fun _ hm => by simp at hm⟩
  | v :: vs, hv => by
    obtain ⟨fs, h1, h2, h3⟩ := heads_of hd fun u hu => hv u (List.mem_cons_of_mem _ hu)
    obtain ⟨⟨a, xs, rfl, ⟨o, ho, hc, n, hdt⟩, i1⟩, l1⟩ := hv v List.mem_cons_self
    generalize k (Value.ref a) = ns at i1 l1
    obtain ⟨xl⟩ := xs
    simp only at i1
    cases i1 with
    | nil => simp at l1; omega
    | cons x t r =>
      refine ⟨.int x t :: fs, PySem.W.KatTups.cons ho hc hdt rfl h1, by rw [List.length_cons, List.length_cons, h2], fun f hf => ?_⟩
      rcases List.mem_cons.mp hf with rfl | hf
      · exact ⟨x, t, rfl⟩
      · exact h3 f hf
theorem tups_sortable {a : Addr} {vs : List Value} {k : Value → List Int} {d : Nat} (hd : 1 ≤ d) (h0 : 0 < vs.length) (hv : ∀ v ∈ vs, TupInts s.heap v (k v) ∧ (k v).length = d) (ha : ∀ o, s.heap.get? a = some o → o.cls ≠ .type "tuple") :
    SrtO.SortableO P w A s a vs fun v u => HT.lexLt (k v) (k u) := by
  intro h' keep
  have hv' : ∀ v ∈ vs, TupInts h' v (k v) ∧ (k v).length = d := fun v hm => ⟨(hv v hm).1.keeps fun b o e c => keep b o (fun z => ha o (z ▸ e) c) e, (hv v hm).2⟩
  obtain ⟨fs, h1, h2, h3⟩ := heads_of hd hv'
  refine ⟨tuples' true, fun Q E hq => ?_, tups_cmp (s := { s with heap := h' }) hv'⟩
  refine PySem.W.kat_kind (T := .type "int") h1 (by omega) (fun f hm => ?_) (by rfl) ?_
  · obtain ⟨x, t, rfl⟩ := h3 f hm
    exact PySem.W.Looks.now
  · rw [show (Value.type "int" != Value.type "tuple") = true by decide +kernel]
    exact hq
/-- an address, read off a value -/
def adV : Value → Addr
  | .ref a => a
  | _ => 0
theorem refs_back : ∀ {vs : List Value} {L : List (Addr × List Int)}, (∀ v ∈ vs, ∃ q ∈ L, v = Value.ref q.1) → ∃ M : List (Addr × List Int), vs = M.map (fun q => Value.ref q.1) ∧ ∀ q ∈ M, q ∈ L
  | [], _, _ => ⟨[], rfl, fun _ hq => nomatch hq⟩
  | v :: vs, L, h => by
    obtain ⟨q, hq, rfl⟩ := h v List.mem_cons_self
    obtain ⟨M, e, hM⟩ := refs_back fun u hu => h u (List.mem_cons_of_mem _ hu)
    refine ⟨q :: M, by rw [List.map_cons, ← e], fun r hr => ?_⟩
    rcases List.mem_cons.mp hr with rfl | hr
    · exact hq
    · exact hM r hr
theorem sorted_setG {a : Addr} {L : List (Addr × List Int)} {es : Array (Int × Value)} {ep : Nat} {t : SetTable} {Q : Value → Shared → Prop} (R : SetG P w s.heap a L es ep t) (hh : A.handled = none) (few : L.length < 4096)
    {d : Nat} (hd1 : 1 ≤ d) (hd : ∀ p ∈ L, p.2.length = d)
    (hQ : ∀ s' p (out : List Value) (c : Nat) (M : List (Addr × List Int)), (∀ b o, s.heap.get? b = some o → s'.heap.get? b = some o) → s'.gens = s.gens → s'.os = s.os → s.heap.objs.size ≤ p →
      s'.heap.get? p = some (seqObj "list" out.toArray c) → out = M.map (fun q => Value.ref q.1) → M.Perm L → M.Pairwise (fun q r => HT.lexLt r.2 q.2 = false) → Q (.ref p) s') :
    wpAny (model P w) A (call (.builtin "sorted") [.ref a]) Q E s := by
  obtain ⟨o, ho, hex, hdt⟩ := R.obj
  have sz := R.size
  refine Calls.call_function_entry kind_sorted plain_sorted entry_sorted (args_sorted1 _) ?_
  unfold Builtin.«sorted»
  refine wpAny_bind (m := checkCount "sorted" 1 1 _) (wpAny_pure (wpAny_bind (collect_set (A := A.in1) hh ⟨o, ho, hex.1, hdt⟩ R.fits (by show es.size < 4096; omega) R.tb.up R.ledd fun s1 vs k1 hz g1 o1 pm => ?_)))
  rw [show es.toList.map (·.2) = L.map fun q => Value.ref q.1 by rw [R.rws]; unfold rowsOf; rw [List.map_map]; rfl] at pm
  have vl : vs.length = L.length := by rw [pm.length_eq, List.length_map]
  have one : ∀ q ∈ L, ∀ r ∈ L, q.1 = r.1 → q = r := fun q hq r hr e => by
    have a1 := R.tups q hq
    rw [e] at a1
    exact Prod.ext e (a1.inj (R.tups r hr))
  -- keys by addresses
  have key : ∃ kk : Addr → List Int, ∀ q ∈ L, kk q.1 = q.2 := by
    refine ⟨fun b => (TS.intsOf s.heap (.ref b)), fun q hq => (tupInts_of (R.tups q hq)).ints⟩
  obtain ⟨kk, hkk⟩ := key
  refine wpAny_bind (wpAny_newList ?_ (by rw [sizeLine_eq]; omega))
  have hoL : (s1.heap.push (seqObj "list" vs.toArray 0)).get? s1.heap.objs.size = some (seqObj "list" vs.toArray 0) := Heap.get?_push_size _ rfl
  have ti : ∀ v ∈ vs, TupInts (s1.heap.push (seqObj "list" vs.toArray 0)) v (kk (adV v)) ∧ (kk (adV v)).length = d := fun v hv => by
    obtain ⟨q, hq, rfl⟩ := List.mem_map.mp (pm.mem_iff.mp hv)
    show TupInts _ (Value.ref q.1) (kk q.1) ∧ (kk q.1).length = d
    rw [hkk q hq]
    exact ⟨tupInts_of (P := P) (w := w) (isT_keep (R.tups q hq) fun b u e => Heap.get?_push_of_some _ (k1 b u e)), hd q hq⟩
  refine wpAny_bind (wpAny_holding (wpAny_call_entry (s := { s1 with heap := s1.heap.push (seqObj "list" vs.toArray 0) }) slot_list_sort ⟨_, hoL, rfl⟩ entry_list_sort
    (SrtO.list_sort_ord (NtL.swo_lexL fun v => kk (adV v)) hoL (by rw [sizeLine_eq]; omega) (fun h2 => tups_sortable hd1 (by omega) ti fun u e => ?_) fun out h1 h2 => ⟨_, rfl, ?_⟩) (args_list_sort _)))
  · rw [hoL] at e
    cases e
    exact fun c => absurd (Value.type.inj c) (by decide)
  · obtain ⟨c, hc⟩ := sortedHeap_at (vs := vs) (out := out.toArray) hoL
    obtain ⟨M, eM, hM⟩ := refs_back (vs := out) (L := L) fun v hv => by
      obtain ⟨q, hq, e⟩ := List.mem_map.mp (pm.mem_iff.mp (h2.perm.mem_iff.mp hv))
      exact ⟨q, hq, e.symm⟩
    have nL : L.Nodup := nodup_of_map R.once
    have nref : (L.map fun q => Value.ref q.1).Nodup := List.pairwise_map.mpr (List.Pairwise.imp_of_mem (fun {q r} hq hr ne e => ne (one q hq r hr (Value.ref.inj e))) nL)
    have pM : (M.map fun q => Value.ref q.1).Perm (L.map fun q => Value.ref q.1) := by
      rw [← eM]
      exact h2.perm.trans pm
    have pL : M.Perm L := (List.perm_ext_iff_of_nodup (nodup_of_map (pM.nodup_iff.mpr nref)) nL).mpr fun q => ⟨hM q, fun hq => by
      obtain ⟨r, hr, e⟩ := List.mem_map.mp (pM.mem_iff.mpr (List.mem_map.mpr ⟨q, hq, rfl⟩))
      rw [← one r (hM r hr) q hq (Value.ref.inj e)]
      exact hr⟩
    refine wpAny_pure ⟨_, rfl, hQ _ s1.heap.objs.size out c M (fun b u e => ?_) g1 o1 hz hc eM pL ?_⟩
    · have q := k1 b u e
      have lt := Heap.lt_size q
      show (sortedHeap (s1.heap.push (seqObj "list" vs.toArray 0)) s1.heap.objs.size vs out.toArray).get? b = some u
      rw [sortedHeap_old (Nat.ne_of_lt lt) (by rw [size_push']; exact Nat.lt_succ_of_lt lt)]
      exact Heap.get?_push_of_some _ q
    · rw [eM] at h1
      refine List.Pairwise.imp_of_mem (fun {q r} hq hr z => ?_) (List.pairwise_map.mp h1)
      have z' : HT.lexLt (kk r.1) (kk q.1) = false := z
      rw [hkk q (hM q hq), hkk r (hM r hr)] at z'
      exact z'
end
/-! ### as words of a def -/
def SetG0 (P : Program) (w : World) (h : Heap) (a : Addr) (L : List (Addr × List Int)) : Prop := ∃ (es : Array (Int × Value)) (ep : Nat) (t : SetTable), (∃ u, h.get? a = some u ∧ u.ExactSet ∧ u.data = .set es ep t) ∧ es.toList = rowsOf P w L ∧
  TabG t (L.map fun p => thash P w p.2) ∧ (L.map (·.2)).Nodup ∧ t.plain = true ∧ (w.params.followText "set-order" = true ∨ t.led = true) ∧ L.length * 5 < t.mask * 3 ∧ L.length < 4915 ∧ Mk6 t.mask
def SetGO (P : Program) (w : World) (a : Addr) (L : List (Addr × List Int)) : HO := .ext fun h => SetG0 P w h a L
theorem setGO_new {P : Program} {w : World} {H : Hp} {h : Heap} {a : Addr} {L : List (Addr × List Int)} (R : SetG0 P w h a L) : ObjOk P w H h a (SetGO P w a L) := by
  refine ⟨R, let ⟨_, _, _, ⟨u, hu, _⟩, _⟩ := R; ⟨u, hu⟩, fun h1 h2 p k => ?_⟩
  have p' : SetG0 P w h1 a L := p
  obtain ⟨es, ep, t, ⟨u, hu, r⟩, q⟩ := p'
  exact ⟨es, ep, t, ⟨u, k u hu, r⟩, q⟩
section
variable {X : Cx}
/-- set(xs), xs a list of tuples of ints -/
def rSetG (K : PySem.W.Frag) (P : Program) (w : World) : List V → Hp → VK → Prop := fun xs H Q => ∃ (l : Addr) (ks : List (Addr × List Int)) (U : List (List Int)), xs = [V.ref l] ∧ SqL K H l (ks.map fun p => V.ref p.1) ∧ (∀ p ∈ ks, SqT K H p.1 (p.2.map V.int)) ∧ U.length < 4096 ∧ (∀ p ∈ ks, p.2 ∈ U) ∧
  ∀ a L, H a = none → (∀ p ∈ L, p ∈ ks) → (∀ p ∈ ks, p.2 ∈ L.map (·.2)) → L.length < 4096 → Q (.ref a) (upd H a (SetGO P w a L))
theorem cr_setG (hc : X.calm = true) (hu : X.A.units + 64 < cLine) : CallR X (.type "set") (rSetG X.K X.prog X.w) := by
  intro pins s σ H xs us Q I r h
  obtain ⟨l, ks, U, rfl, hl, hk, hU, inU, q⟩ := h
  rw [Vals.ref1 r]
  obtain ⟨its, rv, pl, hz⟩ := I.list hl
  have hn : H s.heap.objs.size = none := I.hok.fresh (Nat.le_refl _)
  refine call_setG (P := X.prog) (w := X.w) ks U (I.ok.hd hc) pl.isList (by simpa using refs_of_vals rv) (fun p hp => I.isT (hk p hp)) (by omega) inU (by omega) fun h' tk L es ep t R g k => ?_
  have sub : ∀ p ∈ L, p ∈ ks := fun p hp => List.mem_of_mem_take (g.sub p hp)
  have few : L.length < 4096 := by
    have z := len_among (L.map (·.2)) U R.once fun y hy => by
      obtain ⟨p, hp, rfl⟩ := List.mem_map.mp hy
      exact inU p (sub p hp)
    rw [List.length_map] at z
    omega
  exact ⟨.ref s.heap.objs.size, upd H s.heap.objs.size (SetGO X.prog X.w s.heap.objs.size L), I.laid (t' := tk) k (Nat.le_refl _) (setGO_new ⟨es, ep, t, R.obj, R.rws, R.tb, R.once, R.pla, R.ledd, R.rm, R.few, R.m6⟩), rfl,
    q _ L hn sub (fun p hp => g.all p (by rw [List.take_length]; exact hp)) few⟩
/-- sorted(set), the tuples of one length -/
def rSortedG (K : PySem.W.Frag) (P : Program) (w : World) : List V → Hp → VK → Prop := fun vs H Q => ∃ (a : Addr) (L : List (Addr × List Int)) (d : Nat), vs = [V.ref a] ∧ H a = some (SetGO P w a L) ∧ (∀ p ∈ L, SqT K H p.1 (p.2.map V.int)) ∧ L.length < 4096 ∧ 1 ≤ d ∧ (∀ p ∈ L, p.2.length = d) ∧
  ∀ (M : List (Addr × List Int)) (p : Addr), M.Perm L → (M.map (·.2)).Nodup → M.Pairwise (fun q r => HT.lexLt r.2 q.2 = false) → H p = none → Q (.ref p) (upd H p (.lst (M.map fun q => V.ref q.1)))
theorem cr_sortedG (hc : X.calm = true) : CallR X (.builtin "sorted") (rSortedG X.K X.prog X.w) := by
  intro pins s σ H vs us Q I r h
  obtain ⟨a, L, d, rfl, ha, hk, few, hd1, hd, q⟩ := h
  have R0 : SetG0 X.prog X.w s.heap a L := (I.hok a _ ha).1
  obtain ⟨es, ep, t, r1, r2, r3, r4, r5, r6, r7, r8, r9⟩ := R0
  have R : SetG X.prog X.w s.heap a L es ep t := ⟨r1, r2, r3, r4, fun p hp => I.isT (hk p hp), r5, r6, r7, r8, r9⟩
  rw [Vals.ref1 r]
  refine sorted_setG R (I.ok.hd hc) few hd1 hd fun s' p out c M k g o hp hg hout pm pw => ?_
  have len : (M.map fun q => V.ref q.1).length ≤ sizeLine := by rw [List.length_map, pm.length_eq, sizeLine_eq]; omega
  have hn : H p = none := I.hok.fresh hp
  have hv : Vals (M.map fun q => V.ref q.1) out := by rw [hout]; exact vals_of_refs M
  have J : L2.Inv X pins σ (upd H p (.lst (M.map fun q => V.ref q.1))) { s with heap := s'.heap, gens := s'.gens, drawn := s'.drawn, toks := s'.toks } :=
    I.call (ch := []) (Un.laid k hp hn) (I.hok.laid k hp ⟨len, out, c, hv, hg⟩) (by rw [g]; exact I.bare) (fun _ z => nomatch z)
  have e : s' = { s with heap := s'.heap, gens := s'.gens, drawn := s'.drawn, toks := s'.toks } := by
    cases s'
    cases s
    cases o
    rfl
  rw [e]
  exact ⟨.ref p, _, J, rfl, q M p pm ((pm.map (·.2)).nodup_iff.mpr r4) pw hn⟩
end
/-! ### sorted(xs, key=f), f telling a number of each item, changing nothing: some arrangement of xs -/
section
variable {P : Program} {w : World} {A : Around} {E : Value → Shared → Prop} {s : Shared}
theorem sort_by {a : Addr} {vs : List Value} {n : Nat} {kz : List Int} {f : Value} {R : PySem.Fin → Shared → Prop} (ho : s.heap.get? a = some (seqObj "list" vs.toArray n)) (hlen : kz.length = vs.length) (hz : vs.length ≤ 100000)
    (turn : ∀ (i : Nat) (v : Value) (k : Int), vs[i]? = some v → kz[i]? = some k → ∀ (g : Heap) (tk : Nat) (Q : Value → Shared → Prop), (∀ b o, b ≠ a → s.heap.get? b = some o → g.get? b = some o) →
      (∀ tk' t, Q (.int k t) { s with heap := g, toks := tk' }) → wpAny (model P w) A (call f [v]) Q (fun _ _ => False) { s with heap := g, toks := tk })
    (h : ∀ (g : Heap) (tk : Nat) (out : List Value) (c : Nat), out.Perm vs → (∀ b o, b ≠ a → s.heap.get? b = some o → g.get? b = some o) → g.get? a = some (seqObj "list" out.toArray c) → R (.done (.ret .none)) { s with heap := g, toks := tk }) :
    wpAny (model P w) A (ksk_tree a f false) R E s := by
  have la := Heap.lt_size ho
  obtain ⟨e1, ho1⟩ : ∃ e1, (s.heap.update a (Obj.mapSeq fun _ => (#[] : Array Value))).get? a = some (seqObj "list" #[] e1) := ⟨_, get?_update_seq ho fun _ => #[]⟩
  have hz1 : vs.length ≤ sizeLine := by rw [sizeLine_eq]; omega
  unfold ksk_tree
  refine wpAny_bind (listItems_at ho rfl (wpAny_bind (listUpdate_at ho rfl ?_ (by rw [List.size_toArray]; exact hz1) (Nat.zero_le _))))
  refine wpAny_bind (seqEpoch_at ho1 rfl (wpAny_bind (wpAny_newTuple ?_ (show vs.length ≤ _ from hz1))))
  refine wpAny_bind (wpAny_newList (wpAny_holding ?_) (Nat.zero_le _))
  obtain ⟨h1, eh1⟩ : ∃ h1, h1 = s.heap.update a (Obj.mapSeq fun _ => (#[] : Array Value)) := ⟨_, rfl⟩
  obtain ⟨kS, ekS⟩ : ∃ kS, kS = (h1.push (seqObj "tuple" vs.toArray 0)).objs.size := ⟨_, rfl⟩
  obtain ⟨h2, eh2⟩ : ∃ h2, h2 = (h1.push (seqObj "tuple" vs.toArray 0)).push (seqObj "list" #[] 0) := ⟨_, rfl⟩
  have sz : kS = s.heap.objs.size + 1 := by rw [ekS, eh1, size_push', Heap.size_update]
  have ka : kS ≠ a := by rw [sz]; exact Nat.ne_of_gt (Nat.lt_succ_of_lt la)
  have k2 : ∀ b o, b ≠ a → s.heap.get? b = some o → h2.get? b = some o := fun b o hb e => by
    rw [eh2, eh1]
    exact Heap.get?_push_of_some _ (Heap.get?_push_of_some _ ((Heap.get?_update_ne _ _ _ _ hb).trans e))
  have a2 : h2.get? a = some (seqObj "list" #[] e1) := by
    rw [eh2, eh1]
    exact Heap.get?_push_of_some _ (Heap.get?_push_of_some _ ho1)
  have s2 : h2.get? kS = some (seqObj "list" #[] 0) := by
    rw [eh2, ekS]
    exact Heap.get?_push_size _ rfl
  have old : ∀ b o, s.heap.get? b = some o → b ≠ kS := fun b o e => by
    rw [sz]
    exact Nat.ne_of_lt (Nat.lt_succ_of_lt (Heap.lt_size e))
  show wpAny (model P w) A (ksk_rest a f false vs.toArray _ (.ref _)) R E { s with heap := (_ : Heap).push _ }
  rw [← eh1, ← ekS, ← eh2]
  unfold ksk_rest
  refine wpAny_bind (wpAny_rule ?_)
  first
    | rw [List.forIn_toArray]
    | (rw [← Array.forIn_toList]; simp only [List.toList_toArray])
  refine wpAny_bind (ksk_fold (fun i s' => ∃ g tk kA e, s' = { s with heap := g, toks := tk } ∧ (∀ b o, b ≠ a → s.heap.get? b = some o → g.get? b = some o) ∧ g.get? kS = some (seqObj "list" kA e) ∧ g.get? a = some (seqObj "list" #[] e1) ∧ IntsAre kA.toList (kz.take i)) vs 0 _
    ⟨h2, s.toks, #[], 0, rfl, k2, s2, a2, by simpa using IntsAre.nil⟩ ?step ?done)
  case step =>
    rintro j x s' hx ⟨g, tk, kA, e, rfl, kp, gk, ga, hk⟩
    rw [Nat.zero_add] at hk ⊢
    obtain ⟨k, hkj⟩ : ∃ k, kz[j]? = some k := ⟨_, List.getElem?_eq_getElem (by have := (List.getElem?_eq_some_iff.mp hx).1; omega)⟩
    have lk : kA.size ≤ vs.length := by
      have z := hk.length
      rw [Array.length_toList, List.length_take] at z
      omega
    refine wpAny_bind (wpAny_attempt (wpAny_mono (turn j x k hx hkj g tk (fun v s'' => ∃ tk' t, v = .int k t ∧ s'' = { s with heap := g, toks := tk' }) kp fun tk' t => ⟨tk', t, rfl, rfl⟩) (fun v s'' z => ?_) fun _ _ z => z.elim))
    obtain ⟨tk', t, rfl, rfl⟩ := z
    obtain ⟨c2, hc2⟩ : ∃ c2, (g.update kS (Obj.mapSeq (·.push (.int k t)))).get? kS = some (seqObj "list" (kA.push (.int k t)) c2) := ⟨_, get?_update_seq gk (·.push (.int k t))⟩
    have ek : kz.take (j + 1) = kz.take j ++ [k] := by rw [List.take_add_one, hkj]; rfl
    refine wpAny_bind (listUpdate_at gk rfl ?_ (by rw [sizeLine_eq]; omega) (Nat.le_trans (Nat.le_of_eq (Array.size_push ..)) (by rw [sizeLine_eq]; omega)))
    refine wpAny_pure ⟨rfl, _, _, kA.push (.int k t), c2, rfl, fun b o hb eb => ?_, hc2, ?_, ?_⟩
    · rw [Heap.get?_update_ne _ _ _ _ (old b o eb)]
      exact kp b o hb eb
    · rw [Heap.get?_update_ne _ _ _ _ ka.symm]
      exact ga
    · rw [ek, Array.toList_push]
      exact ksk_snoc hk
  case done =>
    rintro s' ⟨g, tk, kA, e, rfl, kp, gk, ga, hk⟩
    rw [Nat.zero_add, List.take_of_length_le (by omega)] at hk
    have ksz : kA.size = vs.length := by
      have z := hk.length
      rw [Array.length_toList] at z
      omega
    refine wpAny_bind (listItems_at gk rfl ?_)
    -- the end, from a finished sort
    have fin : ∀ st : SortSt, (arrOf st).toList.Perm (kA.toList.zip vs) → failedOf st = none → wpAny (model P w) A (ksk_tail a false e1 (.ref kS) st) R E { s with heap := g, toks := tk } := fun st pm fl => by
      have osz : ((arrOf st).map (·.2)).size = vs.length := by
        have z := pm.length_eq
        rw [Array.length_toList, List.length_zip, Array.length_toList, ksz, Nat.min_self] at z
        rw [Array.size_map, z]
      unfold ksk_tail
      simp only [Bool.false_eq_true, if_false]
      refine wpAny_bind (listUpdate_at gk rfl ?_ (by rw [sizeLine_eq]; omega) (Nat.zero_le _))
      have ga1 : (g.update kS (Obj.mapSeq fun _ => (#[] : Array Value))).get? a = some (seqObj "list" #[] e1) := (Heap.get?_update_ne _ _ _ _ ka.symm).trans ga
      refine wpAny_bind (wpAny_letGo (wpAny_bind (seqEpoch_at ga1 rfl (wpAny_bind (listUpdate_at ga1 rfl ?_ (Nat.zero_le _) (by rw [osz, sizeLine_eq]; omega))))))
      rw [fl]
      simp only [bne_self_eq_false, Bool.false_eq_true, if_false]
      obtain ⟨c3, hc3⟩ : ∃ c3, ((g.update kS (Obj.mapSeq fun _ => (#[] : Array Value))).update a (Obj.mapSeq fun _ => (arrOf st).map (·.2))).get? a = some (seqObj "list" ((arrOf st).map (·.2)) c3) := ⟨_, get?_update_seq ga1 fun _ => (arrOf st).map (·.2)⟩
      refine wpAny_pure (h _ _ ((arrOf st).map (·.2)).toList c3 ?_ (fun b o hb eb => ?_) (by rw [Array.toArray_toList]; exact hc3))
      · have z := pm.map (·.2)
        rw [List.map_snd_zip (show vs.length ≤ kA.toList.length from by have q : kA.toList.length = kA.size := rfl; omega)] at z
        rw [Array.toList_map]
        exact z
      · rw [Heap.get?_update_ne _ _ _ _ hb, Heap.get?_update_ne _ _ _ _ (old b o eb)]
        exact kp b o hb eb
    unfold ksk_end
    simp only [Bool.false_eq_true, if_false]
    have zl : (kA.zip vs.toArray).toList = kA.toList.zip vs := ksk_zip kA vs
    by_cases small : vs.toArray.size < 2
    · rw [if_pos small, if_pos small]
      refine wpAny_bind (wpAny_pure ?_)
      rw [StateT.run_pure]
      refine wpAny_bind (wpAny_pure ?_)
      exact fin (SortSt.mk' general' (kA.zip vs.toArray) #[] 7 none) (by show (kA.zip vs.toArray).toList.Perm _; rw [zl]) rfl
    · rw [if_neg small, if_neg small]
      rw [List.size_toArray] at small
      rw [ksk_kind hk (by omega)]
      refine wpAny_bind (wpAny_pure ?_)
      have hall : SrtO.AllL (fun p : Keyed => p.1 ∈ kA.toList) (kA.zip vs.toArray).toList := fun p hp => by
        rw [zl] at hp
        exact (List.of_mem_zip hp).1
      refine wpAny_bind (wpAny_mono (SrtO.wpS_sortO (st0 := SortSt.mk' oneType' (kA.zip vs.toArray) #[] 7 none)
        (Q := fun _ st' => (arrOf st').toList.Perm (kA.toList.zip vs) ∧ failedOf st' = none) (SrtO.swo2 SrtO.swo_int) (SrtO.int_cmp hk) rfl hall rfl rfl fun st' a1 a2 a3 => ⟨by rw [← zl]; exact a2.perm, a3⟩) ?_ fun _ _ z => z)
      rintro ⟨⟨⟩, st'⟩ s' ⟨rfl, pm, fl⟩
      exact fin st' pm fl
end
/-! ### sorted(xs, key=len), xs a list of lists -/
section
variable {P : Program} {w : World} {A : Around} {E : Value → Shared → Prop} {s : Shared}
theorem sorted_by {l : Addr} {vs : List Value} {kz : List Int} {id : String} {Q : Value → Shared → Prop} (hl : s.heap.IsList l vs.toArray) (hlen : kz.length = vs.length) (hz : vs.length ≤ 100000)
    (turn : ∀ (i : Nat) (v : Value) (k : Int), vs[i]? = some v → kz[i]? = some k → ∀ (A' : Around) (g : Heap) (tk : Nat) (Q : Value → Shared → Prop), (∀ b o, s.heap.get? b = some o → g.get? b = some o) →
      (∀ tk' t, Q (.int k t) { s with heap := g, toks := tk' }) → wpAny (model P w) A' (call (.builtin id) [v]) Q (fun _ _ => False) { s with heap := g, toks := tk })
    (h : ∀ (g : Heap) (tk : Nat) (out : List Value) (p c : Nat), out.Perm vs → (∀ b o, s.heap.get? b = some o → g.get? b = some o) → s.heap.objs.size ≤ p → g.get? p = some (seqObj "list" out.toArray c) → Q (.ref p) { s with heap := g, toks := tk }) :
    wpAny (model P w) A (call (.builtin "sorted") [.ref l] [(Str.ofString "key", .builtin id)]) Q E s := by
  have hz1 : vs.length ≤ sizeLine := by rw [sizeLine_eq]; omega
  refine call_function_entry_kw kind_sorted plain_sorted entry_sorted (ksk_s1 _ _) ?_
  unfold Builtin.«sorted»
  refine wpAny_bind (m := checkCount "sorted" 1 1 _) (wpAny_pure (wpAny_bind (collect_list hl (wpAny_bind (wpAny_newList ?_ hz1)) hz1)))
  obtain ⟨g0, eg0⟩ : ∃ g0, g0 = (s.heap.push (seqObj "list" #[] 0)).update s.heap.objs.size (Obj.mapSeq (· ++ vs.toArray)) := ⟨_, rfl⟩
  have sz : g0.objs.size = s.heap.objs.size + 1 := by rw [eg0, Heap.size_update, size_push']
  have kp : ∀ b o, s.heap.get? b = some o → b ≠ g0.objs.size ∧ (g0.push (seqObj "list" vs.toArray 0)).get? b = some o := fun b o e => by
    have lt := Heap.lt_size e
    refine ⟨by rw [sz]; exact Nat.ne_of_lt (Nat.lt_succ_of_lt lt), Heap.get?_push_of_some _ ?_⟩
    rw [eg0, Heap.get?_update_ne _ _ _ _ (Nat.ne_of_lt lt)]
    exact Heap.get?_push_of_some _ e
  have hol : (g0.push (seqObj "list" vs.toArray 0)).get? g0.objs.size = some (seqObj "list" vs.toArray 0) := Heap.get?_push_size _ rfl
  rw [← eg0]
  refine wpAny_bind (wpAny_holding (wpAny_call_entry_kw (s := { s with heap := g0.push (seqObj "list" vs.toArray 0) }) slot_list_sort ⟨_, hol, rfl⟩ entry_list_sort ?body (ksk_l1 _ _)))
  case body =>
    show wpAny (model P w) A.in1.in1 (Builtin.«list.sort» ⟨[.ref g0.objs.size], [(Str.ofString "key", .builtin id)]⟩) _ _ _
    rw [ksk_t4]
    refine sort_by (s := { s with heap := g0.push (seqObj "list" vs.toArray 0) }) hol hlen hz (fun i v k hv hk g tk Q' gk q => turn i v k hv hk _ g tk Q' (fun b o e => gk b o (kp b o e).1 (kp b o e).2) q) fun g tk out c pm gk ga => ⟨_, rfl, wpAny_pure ⟨_, rfl, ?_⟩⟩
    exact h g tk out _ c pm (fun b o e => gk b o (kp b o e).1 (kp b o e).2) (by rw [sz]; exact Nat.le_succ _) ga
end
section
variable {X : Cx}
def tSortLen (K : PySem.W.Frag) (te : TE) : TE := fun σ H Q => te σ H fun x H1 => ∃ (a : Addr) (ls : List Addr), x = .ref a ∧ SqL K H1 a (ls.map V.ref) ∧ ls.length ≤ 100000 ∧ (∀ l ∈ ls, ∃ ys, H1 l = some (.lst ys)) ∧
  ∀ (ls' : List Addr) (p : Addr), ls'.Perm ls → H1 p = none → Q (.ref p) (upd H1 p (.lst (ls'.map V.ref)))
theorem refs_vals : ∀ {ls : List Addr} {us : List Value}, Vals (ls.map V.ref) us → us = ls.map Value.ref
  | [], _, .nil => rfl
  | _ :: _, _, .cons r t => by
    cases r
    rw [refs_vals t]
    rfl
theorem vals_refs : ∀ (ls : List Addr), Vals (ls.map V.ref) (ls.map Value.ref)
  | [] => .nil
  | _ :: ls => .cons rfl (vals_refs ls)
theorem refs_perm {ls : List Addr} {out : List Value} (pm : out.Perm (ls.map Value.ref)) : ∃ ls' : List Addr, out = ls'.map Value.ref ∧ ls'.Perm ls := by
  have un : ∀ {l : List Addr}, (l.map Value.ref).map adV = l := fun {l} => by
    rw [List.map_map]
    exact (List.map_congr_left fun _ _ => rfl).trans (List.map_id l)
  refine ⟨out.map adV, ?_, ?_⟩
  · rw [List.map_map]
    have e : ∀ v ∈ out, (Value.ref ∘ adV) v = v := fun v hv => by
      obtain ⟨a, _, rfl⟩ := List.mem_map.mp (pm.mem_iff.mp hv)
      rfl
    exact ((List.map_congr_left e).trans (List.map_id' out)).symm
  · have z := pm.map adV
    rw [un] at z
    exact z
theorem pe_sortLen {e : Expr} {te : TE} {p q1 kpos pos : Pos} (hg : Gl X "sorted") (hm : X.mg "sorted" = none) (hg2 : Gl X "len") (hm2 : X.mg "len" = none) (ha : PE X e te)
    (hs : starEach [e] X.env = [(false, eval e X.env)] := by rfl) :
    PE X (.Call (.Name "sorted" p) [e] [⟨some (Str.ofString "key"), .Name "len" q1, kpos⟩] pos) (tSortLen X.K te) := by
  refine ⟨fun pins s σ H Q I h => ?_⟩
  refine wpAny_Call_Name_kw (ld_blt I hg hm (by decide +kernel : bootBuiltins "sorted" = some (.builtin "sorted")) ?_ (by decide) (by decide))
  have one : PA X [e] (tCons te tNil) := pa_cons ha pa_nil (by rw [hs]; rfl)
  refine PyProof.Rows.callWith_kw (thn (one.run pos pins s σ H (fun xs H1 => match xs with
    | [x] => ∃ (a : Addr) (ls : List Addr), x = V.ref a ∧ SqL X.K H1 a (ls.map V.ref) ∧ ls.length ≤ 100000 ∧ (∀ l ∈ ls, ∃ ys, H1 l = some (.lst ys)) ∧
        ∀ (ls' : List Addr) (p : Addr), ls'.Perm ls → H1 p = none → Q (.ref p) (upd H1 p (.lst (ls'.map V.ref)))
    | _ => False) I h) fun us s1 ⟨vs, H1, I1, r1, hq⟩ => ?_) (by rw [hs]; rfl) (by rw [hs]; rfl) (by rfl) (by rfl)
  match vs, hq with
  | [], hq => exact hq.elim
  | _ :: _ :: _, hq => exact hq.elim
  | [x], ⟨a, ls, ex, hl, hz, hls, q⟩ =>
    subst ex
    rw [Vals.ref1 r1]
    refine wpAny_evalAll_cons ?_
    show wpAny _ _ (do let v ← eval (.Name "len" q1) X.env; standAt pos; pure v) _ _ s1
    refine wpAny_bind (ld_blt I1 hg2 hm2 PySem.boot_len (wpAny_bind (wpAny_standAt (wpAny_pure (wpAny_evalAll_nil ?_)))) (by decide) (by decide))
    show wpAny _ _ (call (.builtin "sorted") [.ref a] [(Str.ofString "key", .builtin "len")]) _ _ s1
    obtain ⟨its, rv, pl, _⟩ := I1.list hl
    obtain rfl := refs_vals rv
    have kk : ∃ kz : List Int, kz.length = (ls.map Value.ref).length ∧ ∀ (i : Nat) (v : Value) (k : Int), (ls.map Value.ref)[i]? = some v → kz[i]? = some k → ∃ l its, v = Value.ref l ∧ s1.heap.IsList l its ∧ k = its.size ∧ (its.size : Int) < 2 ^ 63 := by
      have sz : ∀ l ∈ ls, ∃ its : Array Value, s1.heap.IsList l its ∧ (its.size : Int) < 2 ^ 63 := fun l hm => by
        obtain ⟨ys, hy⟩ := hls l hm
        obtain ⟨its, r, pl2, hz2⟩ := I1.list (SqL.of (K := X.K) hy)
        refine ⟨its.toArray, pl2.isList, ?_⟩
        rw [r.length, sizeLine_eq] at hz2
        rw [List.size_toArray]
        omega
      have all : ∀ l : Addr, ∃ n : Int, l ∈ ls → ∃ its : Array Value, s1.heap.IsList l its ∧ n = its.size ∧ (its.size : Int) < 2 ^ 63 := fun l => by
        by_cases hm : l ∈ ls
        · obtain ⟨its, h1, h2⟩ := sz l hm
          exact ⟨its.size, fun _ => ⟨its, h1, rfl, h2⟩⟩
        · exact ⟨0, fun z => absurd z hm⟩
      refine ⟨ls.map fun l => Classical.choose (all l), by simp, fun i v k hv hk => ?_⟩
      rw [List.getElem?_map] at hv hk
      obtain ⟨l, h1, rfl⟩ := Option.map_eq_some_iff.mp hv
      rw [h1] at hk
      cases hk
      obtain ⟨its, a1, a2, a3⟩ := Classical.choose_spec (all l) (List.mem_of_getElem? h1)
      exact ⟨l, its, rfl, a1, a2, a3⟩
    obtain ⟨kz, lk, turn⟩ := kk
    refine sorted_by (P := X.prog) (w := X.w) (kz := kz) pl.isList lk (by rw [List.length_map]; exact hz) (fun i v k hv hk A' g tk Q' gk hq => ?_) fun g tk out p c pm gk hp gp => ?_
    · obtain ⟨l, its, rfl, ⟨o, ho, hr⟩, rfl, fit⟩ := turn i v k hv hk
      exact Calls.call_len_list (s := { s1 with heap := g, toks := tk }) ⟨o, gk l o ho, hr⟩ fit (hq _ _)
    · obtain ⟨ls', rfl, pl'⟩ := refs_perm pm
      have hn := I1.hok.fresh hp
      refine ⟨.ref p, upd H1 p (.lst (ls'.map V.ref)), I1.laid (t' := tk) gk hp ⟨by rw [List.length_map, pl'.length_eq, sizeLine_eq]; omega, _, c, vals_refs ls', gp⟩, rfl, q ls' p pl' hn⟩
end
/-! ### (x,) * k -/
theorem tup_mul0 (l : Addr) (v : Value) (n : Nat) (dd : Option Addr) (sl : Array (Option Value)) (u : Tok) :
    Meets (Builtin.«tuple.__mul__» ⟨[.ref l, .int 0 u], []⟩) (fun _ R s => s.heap.get? l = some { cls := .type "tuple", dict := dd, data := .seq #[v] n, slots := sl } ∧
      R (.ok (.ret (Value.ref s.heap.objs.size))) { s with heap := s.heap.push { cls := Value.type "tuple", data := Data.seq #[] }, toks := s.toks }) :=
  .of_wp fun prog w A R s h => by
    obtain ⟨hp, g, d, tk, os⟩ := s
    obtain ⟨hl, h⟩ := h
    have f1 := AutoSeq1.idx_int
    wp_walk using wpAny_loadPart' hl
    repeat (first
      | (refine wpAny_ite_false (by decide) ?_; wp_walk using wpAny_loadPart' hl)
      | (refine wpAny_ite_true (by decide) ?_; wp_walk using wpAny_loadPart' hl))
    exact ⟨_, rfl, h⟩
theorem tup_mul1 (l : Addr) (v : Value) (n : Nat) (dd : Option Addr) (sl : Array (Option Value)) (u : Tok) :
    Meets (Builtin.«tuple.__mul__» ⟨[.ref l, .int 1 u], []⟩) (fun _ R s => s.heap.get? l = some { cls := .type "tuple", dict := dd, data := .seq #[v] n, slots := sl } ∧ R (.ok (.ret (Value.ref l))) s) :=
  .of_wp fun prog w A R s h => by
    obtain ⟨hp, g, d, tk, os⟩ := s
    obtain ⟨hl, h⟩ := h
    have f1 := AutoSeq1.idx_int
    wp_walk using wpAny_loadPart' hl
    repeat (first
      | (refine wpAny_ite_false (by decide) ?_; wp_walk using wpAny_loadPart' hl)
      | (refine wpAny_ite_true (by decide) ?_; wp_walk using wpAny_loadPart' hl))
    exact ⟨_, rfl, h⟩
def rRep1 (K : PySem.W.Frag) : R2 := fun x y H Q => ∃ l k z, x = .ref l ∧ y = .int k ∧ SqT K H l [z] ∧ 0 ≤ k ∧ k ≤ 1000 ∧ (k = 1 → Q (.ref l) H) ∧ (k ≠ 1 → ∀ p, H p = none → Q (.ref p) (upd H p (.tup (List.replicate k.toNat z))))
theorem op_rep1 {X : Cx} : OpR X (binaryOp .Mult) (rRep1 X.K) := by
  intro pins s σ H x y v u Q I rx ry h
  obtain ⟨l, k, z, rfl, rfl, hT, h0, hk, q1, q2⟩ := h
  by_cases two : 2 ≤ k
  · refine op_repT pins s σ H _ _ v u Q I rx ry ⟨l, k, [z], rfl, rfl, hT, by simp, two, hk, by simp, fun p hp => ?_⟩
    have e : (List.replicate k.toNat [z]).flatten = List.replicate k.toNat z := by
      generalize k.toNat = m
      induction m with
      | zero => rfl
      | succ m ih => rw [List.replicate_succ, List.replicate_succ, List.flatten_cons, ih]; rfl
    rw [e]
    exact q2 (by omega) p hp
  · cases rx
    obtain ⟨t, rfl⟩ := ry
    obtain ⟨its, r, ⟨⟨cls, dd, data, sl⟩, ho, hc, n, hd⟩, hs⟩ := I.tuple hT
    simp only at hc hd
    subst hc hd
    cases r with
    | cons r rr =>
      cases rr
      rename_i v0
      have one : k = 0 ∨ k = 1 := by omega
      rcases one with rfl | rfl
      · refine wpAny_binaryOp_repeat_ref (T := "tuple") (U := "int") (by decide) ⟨_, ho, rfl⟩ (fun s' => typeIs_int s' 0 t) noFill_tuple_mul F.fills_int_mul F.slot_int_rmul repeat_tuple F.slot_int_index.lookup
          (call_meets F.slot_int_rmul (typeIs_int s 0 t) F.entry_int_rmul (F.args_int_rmul_2 _ _) (int_rmul_tuple 0 t l _ n dd sl)
            ⟨ho, rfl, ⟨_, ho, rfl⟩, call_meets F.slot_tuple_mul ⟨_, ho, rfl⟩ F.entry_tuple_mul (F.args_tuple_mul_2 _ _) (tup_mul0 l v0 n dd sl t) ⟨ho, ?_⟩⟩)
        have hn := I.hok.fresh (Nat.le_refl s.heap.objs.size)
        exact ⟨.ref s.heap.objs.size, _, I.laid (t' := s.toks) (o := .tup []) (fun b ob e => Heap.get?_push_of_some _ e) (Nat.le_refl _) ⟨Nat.zero_le _, [], .nil, IsTup.new _ _⟩, rfl, q2 (by decide) _ hn⟩
      · refine wpAny_binaryOp_repeat_ref (T := "tuple") (U := "int") (by decide) ⟨_, ho, rfl⟩ (fun s' => typeIs_int s' 1 t) noFill_tuple_mul F.fills_int_mul F.slot_int_rmul repeat_tuple F.slot_int_index.lookup
          (call_meets F.slot_int_rmul (typeIs_int s 1 t) F.entry_int_rmul (F.args_int_rmul_2 _ _) (int_rmul_tuple 1 t l _ n dd sl)
            ⟨ho, rfl, ⟨_, ho, rfl⟩, call_meets F.slot_tuple_mul ⟨_, ho, rfl⟩ F.entry_tuple_mul (F.args_tuple_mul_2 _ _) (tup_mul1 l v0 n dd sl t) ⟨ho, ?_⟩⟩)
        exact ⟨.ref l, H, I, rfl, q1 rfl⟩
/-! ### stores of four numbers: what is least of them (plain Lean) -/
def le4 : List Int → List Int → Bool
  | [a, b, c, d], [e, f, g, h] => decide (a ≤ e) && (decide (b ≤ f) && (decide (c ≤ g) && decide (d ≤ h)))
  | _, _ => false
def Ok4 (x : List Int) : Prop := ∃ a b c d : Int, x = [a, b, c, d] ∧ 0 ≤ a ∧ 0 ≤ b ∧ 0 ≤ c ∧ 0 ≤ d
theorem le4_iff {a b c d e f g h : Int} : le4 [a, b, c, d] [e, f, g, h] = true ↔ a ≤ e ∧ b ≤ f ∧ c ≤ g ∧ d ≤ h := by
  simp only [le4, Bool.and_eq_true, decide_eq_true_eq]
theorem le4_len {x y : List Int} (h : le4 x y = true) : ∃ a b c d e f g i : Int, x = [a, b, c, d] ∧ y = [e, f, g, i] ∧ a ≤ e ∧ b ≤ f ∧ c ≤ g ∧ d ≤ i := by
  match x, y, h with
  | [a, b, c, d], [e, f, g, i], h =>
    obtain ⟨h1, h2, h3, h4⟩ := le4_iff.mp h
    exact ⟨a, b, c, d, e, f, g, i, rfl, rfl, h1, h2, h3, h4⟩
theorem le4_refl {x : List Int} (h : Ok4 x) : le4 x x = true := by
  obtain ⟨a, b, c, d, rfl, _⟩ := h
  exact le4_iff.mpr ⟨Int.le_refl _, Int.le_refl _, Int.le_refl _, Int.le_refl _⟩
theorem le4_trans {x y z : List Int} (h1 : le4 x y = true) (h2 : le4 y z = true) : le4 x z = true := by
  obtain ⟨a, b, c, d, e, f, g, i, rfl, rfl, p⟩ := le4_len h1
  obtain ⟨_, _, _, _, j, k, l, m, e1, rfl, q⟩ := le4_len h2
  cases e1
  exact le4_iff.mpr ⟨by omega, by omega, by omega, by omega⟩
theorem le4_anti {x y : List Int} (h1 : le4 x y = true) (h2 : le4 y x = true) : x = y := by
  obtain ⟨a, b, c, d, e, f, g, i, rfl, rfl, p⟩ := le4_len h1
  have q := le4_iff.mp h2
  have e1 : a = e := by omega
  have e2 : b = f := by omega
  have e3 : c = g := by omega
  have e4 : d = i := by omega
  rw [e1, e2, e3, e4]
/-- what is covered stands ahead, or is the same -/
theorem le4_lex {x y : List Int} (h : le4 x y = true) : HT.lexLt y x = false := by
  obtain ⟨a, b, c, d, e, f, g, i, rfl, rfl, p⟩ := le4_len h
  simp only [HT.lexLt]
  split
  · split
    · split
      · split
        · rfl
        · exact decide_eq_false (by omega)
      · exact decide_eq_false (by omega)
    · exact decide_eq_false (by omega)
  · exact decide_eq_false (by omega)
theorem lex4_tot {x y : List Int} (hx : x.length = y.length) (h : HT.lexLt y x = false) : x = y ∨ HT.lexLt x y = true := by
  induction x generalizing y with
  | nil =>
    cases y with
    | nil => exact .inl rfl
    | cons b y => simp at hx
  | cons a x ih =>
    cases y with
    | nil => simp at hx
    | cons b y =>
      rw [HT.lexLt_cons] at h ⊢
      by_cases e : a = b
      · subst e
        rw [if_pos rfl] at h ⊢
        rcases ih (by simpa using hx) h with rfl | z
        · exact .inl rfl
        · exact .inr z
      · rw [if_neg (fun z => e z.symm)] at h
        rw [if_neg e]
        have := of_decide_eq_false h
        exact .inr (decide_eq_true (by omega))
theorem lex_irr (x : List Int) : HT.lexLt x x = false := by
  induction x with
  | nil => rfl
  | cons a x ih =>
    rw [HT.lexLt_cons, if_pos rfl]
    exact ih
def UpS (S : List (List Int)) (x : List Int) : Prop := ∃ y ∈ S, le4 y x = true
def anyLe (x : List Int) (S : List (List Int)) : Bool := S.any fun y => le4 y x
theorem anyLe_iff {x : List Int} {S : List (List Int)} : anyLe x S = true ↔ UpS S x := by
  unfold anyLe UpS
  rw [List.any_eq_true]
theorem UpS.mono {S : List (List Int)} {x y : List Int} (h : UpS S x) (l : le4 x y = true) : UpS S y :=
  let ⟨z, hz, e⟩ := h; ⟨z, hz, le4_trans e l⟩
/-- M: the least ones of U, sorted -/
structure Canon (M : List (List Int)) (U : List Int → Prop) : Prop where
  ok : ∀ x ∈ M, Ok4 x
  srt : M.Pairwise fun x y => HT.lexLt x y = true
  anti : ∀ x ∈ M, ∀ y ∈ M, le4 x y = true → x = y
  up : ∀ x, Ok4 x → (UpS M x ↔ U x)
theorem Canon.congr {M : List (List Int)} {U V : List Int → Prop} (c : Canon M U) (h : ∀ x, Ok4 x → (U x ↔ V x)) : Canon M V :=
  ⟨c.ok, c.srt, c.anti, fun x hx => (c.up x hx).trans (h x hx)⟩
theorem Canon.mem {M N : List (List Int)} {U : List Int → Prop} (c : Canon M U) (d : Canon N U) {x : List Int} (hx : x ∈ M) : x ∈ N := by
  have ox := c.ok x hx
  obtain ⟨y, hy, l1⟩ := (d.up x ox).mpr ((c.up x ox).mp ⟨x, hx, le4_refl ox⟩)
  have oy := d.ok y hy
  obtain ⟨z, hz, l2⟩ := (c.up y oy).mpr ((d.up y oy).mp ⟨y, hy, le4_refl oy⟩)
  have e := c.anti z hz x hx (le4_trans l2 l1)
  subst e
  rw [le4_anti l2 l1]
  exact hy
theorem srt_eq : ∀ {M N : List (List Int)}, (M.Pairwise fun x y => HT.lexLt x y = true) → (N.Pairwise fun x y => HT.lexLt x y = true) → (∀ x, x ∈ M ↔ x ∈ N) → M = N
  | [], [], _, _, _ => rfl
  | [], y :: N, _, _, h => absurd ((h y).mpr List.mem_cons_self) (by simp)
  | x :: M, [], _, _, h => absurd ((h x).mp List.mem_cons_self) (by simp)
  | x :: M, y :: N, hM, hN, h => by
    obtain ⟨m1, m2⟩ := List.pairwise_cons.mp hM
    obtain ⟨n1, n2⟩ := List.pairwise_cons.mp hN
    have e : x = y := by
      rcases List.mem_cons.mp ((h x).mp List.mem_cons_self) with e | e
      · exact e
      · rcases List.mem_cons.mp ((h y).mpr List.mem_cons_self) with e2 | e2
        · exact e2.symm
        · have a := n1 x e
          have b := m1 y e2
          rw [NtL.lex_asym _ _ a] at b
          cases b
    subst e
    refine congrArg (x :: ·) (srt_eq m2 n2 fun z => ⟨fun hz => ?_, fun hz => ?_⟩)
    · rcases List.mem_cons.mp ((h z).mp (List.mem_cons_of_mem _ hz)) with rfl | r
      · have a := m1 z hz
        rw [lex_irr] at a
        cases a
      · exact r
    · rcases List.mem_cons.mp ((h z).mpr (List.mem_cons_of_mem _ hz)) with rfl | r
      · have a := n1 z hz
        rw [lex_irr] at a
        cases a
      · exact r
theorem Canon.uniq {M N : List (List Int)} {U : List Int → Prop} (c : Canon M U) (d : Canon N U) : M = N := srt_eq c.srt d.srt fun _ => ⟨c.mem d, d.mem c⟩
/-- sorted ones gone through: each that covers no one found yet -/
def sieve : List (List Int) → List (List Int) → List (List Int)
  | found, [] => found
  | found, x :: r => if anyLe x found then sieve found r else sieve (found ++ [x]) r
theorem sieve_snoc : ∀ (T found : List (List Int)) (x : List Int), sieve found (T ++ [x]) = if anyLe x (sieve found T) then sieve found T else sieve found T ++ [x]
  | [], found, x => rfl
  | y :: T, found, x => by
    cases h : anyLe y found with
    | true =>
      have e1 : sieve found (y :: T ++ [x]) = sieve found (T ++ [x]) := if_pos h
      have e2 : sieve found (y :: T) = sieve found T := if_pos h
      rw [e1, e2]
      exact sieve_snoc T found x
    | false =>
      have e1 : sieve found (y :: T ++ [x]) = sieve (found ++ [y]) (T ++ [x]) := if_neg (by rw [h]; decide)
      have e2 : sieve found (y :: T) = sieve (found ++ [y]) T := if_neg (by rw [h]; decide)
      rw [e1, e2]
      exact sieve_snoc T _ x
theorem sieve_ok {T : List (List Int)} (ok : ∀ x ∈ T, Ok4 x) (srt : T.Pairwise fun x y => HT.lexLt x y = true) : ∀ n, n ≤ T.length →
    (∀ x ∈ sieve [] (T.take n), x ∈ T.take n) ∧ ((sieve [] (T.take n)).Pairwise fun x y => HT.lexLt x y = true) ∧ (∀ x ∈ sieve [] (T.take n), ∀ y ∈ sieve [] (T.take n), le4 x y = true → x = y) ∧ (∀ x, UpS (sieve [] (T.take n)) x ↔ UpS (T.take n) x)
  | 0, _ => by
    rw [List.take_zero]
    exact ⟨fun x h => h, List.Pairwise.nil, fun x h => (nomatch h), fun x => Iff.rfl⟩
  | n + 1, hn => by
    obtain ⟨i1, i2, i3, i4⟩ := sieve_ok ok srt n (by omega)
    obtain ⟨x, hx⟩ : ∃ x, T[n]? = some x := ⟨_, List.getElem?_eq_getElem hn⟩
    have et : T.take (n + 1) = T.take n ++ [x] := by rw [List.take_succ, hx]; rfl
    have before : ∀ y ∈ T.take n, HT.lexLt y x = true := fun y hy => by
      have s := srt.sublist (List.take_sublist (n + 1) T)
      rw [et] at s
      exact (List.pairwise_append.mp s).2.2 y hy x (List.mem_singleton.mpr rfl)
    rw [et, sieve_snoc]
    by_cases c : anyLe x (sieve [] (T.take n)) = true
    · rw [if_pos c]
      refine ⟨fun y hy => List.mem_append_left _ (i1 y hy), i2, i3, fun y => ⟨fun h => ?_, fun h => ?_⟩⟩
      · obtain ⟨z, hz, e⟩ := (i4 y).mp h
        exact ⟨z, List.mem_append_left _ hz, e⟩
      · obtain ⟨z, hz, e⟩ := h
        rcases List.mem_append.mp hz with hz | hz
        · exact (i4 y).mpr ⟨z, hz, e⟩
        · rw [List.mem_singleton.mp hz] at e
          exact (anyLe_iff.mp c).mono e
    · rw [if_neg c]
      have no : ∀ y ∈ sieve [] (T.take n), ¬ le4 y x = true := fun y hy e => c (anyLe_iff.mpr ⟨y, hy, e⟩)
      refine ⟨fun y hy => ?_, List.pairwise_append.mpr ⟨i2, List.pairwise_singleton _ _, fun y hy z hz => ?_⟩, fun y hy z hz e => ?_, fun y => ⟨fun h => ?_, fun h => ?_⟩⟩
      · rcases List.mem_append.mp hy with hy | hy
        · exact List.mem_append_left _ (i1 y hy)
        · exact List.mem_append_right _ hy
      · rw [List.mem_singleton.mp hz]
        exact before y (i1 y hy)
      · rcases List.mem_append.mp hy with hy | hy
        · rcases List.mem_append.mp hz with hz | hz
          · exact i3 y hy z hz e
          · rw [List.mem_singleton.mp hz] at e
            exact absurd e (no y hy)
        · rw [List.mem_singleton.mp hy] at e ⊢
          rcases List.mem_append.mp hz with hz | hz
          · have a := le4_lex e
            rw [before z (i1 z hz)] at a
            cases a
          · exact (List.mem_singleton.mp hz).symm
      · obtain ⟨z, hz, e⟩ := h
        rcases List.mem_append.mp hz with hz | hz
        · obtain ⟨u, hu, e2⟩ := (i4 y).mp ⟨z, hz, e⟩
          exact ⟨u, List.mem_append_left _ hu, e2⟩
        · exact ⟨z, List.mem_append_right _ hz, e⟩
      · obtain ⟨z, hz, e⟩ := h
        rcases List.mem_append.mp hz with hz | hz
        · obtain ⟨u, hu, e2⟩ := (i4 y).mpr ⟨z, hz, e⟩
          exact ⟨u, List.mem_append_left _ hu, e2⟩
        · exact ⟨z, List.mem_append_right _ hz, e⟩
theorem sieve_len : ∀ (T found : List (List Int)), (sieve found T).length ≤ found.length + T.length
  | [], _ => Nat.le_refl _
  | x :: T, found => by
    simp only [sieve]
    split
    · have := sieve_len T found
      rw [List.length_cons]
      omega
    · have := sieve_len T (found ++ [x])
      rw [List.length_append, List.length_singleton] at this
      rw [List.length_cons]
      omega
theorem sieve_canon {T : List (List Int)} (ok : ∀ x ∈ T, Ok4 x) (srt : T.Pairwise fun x y => HT.lexLt x y = true) : Canon (sieve [] T) (UpS T) := by
  obtain ⟨i1, i2, i3, i4⟩ := sieve_ok ok srt T.length (Nat.le_refl _)
  rw [List.take_length] at i1 i2 i3 i4
  exact ⟨fun x hx => ok x (i1 x hx), i2, i3, fun x _ => i4 x⟩
/-! ### what a way needs, what covers both -/
def need4 (w s : List Int) : List Int := List.zipWith (fun x y => max 0 (y - x)) w s
def join4 (x y : List Int) : List Int := List.zipWith max x y
def add4 (x w : List Int) : List Int := List.zipWith (· + ·) x w
theorem need4_ok {w s : List Int} (hw : w.length = 4) (hs : Ok4 s) : Ok4 (need4 w s) := by
  obtain ⟨a, b, c, d, rfl, _⟩ := hs
  match w, hw with
  | [e, f, g, h], _ => exact ⟨max 0 (a - e), max 0 (b - f), max 0 (c - g), max 0 (d - h), rfl, by omega, by omega, by omega, by omega⟩
theorem join4_ok {x y : List Int} (hx : Ok4 x) (hy : Ok4 y) : Ok4 (join4 x y) := by
  obtain ⟨a, b, c, d, rfl, _⟩ := hx
  obtain ⟨e, f, g, h, rfl, _⟩ := hy
  exact ⟨max a e, max b f, max c g, max d h, rfl, by omega, by omega, by omega, by omega⟩
theorem join4_le {x y z : List Int} (hx : Ok4 x) (hy : Ok4 y) (hz : Ok4 z) : le4 (join4 x y) z = true ↔ le4 x z = true ∧ le4 y z = true := by
  obtain ⟨a, b, c, d, rfl, _⟩ := hx
  obtain ⟨e, f, g, h, rfl, _⟩ := hy
  obtain ⟨i, j, k, l, rfl, _⟩ := hz
  show le4 [max a e, max b f, max c g, max d h] [i, j, k, l] = true ↔ _
  rw [le4_iff, le4_iff, le4_iff]
  omega
/-- x covers what the way w needs for s just where w leads from x to what covers s -/
theorem need4_le {w s x : List Int} (hw : w.length = 4) (hs : Ok4 s) (hx : Ok4 x) : le4 (need4 w s) x = true ↔ Ok4 (add4 x w) ∧ le4 s (add4 x w) = true := by
  obtain ⟨a, b, c, d, rfl, _⟩ := hs
  obtain ⟨i, j, k, l, rfl, _⟩ := hx
  match w, hw with
  | [e, f, g, h], _ =>
    show le4 [max 0 (a - e), max 0 (b - f), max 0 (c - g), max 0 (d - h)] [i, j, k, l] = true ↔ Ok4 [i + e, j + f, k + g, l + h] ∧ le4 [a, b, c, d] [i + e, j + f, k + g, l + h] = true
    rw [le4_iff, le4_iff]
    constructor
    · intro z
      exact ⟨⟨_, _, _, _, rfl, by omega, by omega, by omega, by omega⟩, by omega⟩
    · rintro ⟨_, z⟩
      omega
/-- the ones of A that cover one of B, and joined ones of the others -/
def bothL (A B : List (List Int)) : List (List Int) := A.flatMap fun s => if anyLe s B then [s] else B.map (join4 s)
theorem bothL_ok {A B : List (List Int)} (hA : ∀ x ∈ A, Ok4 x) (hB : ∀ x ∈ B, Ok4 x) : ∀ x ∈ bothL A B, Ok4 x := fun x hx => by
  obtain ⟨s, hs, h⟩ := List.mem_flatMap.mp hx
  split at h
  · rw [List.mem_singleton.mp h]
    exact hA s hs
  · obtain ⟨t, ht, rfl⟩ := List.mem_map.mp h
    exact join4_ok (hA s hs) (hB t ht)
theorem bothL_up {A B : List (List Int)} (hA : ∀ x ∈ A, Ok4 x) (hB : ∀ x ∈ B, Ok4 x) {x : List Int} (hx : Ok4 x) : UpS (bothL A B) x ↔ UpS A x ∧ UpS B x := by
  constructor
  · rintro ⟨y, hy, l⟩
    obtain ⟨s, hs, h⟩ := List.mem_flatMap.mp hy
    split at h
    · rename_i c
      rw [List.mem_singleton.mp h] at l
      exact ⟨⟨s, hs, l⟩, (anyLe_iff.mp c).mono l⟩
    · obtain ⟨t, ht, rfl⟩ := List.mem_map.mp h
      have z := (join4_le (hA s hs) (hB t ht) hx).mp l
      exact ⟨⟨s, hs, z.1⟩, ⟨t, ht, z.2⟩⟩
  · rintro ⟨⟨s, hs, l1⟩, ⟨t, ht, l2⟩⟩
    by_cases c : anyLe s B = true
    · exact ⟨s, List.mem_flatMap.mpr ⟨s, hs, by rw [if_pos c]; exact List.mem_singleton.mpr rfl⟩, l1⟩
    · exact ⟨join4 s t, List.mem_flatMap.mpr ⟨s, hs, by rw [if_neg c]; exact List.mem_map.mpr ⟨t, ht, rfl⟩⟩, (join4_le (hA s hs) (hB t ht) hx).mpr ⟨l1, l2⟩⟩
theorem bothL_len {A B : List (List Int)} : (bothL A B).length ≤ A.length * (B.length + 1) := by
  unfold bothL
  induction A with
  | nil => simp
  | cons s A ih =>
    rw [List.flatMap_cons, List.length_append, List.length_cons, Nat.succ_mul]
    have : (if anyLe s B then [s] else B.map (join4 s)).length ≤ B.length + 1 := by
      split
      · simp
      · simp
    omega
/-! ### how many asks a store lasts -/
abbrev Asks := List (List (List Int))
def LN (asks : Asks) : Nat → List Int → Prop
  | 0, _ => True
  | n + 1, x => ∀ a ∈ asks, ∃ w ∈ a, Ok4 (add4 x w) ∧ LN asks n (add4 x w)
def Nd (asks : Asks) (j : Nat) (a : List (List Int)) (x : List Int) : Prop := ∃ w ∈ a, Ok4 (add4 x w) ∧ LN asks j (add4 x w)
theorem LN.down {asks : Asks} : ∀ {n : Nat} {x : List Int}, LN asks (n + 1) x → LN asks n x
  | 0, _, _ => True.intro
  | _ + 1, _, h => fun a ha => let ⟨w, hw, o, z⟩ := h a ha; ⟨w, hw, o, LN.down z⟩
theorem LN.le {asks : Asks} {n m : Nat} {x : List Int} (h : LN asks m x) (l : n ≤ m) : LN asks n x := by
  induction l with
  | refl => exact h
  | step _ ih => exact ih h.down
/-- from where two are alike all are -/
theorem LN.rest {asks : Asks} {j : Nat} (e : ∀ x, Ok4 x → (LN asks j x ↔ LN asks (j + 1) x)) : ∀ (k : Nat) (x : List Int), Ok4 x → (LN asks j x ↔ LN asks (j + k) x)
  | 0, _, _ => Iff.rfl
  | k + 1, x, hx => by
    refine ((e x hx).trans ⟨fun h a ha => ?_, fun h a ha => ?_⟩)
    · obtain ⟨w, hw, o, z⟩ := h a ha
      exact ⟨w, hw, o, (LN.rest e k _ o).mp z⟩
    · obtain ⟨w, hw, o, z⟩ := h a ha
      exact ⟨w, hw, o, (LN.rest e k _ o).mpr z⟩
theorem ok_zero : Ok4 [0, 0, 0, 0] := ⟨0, 0, 0, 0, rfl, by decide, by decide, by decide, by decide⟩
theorem canon_zero (asks : Asks) : Canon [[0, 0, 0, 0]] (LN asks 0) := by
  refine ⟨fun x hx => by rw [List.mem_singleton.mp hx]; exact ok_zero, List.pairwise_singleton _ _, fun x hx y hy _ => by rw [List.mem_singleton.mp hx, List.mem_singleton.mp hy], fun x hx => ⟨fun _ => True.intro, fun _ => ?_⟩⟩
  obtain ⟨a, b, c, d, rfl, h⟩ := hx
  exact ⟨_, List.mem_singleton.mpr rfl, le4_iff.mpr h⟩
/-- the needs of an ask, from the least ones -/
theorem needs_up {asks : Asks} {j : Nat} {B : List (List Int)} (c : Canon B (LN asks j)) {a : List (List Int)} (hw : ∀ w ∈ a, w.length = 4) {x : List Int} (hx : Ok4 x) :
    UpS (a.flatMap fun w => B.map (need4 w)) x ↔ Nd asks j a x := by
  constructor
  · rintro ⟨y, hy, l⟩
    obtain ⟨w, ha, h⟩ := List.mem_flatMap.mp hy
    obtain ⟨s, hs, rfl⟩ := List.mem_map.mp h
    obtain ⟨o, z⟩ := (need4_le (hw w ha) (c.ok s hs) hx).mp l
    exact ⟨w, ha, o, (c.up _ o).mp ⟨s, hs, z⟩⟩
  · rintro ⟨w, ha, o, z⟩
    obtain ⟨s, hs, l⟩ := (c.up _ o).mpr z
    exact ⟨need4 w s, List.mem_flatMap.mpr ⟨w, ha, List.mem_map.mpr ⟨s, hs, rfl⟩⟩, (need4_le (hw w ha) (c.ok s hs) hx).mpr ⟨o, l⟩⟩
/-- few enough all the way -/
structure Few (asks : Asks) (n m : Nat) : Prop where
  sq : m * (m + 1) < 4096
  fv : m * 5 < 4096
  all : ∀ j, j < n → ∀ as : Asks, (∀ a ∈ as, a ∈ asks) → ∀ M, Canon M (fun x => LN asks j x ∧ ∀ a ∈ as, Nd asks j a x) → M.length ≤ m
  one : ∀ j, j < n → ∀ a ∈ asks, ∀ M, Canon M (Nd asks j a) → M.length ≤ m
/-! ### t[a:b], the whole of t too -/
open HT (sIx)
section
variable {P : Program} {w : World} {A : Around} {E : Value → Shared → Prop} {s : Shared}
theorem tup_whole {t sl : Addr} {items : Array Value} {vl vu : Value} {lo hi : Option Int} {Q : Value → Shared → Prop} (ht : IsTup s.heap t items) (hs : s.heap.IsSliceOf sl vl vu .none) (pl : IsPart vl lo) (pu : IsPart vu hi)
    (w1 : sIx items.size 0 lo = 0) (w2 : sIx items.size items.size hi = items.size) (h : Q (.ref t) s) : wpAny (model P w) A (getItem (.ref t) (.ref sl)) Q E s := by
  obtain ⟨os, hos, hcs, hds⟩ := id hs
  have hTs : s.TypeIs (.ref sl) "slice" := ⟨os, hos, hcs⟩
  unfold getItem
  try with_reducible refine wpAny_holding ?_
  first
    | refine wpAny_bind (wpAny_pure ?_)
    | skip
  refine wpAny_bind (wpAny_sequenceKey ht.typeIs (by decide) (wpAny_bind (wpAny_callSpecial?_slot (name := Str.ofString "__getitem__") ht.typeIs PyProof.Rows.slot_tuple_getitem
    (wpAny_call_entry PyProof.Rows.slot_tuple_getitem ht.typeIs PyProof.Rows.entry_tuple_getitem ?_ (PyProof.Rows.args_tuple_getitem _ _)))))
  show wpAny _ _ (Builtin.Tuple.tupleItemsOf (.ref t) >>= _) _ _ s
  refine wpAny_bind (PyProof.Rows.tupleItemsOf_ ht (wpAny_bind (wpAny_typeOf hTs ?_)))
  rw [if_pos (by decide)]
  refine wpAny_bind (HT.sliceApplied_gen hs pl pu ?_)
  rw [w1, w2]
  show wpAny _ _ (if (((0 : Nat) : Int) == 0 && (1 : Int) == 1 && (items.size - 0) == items.size) = true then _ else _) _ _ s
  rw [if_pos (by simp)]
  unfold Builtin.Tuple.tupleIsExact
  repeat (first
    | exact wpAny_pure ⟨_, rfl, wpAny_pure h⟩
    | (with_reducible refine wpAny_typeOf ht.typeIs ?_)
    | (with_reducible refine wpAny_rule ?_)
    | wp_step)
end
def rSlA (K : PySem.W.Frag) : V → Option Int → Option Int → Hp → VK → Prop := fun x lo hi H Q => ∃ a xs, x = .ref a ∧ SqT K H a xs ∧
  ((sIx xs.length 0 lo = 0 ∧ sIx xs.length xs.length hi = xs.length) → Q (.ref a) H) ∧ (¬ (sIx xs.length 0 lo = 0 ∧ sIx xs.length xs.length hi = xs.length) → ∀ p, H p = none → Q (.ref p) (upd H p (.tup (cutV xs lo hi))))
theorem sl_tupA {X : Cx} : SlR X (rSlA X.K) := by
  intro pins s σ H x v vl vu lo hi sl Q I rx hs pl pu h
  obtain ⟨a, xs, rfl, hx, q1, q2⟩ := h
  by_cases c : sIx xs.length 0 lo = 0 ∧ sIx xs.length xs.length hi = xs.length
  · cases rx
    obtain ⟨its, r, ht, hz⟩ := I.tuple hx
    have hl : its.toArray.size = xs.length := by rw [List.size_toArray]; exact r.length.symm
    exact ⟨"tuple", _, PyProof.Rows.slot_tuple_getitem.lookup, ht.typeIs, tup_whole ht hs pl pu (by rw [hl]; exact c.1) (by rw [hl]; exact c.2) ⟨.ref a, H, I, rfl, q1 c⟩⟩
  · exact sl_tup pins s σ H _ v vl vu lo hi sl Q I rx hs pl pu ⟨a, xs, rfl, hx, c, q2 c⟩
/-! ### what lasts lasts by what it has up to a bound (plain Lean) -/
def clip4 (t x : List Int) : List Int := List.zipWith min t x
theorem add4_le {x y w : List Int} (h : le4 x y = true) (o : Ok4 (add4 x w)) : Ok4 (add4 y w) ∧ le4 (add4 x w) (add4 y w) = true := by
  obtain ⟨a, b, c, d, e, f, g, i, rfl, rfl, p⟩ := le4_len h
  obtain ⟨p1, p2, p3, p4, q, o⟩ := o
  match w, q with
  | [], q => cases q
  | [_], q => cases q
  | [_, _], q => cases q
  | [_, _, _], q => cases q
  | w1 :: w2 :: w3 :: w4 :: r, q =>
    have q' : [a + w1, b + w2, c + w3, d + w4] = [p1, p2, p3, p4] := q
    obtain ⟨q1, q⟩ := List.cons.inj q'
    obtain ⟨q2, q⟩ := List.cons.inj q
    obtain ⟨q3, q⟩ := List.cons.inj q
    obtain ⟨q4, _⟩ := List.cons.inj q
    exact ⟨⟨e + w1, f + w2, g + w3, i + w4, rfl, by omega, by omega, by omega, by omega⟩, show le4 [a + w1, b + w2, c + w3, d + w4] [e + w1, f + w2, g + w3, i + w4] = true from le4_iff.mpr ⟨by omega, by omega, by omega, by omega⟩⟩
theorem LN.mono {asks : Asks} : ∀ {n : Nat} {x y : List Int}, LN asks n x → le4 x y = true → LN asks n y
  | 0, _, _, _, _ => True.intro
  | _ + 1, _, _, h, l => fun a ha => by
    obtain ⟨w, hw, o, z⟩ := h a ha
    obtain ⟨o2, l2⟩ := add4_le l o
    exact ⟨w, hw, o2, z.mono l2⟩
theorem Nd.mono {asks : Asks} {n : Nat} {a : List (List Int)} {x y : List Int} (h : Nd asks n a x) (l : le4 x y = true) : Nd asks n a y := by
  obtain ⟨w, hw, o, z⟩ := h
  obtain ⟨o2, l2⟩ := add4_le l o
  exact ⟨w, hw, o2, z.mono l2⟩
structure Ways4 (asks : Asks) (s1 s2 s3 s4 : Int) : Prop where
  p1 : 0 ≤ s1
  p2 : 0 ≤ s2
  p3 : 0 ≤ s3
  p4 : 0 ≤ s4
  all : ∀ a ∈ asks, ∀ w ∈ a, ∃ e f g h : Int, w = [e, f, g, h] ∧ (-s1 ≤ e ∧ e ≤ s1) ∧ (-s2 ≤ f ∧ f ≤ s2) ∧ (-s3 ≤ g ∧ g ≤ s3) ∧ (-s4 ≤ h ∧ h ≤ s4)
theorem mul_up (s : Int) (n : Nat) : s * ((n + 1 : Nat) : Int) = s * n + s := by rw [Int.natCast_succ, Int.mul_add, Int.mul_one]
theorem nd_clip {asks : Asks} {s1 s2 s3 s4 : Int} (W : Ways4 asks s1 s2 s3 s4) {n : Nat}
    (ih : ∀ {x : List Int} {t1 t2 t3 t4 : Int}, Ok4 x → s1 * n ≤ t1 → s2 * n ≤ t2 → s3 * n ≤ t3 → s4 * n ≤ t4 → LN asks n x → LN asks n (clip4 [t1, t2, t3, t4] x))
    {a : List (List Int)} (ha : a ∈ asks) {x : List Int} {t1 t2 t3 t4 : Int} (hx : Ok4 x) (h1 : s1 * ((n + 1 : Nat) : Int) ≤ t1) (h2 : s2 * ((n + 1 : Nat) : Int) ≤ t2) (h3 : s3 * ((n + 1 : Nat) : Int) ≤ t3) (h4 : s4 * ((n + 1 : Nat) : Int) ≤ t4)
    (h : Nd asks n a x) : Nd asks n a (clip4 [t1, t2, t3, t4] x) := by
  obtain ⟨w, hw, o, z⟩ := h
  obtain ⟨e, f, g, i, rfl, b1, b2, b3, b4⟩ := W.all a ha w hw
  obtain ⟨x1, x2, x3, x4, rfl, o1, o2, o3, o4⟩ := hx
  rw [mul_up] at h1 h2 h3 h4
  have z2 := ih (t1 := t1 - s1) (t2 := t2 - s2) (t3 := t3 - s3) (t4 := t4 - s4) o (by omega) (by omega) (by omega) (by omega) z
  obtain ⟨y1, y2, y3, y4, q, o⟩ := o
  have q' : [x1 + e, x2 + f, x3 + g, x4 + i] = [y1, y2, y3, y4] := q
  obtain ⟨q1, q⟩ := List.cons.inj q'
  obtain ⟨q2, q⟩ := List.cons.inj q
  obtain ⟨q3, q⟩ := List.cons.inj q
  obtain ⟨q4, _⟩ := List.cons.inj q
  have m1 : 0 ≤ s1 * (n : Int) := Int.mul_nonneg W.p1 (by omega)
  have m2 : 0 ≤ s2 * (n : Int) := Int.mul_nonneg W.p2 (by omega)
  have m3 : 0 ≤ s3 * (n : Int) := Int.mul_nonneg W.p3 (by omega)
  have m4 : 0 ≤ s4 * (n : Int) := Int.mul_nonneg W.p4 (by omega)
  refine ⟨_, hw, ⟨min t1 x1 + e, min t2 x2 + f, min t3 x3 + g, min t4 x4 + i, rfl, by omega, by omega, by omega, by omega⟩, z2.mono ?_⟩
  show le4 [min (t1 - s1) (x1 + e), min (t2 - s2) (x2 + f), min (t3 - s3) (x3 + g), min (t4 - s4) (x4 + i)] [min t1 x1 + e, min t2 x2 + f, min t3 x3 + g, min t4 x4 + i] = true
  rw [le4_iff]
  omega
theorem ln_clip {asks : Asks} {s1 s2 s3 s4 : Int} (W : Ways4 asks s1 s2 s3 s4) : ∀ (n : Nat) {x : List Int} {t1 t2 t3 t4 : Int}, Ok4 x → s1 * n ≤ t1 → s2 * n ≤ t2 → s3 * n ≤ t3 → s4 * n ≤ t4 → LN asks n x → LN asks n (clip4 [t1, t2, t3, t4] x)
  | 0, _, _, _, _, _, _, _, _, _, _, _ => True.intro
  | n + 1, _, _, _, _, _, hx, h1, h2, h3, h4, h => fun a ha => nd_clip W (ln_clip W n) ha hx h1 h2 h3 h4 (h a ha)
theorem clip_ok {x : List Int} {t1 t2 t3 t4 : Int} (hx : Ok4 x) (h1 : 0 ≤ t1) (h2 : 0 ≤ t2) (h3 : 0 ≤ t3) (h4 : 0 ≤ t4) : Ok4 (clip4 [t1, t2, t3, t4] x) ∧ le4 (clip4 [t1, t2, t3, t4] x) x = true := by
  obtain ⟨x1, x2, x3, x4, rfl, o1, o2, o3, o4⟩ := hx
  exact ⟨⟨min t1 x1, min t2 x2, min t3 x3, min t4 x4, rfl, by omega, by omega, by omega, by omega⟩, show le4 [min t1 x1, min t2 x2, min t3 x3, min t4 x4] [x1, x2, x3, x4] = true from le4_iff.mpr ⟨by omega, by omega, by omega, by omega⟩⟩
/-- the least ones lie within the bound -/
theorem canon_box {U : List Int → Prop} {M : List (List Int)} (c : Canon M U) {t1 t2 t3 t4 : Int} (h1 : 0 ≤ t1) (h2 : 0 ≤ t2) (h3 : 0 ≤ t3) (h4 : 0 ≤ t4) (cl : ∀ x, Ok4 x → U x → U (clip4 [t1, t2, t3, t4] x)) :
    ∀ x ∈ M, ∃ a b c d : Int, x = [a, b, c, d] ∧ (0 ≤ a ∧ a ≤ t1) ∧ (0 ≤ b ∧ b ≤ t2) ∧ (0 ≤ c ∧ c ≤ t3) ∧ (0 ≤ d ∧ d ≤ t4) := fun x hx => by
  have ox := c.ok x hx
  obtain ⟨ok, l⟩ := clip_ok ox h1 h2 h3 h4
  obtain ⟨y, hy, l2⟩ := (c.up _ ok).mpr (cl x ox ((c.up x ox).mp ⟨x, hx, le4_refl ox⟩))
  have e := c.anti y hy x hx (le4_trans l2 l)
  subst e
  obtain ⟨a, b, cc, d, rfl, o1, o2, o3, o4⟩ := ox
  have q := le4_iff.mp (show le4 [a, b, cc, d] [min t1 a, min t2 b, min t3 cc, min t4 d] = true from l2)
  exact ⟨a, b, cc, d, rfl, by omega, by omega, by omega, by omega⟩
theorem sub_len {α : Type} [BEq α] [LawfulBEq α] : ∀ {l m : List α}, l.Nodup → (∀ x ∈ l, x ∈ m) → l.length ≤ m.length
  | [], _, _, _ => Nat.zero_le _
  | x :: l, m, nd, h => by
    obtain ⟨n1, n2⟩ := List.nodup_cons.mp nd
    have hx := h x List.mem_cons_self
    have := sub_len (m := m.erase x) n2 fun y hy => (List.mem_erase_of_ne fun e => n1 (by rw [← e]; exact hy)).mpr (h y (List.mem_cons_of_mem _ hy))
    rw [List.length_erase_of_mem hx] at this
    have := List.length_pos_of_mem hx
    rw [List.length_cons]
    omega
theorem boxflat_len {α β : Type} {f : α → List β} {q : Nat} (h : ∀ x, (f x).length = q) : ∀ l : List α, (l.flatMap f).length = l.length * q
  | [] => by simp
  | x :: l => by
    rw [List.flatMap_cons, List.length_append, h, boxflat_len h l, List.length_cons, Nat.succ_mul]
    omega
def key2 : List Int → Nat × Nat
  | a :: b :: _ => (a.toNat, b.toNat)
  | _ => (0, 0)
theorem canon_len {U : List Int → Prop} {M : List (List Int)} (c : Canon M U) {t1 t2 t3 : Int} (h1 : 0 ≤ t1) (h2 : 0 ≤ t2) (h3 : 0 ≤ t3) (cl : ∀ x, Ok4 x → U x → U (clip4 [t1, t2, t3, 0] x)) : M.length ≤ (t1.toNat + 1) * (t2.toNat + 1) := by
  have box := canon_box c h1 h2 h3 (Int.le_refl 0) cl
  have nd : (M.map key2).Nodup := by
    have p : M.Pairwise fun x y => key2 x ≠ key2 y := by
      refine List.Pairwise.imp_of_mem (R := fun x y => HT.lexLt x y = true) (fun {x y} hx hy l e => ?_) c.srt
      obtain ⟨a, b, cc, d, rfl, p1, p2, p3, p4⟩ := box x hx
      obtain ⟨a', b', cc', d', rfl, q1, q2, q3, q4⟩ := box y hy
      obtain ⟨e1, e2⟩ := Prod.mk.inj (show (a.toNat, b.toNat) = (a'.toNat, b'.toNat) from e)
      have ea : a = a' := by omega
      have eb : b = b' := by omega
      have ed : d = d' := by omega
      subst ea
      subst eb
      subst ed
      have same : [a, b, cc, d] = [a, b, cc', d] := by
        by_cases z : cc ≤ cc'
        · exact c.anti _ hx _ hy (le4_iff.mpr ⟨Int.le_refl _, Int.le_refl _, z, Int.le_refl _⟩)
        · exact (c.anti _ hy _ hx (le4_iff.mpr ⟨Int.le_refl _, Int.le_refl _, by omega, Int.le_refl _⟩)).symm
      rw [same, lex_irr] at l
      cases l
    exact List.Pairwise.map _ (fun _ _ h => h) p
  have sub := sub_len (m := (List.range (t1.toNat + 1)).flatMap fun a => (List.range (t2.toNat + 1)).map fun b => (a, b)) nd fun k hk => by
    obtain ⟨x, hx, rfl⟩ := List.mem_map.mp hk
    obtain ⟨a, b, cc, d, rfl, p1, p2, p3, p4⟩ := box x hx
    exact List.mem_flatMap.mpr ⟨a.toNat, List.mem_range.mpr (by omega), List.mem_map.mpr ⟨b.toNat, List.mem_range.mpr (by omega), rfl⟩⟩
  rw [boxflat_len (q := t2.toNat + 1) (fun x => by rw [List.length_map, List.length_range]), List.length_map, List.length_range] at sub
  exact sub
theorem few_box {asks : Asks} {s1 s2 s3 t1 t2 t3 : Int} (W : Ways4 asks s1 s2 s3 0) {n m : Nat} (h1 : s1 * n ≤ t1) (h2 : s2 * n ≤ t2) (h3 : s3 * n ≤ t3) (hm : (t1.toNat + 1) * (t2.toNat + 1) ≤ m) (m1 : m * (m + 1) < 4096) (m2 : m * 5 < 4096) : Few asks n m := by
  have nn : ∀ {s : Int} {j : Nat}, 0 ≤ s → 0 ≤ s * (j : Int) := fun h => Int.mul_nonneg h (by omega)
  have up : ∀ {s : Int} {j : Nat}, 0 ≤ s → j < n → s * ((j + 1 : Nat) : Int) ≤ s * n := fun h hj => Int.mul_le_mul_of_nonneg_left (by omega) h
  have up0 : ∀ {s : Int} {j : Nat}, 0 ≤ s → j < n → s * (j : Int) ≤ s * n := fun h hj => Int.mul_le_mul_of_nonneg_left (by omega) h
  have z1 := nn (j := n) W.p1
  have z2 := nn (j := n) W.p2
  have z3 := nn (j := n) W.p3
  have ndc : ∀ j, j < n → ∀ a ∈ asks, ∀ x, Ok4 x → Nd asks j a x → Nd asks j a (clip4 [t1, t2, t3, 0] x) := fun j hj a ha x hx h => by
    have u1 := up W.p1 hj
    have u2 := up W.p2 hj
    have u3 := up W.p3 hj
    exact nd_clip W (ln_clip W j) ha hx (by omega) (by omega) (by omega) (by omega) h
  refine ⟨m1, m2, fun j hj as sub M c => Nat.le_trans (canon_len c (by omega) (by omega) (by omega) fun x hx h => ⟨?_, fun a ha => ndc j hj a (sub a ha) x hx (h.2 a ha)⟩) hm, fun j hj a ha M c => Nat.le_trans (canon_len c (by omega) (by omega) (by omega) (ndc j hj a ha)) hm⟩
  have u1 := up0 W.p1 hj
  have u2 := up0 W.p2 hj
  have u3 := up0 W.p3 hj
  exact ln_clip W j hx (by omega) (by omega) (by omega) (by omega) h.1
/-! ### orders turn nothing (plain Lean) -/
theorem lexLt_code {B : Int} : ∀ {n m : List Int}, n.length = m.length → TS.Bd B n → TS.Bd B m → HT.lexLt n m = true → TS.code B n < TS.code B m
  | [], [], _, _, _, h => by rw [lex_irr] at h; cases h
  | [], _ :: _, hl, _, _, _ => by simp at hl
  | _ :: _, [], hl, _, _, _ => by simp at hl
  | d :: r, e :: q, hl, hn, hm, h => by
    have hl' : r.length = q.length := by simpa using hl
    rw [HT.lexLt_cons] at h
    by_cases c : d = e
    · subst c
      rw [if_pos rfl] at h
      have := lexLt_code hl' hn.tail hm.tail h
      show d * B ^ r.length + TS.code B r < d * B ^ q.length + TS.code B q
      rw [hl']
      omega
    · rw [if_neg c] at h
      exact TS.code_lt hl' hn.tail hm.tail (of_decide_eq_true h)
theorem srt_of_code {B : Int} {d : Nat} {S : List (List Int)} (hd : ∀ x ∈ S, x.length = d ∧ TS.Bd B x) (nd : S.Nodup) (h : S.Pairwise fun x y => TS.code B x ≤ TS.code B y) : S.Pairwise fun x y => HT.lexLt x y = true := by
  refine List.Pairwise.imp_of_mem (R := fun x y => x ≠ y ∧ TS.code B x ≤ TS.code B y) (fun {x y} hx hy z => ?_) (List.pairwise_and_iff.mpr ⟨nd, h⟩)
  obtain ⟨l1, b1⟩ := hd x hx
  obtain ⟨l2, b2⟩ := hd y hy
  rcases lex4_tot (x := x) (y := y) (by rw [l1, l2]) (by
    cases c : HT.lexLt y x with
    | false => rfl
    | true =>
      have := lexLt_code (by rw [l1, l2]) b2 b1 c
      omega) with e | e
  · exact absurd e z.1
  · exact e
theorem nodup_of_srt {S : List (List Int)} (h : S.Pairwise fun x y => HT.lexLt x y = true) : S.Nodup := h.imp fun {x y} l e => by
  rw [e, lex_irr] at l
  cases l
theorem LN.sub {A B : Asks} (h : ∀ b ∈ B, ∃ a ∈ A, ∀ w ∈ a, w ∈ b) : ∀ {n : Nat} {x : List Int}, LN A n x → LN B n x
  | 0, _, _ => True.intro
  | _ + 1, _, z => fun b hb => by
    obtain ⟨a, ha, s⟩ := h b hb
    obtain ⟨w, hw, o, l⟩ := z a ha
    exact ⟨w, s w hw, o, LN.sub h l⟩
/-- in another order -/
def pm (o : List Nat) (x : List Int) : List Int := o.map fun k => x.getD k 0
theorem len4 {x : List Int} (h : x.length = 4) : ∃ a b c d : Int, x = [a, b, c, d] := by
  match x, h with
  | [a, b, c, d], _ => exact ⟨a, b, c, d, rfl⟩
theorem add4_pm (o : List Nat) {x w : List Int} (hx : x.length = 4) (hw : w.length = 4) : add4 (pm o x) (pm o w) = pm o (add4 x w) := by
  obtain ⟨a, b, c, d, rfl⟩ := len4 hx
  obtain ⟨e, f, g, h, rfl⟩ := len4 hw
  unfold add4 pm
  rw [List.zipWith_map_left, List.zipWith_map_right]
  induction o with
  | nil => rfl
  | cons k o ih =>
    rw [List.zipWith_cons_cons, List.map_cons, ih]
    congr 1
    match k with
    | 0 => rfl
    | 1 => rfl
    | 2 => rfl
    | 3 => rfl
    | k + 4 => rfl
structure Ord4 (o : List Nat) : Prop where
  perm : o.Perm (List.range 4)
theorem Ord4.four {o : List Nat} (h : Ord4 o) : ∃ i j k l : Nat, o = [i, j, k, l] ∧ (∀ m, m < 4 ↔ m = i ∨ m = j ∨ m = k ∨ m = l) ∧ i ≠ j ∧ i ≠ k ∧ i ≠ l ∧ j ≠ k ∧ j ≠ l ∧ k ≠ l := by
  have hl := h.perm.length_eq
  have nd := h.perm.nodup_iff.mpr List.nodup_range
  have mem : ∀ m, m < 4 ↔ m ∈ o := fun m => by rw [h.perm.mem_iff, List.mem_range]
  match o, hl, nd, mem with
  | [i, j, k, l], _, nd, mem =>
    refine ⟨i, j, k, l, rfl, fun m => ?_, ?_⟩
    · rw [mem m]
      simp only [List.mem_cons, List.not_mem_nil, or_false]
    · simp only [List.nodup_cons, List.mem_cons, List.not_mem_nil, or_false, not_or] at nd
      exact ⟨nd.1.1, nd.1.2.1, nd.1.2.2, nd.2.1.1, nd.2.1.2, nd.2.2.1⟩
theorem all4 {p : Nat → Prop} {o : List Nat} (h : Ord4 o) {i j k l : Nat} (e : o = [i, j, k, l]) : (p i ∧ p j ∧ p k ∧ p l) ↔ (p 0 ∧ p 1 ∧ p 2 ∧ p 3) := by
  have mem : ∀ m, m ∈ o ↔ m ∈ List.range 4 := fun m => h.perm.mem_iff
  subst e
  constructor
  · rintro ⟨p1, p2, p3, p4⟩
    have all : ∀ m, m ∈ List.range 4 → p m := fun m hm => by
      have := (mem m).mpr hm
      simp only [List.mem_cons, List.not_mem_nil, or_false] at this
      rcases this with rfl | rfl | rfl | rfl
      · exact p1
      · exact p2
      · exact p3
      · exact p4
    exact ⟨all 0 (by decide), all 1 (by decide), all 2 (by decide), all 3 (by decide)⟩
  · rintro ⟨p1, p2, p3, p4⟩
    have all : ∀ m, m ∈ [i, j, k, l] → p m := fun m hm => by
      have := List.mem_range.mp ((mem m).mp hm)
      have : m = 0 ∨ m = 1 ∨ m = 2 ∨ m = 3 := by omega
      rcases this with rfl | rfl | rfl | rfl
      · exact p1
      · exact p2
      · exact p3
      · exact p4
    exact ⟨all i (by simp), all j (by simp), all k (by simp), all l (by simp)⟩
theorem Ord4.ok {o : List Nat} (h : Ord4 o) {x : List Int} (hx : x.length = 4) : Ok4 (pm o x) ↔ Ok4 x := by
  obtain ⟨i, j, k, l, e, _⟩ := h.four
  have q := all4 (p := fun m => 0 ≤ x.getD m 0) h e
  obtain ⟨a, b, c, d, rfl⟩ := len4 hx
  subst e
  constructor
  · rintro ⟨y1, y2, y3, y4, z, o1, o2, o3, o4⟩
    have z' : [([a, b, c, d] : List Int).getD i 0, ([a, b, c, d] : List Int).getD j 0, ([a, b, c, d] : List Int).getD k 0, ([a, b, c, d] : List Int).getD l 0] = [y1, y2, y3, y4] := z
    obtain ⟨q1, z'⟩ := List.cons.inj z'
    obtain ⟨q2, z'⟩ := List.cons.inj z'
    obtain ⟨q3, z'⟩ := List.cons.inj z'
    obtain ⟨q4, _⟩ := List.cons.inj z'
    have r := q.mp ⟨by rw [q1]; exact o1, by rw [q2]; exact o2, by rw [q3]; exact o3, by rw [q4]; exact o4⟩
    exact ⟨a, b, c, d, rfl, r.1, r.2.1, r.2.2.1, r.2.2.2⟩
  · rintro ⟨y1, y2, y3, y4, z, o1, o2, o3, o4⟩
    obtain ⟨q1, z'⟩ := List.cons.inj z
    obtain ⟨q2, z'⟩ := List.cons.inj z'
    obtain ⟨q3, z'⟩ := List.cons.inj z'
    obtain ⟨q4, _⟩ := List.cons.inj z'
    subst q1
    subst q2
    subst q3
    subst q4
    have r := q.mpr ⟨o1, o2, o3, o4⟩
    exact ⟨_, _, _, _, rfl, r.1, r.2.1, r.2.2.1, r.2.2.2⟩
theorem Ord4.le {o : List Nat} (h : Ord4 o) {x y : List Int} (hx : x.length = 4) (hy : y.length = 4) : le4 (pm o x) (pm o y) = true ↔ le4 x y = true := by
  obtain ⟨i, j, k, l, e, _⟩ := h.four
  have q := all4 (p := fun m => x.getD m 0 ≤ y.getD m 0) h e
  obtain ⟨a, b, c, d, rfl⟩ := len4 hx
  obtain ⟨a', b', c', d', rfl⟩ := len4 hy
  subst e
  rw [le4_iff]
  refine Iff.trans ?_ q
  exact le4_iff
theorem pm_len (o : List Nat) (x : List Int) : (pm o x).length = o.length := by
  unfold pm
  rw [List.length_map]
theorem Ord4.len {o : List Nat} (h : Ord4 o) : o.length = 4 := by rw [h.perm.length_eq, List.length_range]
theorem Ord4.onto {o : List Nat} (h : Ord4 o) {x : List Int} (hx : x.length = 4) : ∃ y : List Int, y.length = 4 ∧ pm o y = x := by
  obtain ⟨i, j, k, l, e, m, n1, n2, n3, n4, n5, n6⟩ := h.four
  obtain ⟨a, b, c, d, rfl⟩ := len4 hx
  subst e
  have hi := (m i).mpr (.inl rfl)
  have hj := (m j).mpr (.inr (.inl rfl))
  have hk := (m k).mpr (.inr (.inr (.inl rfl)))
  have hl := (m l).mpr (.inr (.inr (.inr rfl)))
  let f : Nat → Int := fun q => if q = i then a else if q = j then b else if q = k then c else d
  have g : ∀ q, q < 4 → ([f 0, f 1, f 2, f 3] : List Int).getD q 0 = f q := fun q hq => by
    have : q = 0 ∨ q = 1 ∨ q = 2 ∨ q = 3 := by omega
    rcases this with rfl | rfl | rfl | rfl <;> rfl
  refine ⟨[f 0, f 1, f 2, f 3], rfl, ?_⟩
  show [([f 0, f 1, f 2, f 3] : List Int).getD i 0, ([f 0, f 1, f 2, f 3] : List Int).getD j 0, ([f 0, f 1, f 2, f 3] : List Int).getD k 0, ([f 0, f 1, f 2, f 3] : List Int).getD l 0] = [a, b, c, d]
  rw [g i hi, g j hj, g k hk, g l hl]
  have e1 : f i = a := if_pos rfl
  have e2 : f j = b := by show (if j = i then a else if j = j then b else _) = b; rw [if_neg (fun z => n1 z.symm), if_pos rfl]
  have e3 : f k = c := by show (if k = i then a else if k = j then b else if k = k then c else d) = c; rw [if_neg (fun z => n2 z.symm), if_neg (fun z => n4 z.symm), if_pos rfl]
  have e4 : f l = d := by show (if l = i then a else if l = j then b else if l = k then c else d) = d; rw [if_neg (fun z => n3 z.symm), if_neg (fun z => n5 z.symm), if_neg (fun z => n6 z.symm)]
  rw [e1, e2, e3, e4]
theorem ln_pm {o : List Nat} (h : Ord4 o) {A : Asks} (hA : ∀ a ∈ A, ∀ w ∈ a, w.length = 4) : ∀ (n : Nat) {x : List Int}, x.length = 4 → (LN (A.map fun a => a.map (pm o)) n (pm o x) ↔ LN A n x)
  | 0, _, _ => Iff.rfl
  | n + 1, x, hx => by
    have al : ∀ {w : List Int}, w.length = 4 → (add4 x w).length = 4 := fun {w} hw => by
      unfold add4
      rw [List.length_zipWith, hx, hw]
      rfl
    constructor
    · intro z a ha
      obtain ⟨w', hw', ok, l⟩ := z _ (List.mem_map.mpr ⟨a, ha, rfl⟩)
      obtain ⟨w, hw, rfl⟩ := List.mem_map.mp hw'
      have w4 := hA a ha w hw
      rw [add4_pm o hx w4] at ok l
      exact ⟨w, hw, (h.ok (al w4)).mp ok, (ln_pm h hA n (al w4)).mp l⟩
    · intro z a' ha'
      obtain ⟨a, ha, rfl⟩ := List.mem_map.mp ha'
      obtain ⟨w, hw, ok, l⟩ := z a ha
      have w4 := hA a ha w hw
      refine ⟨pm o w, List.mem_map.mpr ⟨w, hw, rfl⟩, ?_⟩
      rw [add4_pm o hx w4]
      exact ⟨(h.ok (al w4)).mpr ok, (ln_pm h hA n (al w4)).mpr l⟩
theorem ok_len {x : List Int} (h : Ok4 x) : x.length = 4 := by
  obtain ⟨a, b, c, d, rfl, _⟩ := h
  rfl
theorem canon_pm {o : List Nat} (h : Ord4 o) {A : Asks} (hA : ∀ a ∈ A, ∀ w ∈ a, w.length = 4) {n : Nat} {M S : List (List Int)} (c : Canon M (LN A n)) (hS : S.Perm (M.map (pm o))) (srt : S.Pairwise fun x y => HT.lexLt x y = true) :
    Canon S (LN (A.map fun a => a.map (pm o)) n) := by
  have mem : ∀ {x}, x ∈ S → ∃ y ∈ M, pm o y = x := fun {x} hx => List.mem_map.mp (hS.mem_iff.mp hx)
  refine ⟨fun x hx => ?_, srt, fun x hx y hy l => ?_, fun x hx => ?_⟩
  · obtain ⟨y, hy, rfl⟩ := mem hx
    exact (h.ok (ok_len (c.ok y hy))).mpr (c.ok y hy)
  · obtain ⟨x', hx', rfl⟩ := mem hx
    obtain ⟨y', hy', rfl⟩ := mem hy
    rw [c.anti x' hx' y' hy' ((h.le (ok_len (c.ok x' hx')) (ok_len (c.ok y' hy'))).mp l)]
  · obtain ⟨y, y4, rfl⟩ := h.onto (ok_len hx)
    have oy := (h.ok y4).mp hx
    rw [ln_pm h hA n y4, ← c.up y oy]
    constructor
    · rintro ⟨z, hz, l⟩
      obtain ⟨z', hz', rfl⟩ := mem hz
      exact ⟨z', hz', (h.le (ok_len (c.ok z' hz')) y4).mp l⟩
    · rintro ⟨z, hz, l⟩
      exact ⟨pm o z, hS.mem_iff.mpr (List.mem_map.mpr ⟨z, hz, rfl⟩), (h.le (ok_len (c.ok z hz)) y4).mpr l⟩
/-! ### t + u and t[a:b] of tuples, told by what stands behind -/
theorem same_new {H : Hp} {p : Addr} {o : HO} (h : H p = none) : Same H (upd H p o) := fun b x e => by
  rw [upd_ne (ne_of_none e h)]
  exact e
def rCatN (K : PySem.W.Frag) : R2 := fun x y H Q => ∃ a b xs ys, x = .ref a ∧ y = .ref b ∧ SqT K H a xs ∧ SqT K H b ys ∧ xs.length + ys.length ≤ sizeLine ∧ ∀ c H', Same H H' → SqT K H' c (xs ++ ys) → Q (.ref c) H'
theorem op_catN {X : Cx} : OpR X (binaryOp .Add) (rCatN X.K) := by
  intro pins s σ H x y v u Q I rx ry h
  obtain ⟨a, b, xs, ys, rfl, rfl, ha, hb, hz, q⟩ := h
  refine L2.op_catA pins s σ H _ _ v u Q I rx ry ⟨a, b, xs, ys, rfl, rfl, ha, hb, hz, fun e => ?_, fun _ e => ?_, fun _ _ p np => ?_⟩
  · subst e
    exact q b H (Same.refl H) hb
  · subst e
    exact q a H (Same.refl H) (by rw [List.append_nil]; exact ha)
  · exact q p _ (same_new np) (SqT.of upd_same)
def rSlN (K : PySem.W.Frag) : V → Option Int → Option Int → Hp → VK → Prop := fun x lo hi H Q => ∃ a xs, x = .ref a ∧ SqT K H a xs ∧ ∀ c H', Same H H' → SqT K H' c (cutV xs lo hi) → Q (.ref c) H'
theorem sl_tupN {X : Cx} : SlR X (rSlN X.K) := by
  intro pins s σ H x v vl vu lo hi sl Q I rx hs pl pu h
  obtain ⟨a, xs, rfl, hx, q⟩ := h
  refine My.sl_tupA pins s σ H _ v vl vu lo hi sl Q I rx hs pl pu ⟨a, xs, rfl, hx, fun c => q a H (Same.refl H) ?_, fun c p np => q p _ (same_new np) (SqT.of upd_same)⟩
  unfold cutV
  rw [c.1, c.2, List.drop_zero, Nat.sub_zero, List.take_length]
  exact hx
theorem cut_from {l : List Int} {k : Nat} (h : k ≤ l.length) : cutV (l.map V.int) (some (k : Int)) none = (l.drop k).map V.int := by
  unfold cutV
  rw [show HT.sIx (l.map V.int).length 0 (some (k : Int)) = min k (l.map V.int).length from HT.sIx_nat _ _ k, HT.sIx_none, List.length_map, Nat.min_eq_left h, ← List.map_drop, ← List.map_take, List.take_of_length_le (by rw [List.length_drop]; omega)]
theorem cut_to {l : List Int} {k : Nat} (h : k ≤ l.length) : cutV (l.map V.int) none (some (k : Int)) = (l.take k).map V.int := by
  unfold cutV
  rw [show HT.sIx (l.map V.int).length (l.map V.int).length (some (k : Int)) = min k (l.map V.int).length from HT.sIx_nat _ _ k, HT.sIx_none, List.map_take, List.drop_zero, Nat.sub_zero, Nat.min_eq_left (by rw [List.length_map]; exact h)]
end My
namespace My
open PySem PySem.Spec PyProof.Rows L2
open C8 (pss_cut)
open RZ (pi_zipA for_zipL for_zipT)
def topS (i : Nat) : Stmt := PySem.Challenge.pw_everstock_k45_houses_put_together.main.body.getD i (.Pass ⟨0, 0, 0, 0⟩)
/-! ### the pen: what the drawing defs keep -/
def sOpen : Stmt := topS 16
def sSpread : Stmt := topS 17
def sTake : Stmt := topS 18
/-- all that was there but the one at p is as it was -/
def Kp (p : Addr) (H H' : Hp) : Prop := ∀ b o, H b = some o → b ≠ p → H' b = some o
theorem Kp.refl (p : Addr) (H : Hp) : Kp p H H := fun _ _ e _ => e
theorem Kp.trans {p : Addr} {H H1 H2 : Hp} (a : Kp p H H1) (b : Kp p H1 H2) : Kp p H H2 := fun c o e n => b c o (a c o e n) n
theorem Kp.same {p : Addr} {H H1 H2 : Hp} (a : Kp p H H1) (b : Same H1 H2) : Kp p H H2 := fun c o e n => b c o (a c o e n)
theorem _root_.L2.Same.kp {p : Addr} {H H1 : Hp} (a : Same H H1) : Kp p H H1 := fun c o e _ => a c o e
theorem same_upd {H : Hp} {p : Addr} {o : HO} (h : H p = none) : Same H (upd H p o) := fun b x e => by
  rw [upd_ne (ne_of_none e h)]
  exact e
theorem kp_upd (p : Addr) (H : Hp) (o : HO) : Kp p H (upd H p o) := fun b x e n => by
  rw [upd_ne n]
  exact e
/-- the pen at p: its cells' list at c, at most n cells taken -/
structure Pen (H : Hp) (p c : Addr) (ns : List Int) (n : Nat) : Prop where
  pe : ∃ at_ left : Int, H p = some (.lst [.ref c, .int at_, .int left]) ∧ 0 ≤ at_ ∧ at_ ≤ (n : Int) ∧ 0 ≤ left
  ce : H c = some (.lst (ns.map V.int))
theorem Pen.ne {H : Hp} {p c : Addr} {ns : List Int} {n : Nat} (h : Pen H p c ns n) : c ≠ p := by
  obtain ⟨⟨a, l, h1, _⟩, h2⟩ := h
  intro e
  subst e
  rw [h1] at h2
  cases ns with
  | nil => cases h2
  | cons x r => cases h2
theorem Pen.same {H H' : Hp} {p c : Addr} {ns : List Int} {n : Nat} (h : Pen H p c ns n) (s : Same H H') : Pen H' p c ns n := by
  obtain ⟨⟨a, l, h1, h3⟩, h2⟩ := h
  exact ⟨⟨a, l, s _ _ h1, h3⟩, s _ _ h2⟩
theorem Pen.mono {H : Hp} {p c : Addr} {ns : List Int} {n m : Nat} (h : Pen H p c ns n) (hn : n ≤ m) : Pen H p c ns m := by
  obtain ⟨⟨a, l, h1, h3, h4, h5⟩, h2⟩ := h
  exact ⟨⟨a, l, h1, h3, by omega, h5⟩, h2⟩
/-- at most so many cells are taken in all -/
def penMost : Nat := 1000000
def spOpen (K : PySem.W.Frag) : Sp := fun vs H Q _ => ∃ (a : Addr) (ns : List Int), vs = [.ref a] ∧ SqL K H a (ns.map V.int) ∧ ns.length ≤ 63 ∧
  ∀ H' p c ms, Same H H' → Pen H' p c ms 0 → H p = none → Q (.ref p) H'
def spSpread : Sp := fun vs H Q _ => ∃ (cell at_ : Int), vs = [.int cell, .int at_] ∧ 0 ≤ at_ ∧ at_ ≤ 1000000 ∧ ∀ r H', 0 ≤ r → Same H H' → Q (.int r) H'
def spTake : Sp := fun vs H Q _ => ∃ (p c : Addr) (ns : List Int) (n : Nat) (m : Int), vs = [.ref p, .int m] ∧ Pen H p c ns n ∧ n < penMost ∧ 1 ≤ m ∧ m < 1000000000 ∧
  ∀ r H', 0 ≤ r → r < m → Kp p H H' → Pen H' p c ns (n + 1) → Q (.int r) H'
theorem at_ints {ns : List Int} {k : Int} (h0 : 0 ≤ k) (h1 : k < ns.length) : ∃ z, atI (ns.map V.int) k = some (.int z) := by
  obtain ⟨j, rfl⟩ : ∃ j : Nat, k = (j : Int) := ⟨k.toNat, by omega⟩
  have hj : j < ns.length := by omega
  exact ⟨ns[j], atI_nat (by rw [List.getElem?_map, List.getElem?_eq_getElem hj] <;> rfl)⟩
theorem ixN_of {n : Nat} {k : Int} (h0 : 0 ≤ k) (h1 : k < n) : ixN n k = some k.toNat := by
  unfold ixN
  rw [if_pos h0, if_pos h1]
theorem ints_get {ns : List Int} {i : Nat} {v : V} (h : (ns.map V.int)[i]? = some v) : ∃ z, ns[i]? = some z ∧ v = .int z := by
  rw [List.getElem?_map] at h
  cases e : ns[i]? with
  | none =>
    rw [e] at h
    cases h
  | some z =>
    rw [e] at h
    exact ⟨z, rfl, (Option.some.inj h).symm⟩
theorem cut_ints (ns : List Int) (lo hi : Option Int) : ∃ ms : List Int, cutV (ns.map V.int) lo hi = ms.map V.int ∧ ms.length ≤ ns.length := by
  unfold cutV
  refine ⟨(ns.drop (HT.sIx (ns.map V.int).length 0 lo)).take (HT.sIx (ns.map V.int).length (ns.map V.int).length hi - HT.sIx (ns.map V.int).length 0 lo), ?_, ?_⟩
  · rw [List.map_take, List.map_drop]
  · rw [List.length_take, List.length_drop]
    omega
theorem cut12 (ns : List Int) : cutV (ns.map V.int) none (some 12) = (ns.take 12).map V.int := by
  unfold cutV
  rw [show HT.sIx (ns.map V.int).length (ns.map V.int).length (some 12) = min 12 (ns.map V.int).length from HT.sIx_nat _ _ 12, HT.sIx_none, List.map_take, List.drop_zero, Nat.sub_zero]
  by_cases h : 12 ≤ (ns.map V.int).length
  · rw [Nat.min_eq_left h]
  · rw [Nat.min_eq_right (by omega), List.take_length, List.take_of_length_le (by omega)]
theorem cut1263 (ns : List Int) (h : ns.length ≤ 12) : cutV (ns.map V.int) (some 12) (some 63) = [] := by
  unfold cutV
  rw [show HT.sIx (ns.map V.int).length 0 (some 12) = min 12 (ns.map V.int).length from HT.sIx_nat _ _ 12, Nat.min_eq_right (by rw [List.length_map]; exact h), List.drop_length, List.take_nil]
/-- the divisors of the spreading -/
def prL : List V := [V.int 2147483629, V.int 2147483587, V.int 2147483579, V.int 2147483563, V.int 2147483549, V.int 2147483543, V.int 2147483497, V.int 2147483489] ++
  [V.int 2147483477, V.int 2147483423, V.int 2147483399, V.int 2147483353, V.int 2147483323]
theorem pr_at : ∀ j : Nat, j < 13 → ∃ q : Int, prL[j]? = some (.int q) ∧ 0 < q ∧ q < 2147483648
  | 0, _ => ⟨_, rfl, by decide, by decide⟩ | 1, _ => ⟨_, rfl, by decide, by decide⟩ | 2, _ => ⟨_, rfl, by decide, by decide⟩ | 3, _ => ⟨_, rfl, by decide, by decide⟩
  | 4, _ => ⟨_, rfl, by decide, by decide⟩ | 5, _ => ⟨_, rfl, by decide, by decide⟩ | 6, _ => ⟨_, rfl, by decide, by decide⟩ | 7, _ => ⟨_, rfl, by decide, by decide⟩
  | 8, _ => ⟨_, rfl, by decide, by decide⟩ | 9, _ => ⟨_, rfl, by decide, by decide⟩ | 10, _ => ⟨_, rfl, by decide, by decide⟩ | 11, _ => ⟨_, rfl, by decide, by decide⟩
  | 12, _ => ⟨_, rfl, by decide, by decide⟩ | n + 13, h => absurd h (by omega)
theorem pr_mod (k : Int) : ∃ q : Int, atI prL (k % 13) = some (.int q) ∧ 0 < q ∧ q < 2147483648 := by
  have h0 := Int.emod_nonneg k (by decide : (13 : Int) ≠ 0)
  have h1 := Int.emod_lt_of_pos k (by decide : (0 : Int) < 13)
  obtain ⟨q, e, a, b⟩ := pr_at (k % 13).toNat (by omega)
  have e2 : k % 13 = ((k % 13).toNat : Int) := by omega
  rw [e2]
  exact ⟨q, atI_nat e, a, b⟩
theorem abs64 {x : Int} (h0 : 0 ≤ x) (h : x < 18446744073709551616) : x.natAbs < 2 ^ 64 := by
  have : (2 : Nat) ^ 64 = 18446744073709551616 := by decide
  omega
theorem mul_le_mul' {a b c d : Int} (ha : 0 ≤ a) (hb : a ≤ c) (hc : 0 ≤ b) (hd : b ≤ d) : a * b ≤ c * d :=
  Int.le_trans (Int.mul_le_mul_of_nonneg_right hb hc) (Int.mul_le_mul_of_nonneg_left hd (Int.le_trans ha hb))
section
variable {P : Program} {w : World} {K : PySem.W.Frag} {mg : Str → Option Value} {base : Heap}
theorem scSpread : FnScope ["cell", "at", "primes", "one", "two", "three"] ["cell", "at"] (defScope sSpread) := ⟨rfl, rfl, rfl, by decide +kernel, rfl, by decide +kernel, by decide +kernel⟩

theorem ok_spread {f : Addr} {fd : FuncData} {k : Nat} (F : Fun K "_law_spread" "_law_spread" sSpread f fd) : FnOk P w K mg base CX0 (k + 1) f fd ["cell", "at"] spSpread := by
  refine F.ok scSpread (fun vs H Q E h => ?_) (fun cdv A outer s H vs Q E hr h => ?_)
  · obtain ⟨cell, at_, rfl, _⟩ := h
    rfl
  · obtain ⟨cell, a, rfl, ha0, ha1, q⟩ := h
    refine ⟨_, pss_cons (ps_if (pt_cmpR op_ge (pv 0) (pe_op op_pow pe_int pe_int) (nomark _)) (pss_one (ps_ret (pv 0))) pss_nil)
      (pss_cons (ps_set (i := 2) scSpread.nd rfl (.inl rfl) (pe_lst (pa_cons pe_int (pa_cons pe_int (pa_cons pe_int (pa_cons pe_int (pa_cons pe_int (pa_cons pe_int (pa_cons pe_int (pa_cons pe_int pa_nil))))))))))
      (pss_cons (ps_set (i := 2) scSpread.nd rfl (.inl rfl) (pe_op op_cat (pv 2) (pe_lst (pa_cons pe_int (pa_cons pe_int (pa_cons pe_int (pa_cons pe_int (pa_cons pe_int pa_nil))))))))
      (pss_cons (ps_set (i := 3) scSpread.nd rfl (.inl rfl) (pe_op op_add (pe_op op_add (pe_op op_mul (pe_op op_mod (pv 0) pe_int) (pe_op op_add (pe_op op_mul pe_int (pv 1)) pe_int)) (pe_op op_mul (pv 1) pe_int)) pe_int))
      (pss_cons (ps_set (i := 3) scSpread.nd rfl (.inl rfl) (pe_op op_mod (pe_op op_pow (pv 3) pe_int) (pe_ix ix_list (pv 2) (pe_op op_mod (pv 1) pe_int) (fun _ _ => rfl))))
      (pss_cons (ps_set (i := 4) scSpread.nd rfl (.inl rfl) (pe_op op_mod (pe_op op_pow (pe_op op_add (pe_op op_add (pe_op op_mul (pv 3) (pe_op op_add (pv 1) pe_int)) (pe_op op_mod (pv 0) pe_int)) pe_int) pe_int) (pe_ix ix_list (pv 2) (pe_op op_mod (pe_op op_add (pv 1) pe_int) pe_int) (fun _ _ => rfl))))
      (pss_cons (ps_set (i := 5) scSpread.nd rfl (.inl rfl) (pe_op op_mod (pe_op op_pow (pe_op op_add (pe_op op_add (pv 4) (pe_op op_mod (pv 3) pe_int)) (pv 1)) pe_int) (pe_ix ix_list (pv 2) (pe_op op_mod (pe_op op_add (pv 1) pe_int) pe_int) (fun _ _ => rfl))))
      (pss_one (ps_ret (pe_op op_add (pe_op op_mul (pe_op op_add (pe_op op_mul (pv 3) pe_int) (pv 4)) pe_int) (pv 5)))))))))), ?_⟩
    -- cell >= 10 ** 18
    refine ⟨_, rfl, 10, 18, rfl, rfl, ⟨by decide, by decide, by decide⟩, _, _, rfl, rfl, _, rfl, ?_⟩
    refine ite2 (fun hc => ?_) (fun _ => ?_)
    · refine ⟨_, rfl, q _ _ ?_ (Same.refl H)⟩
      have hc' := of_decide_eq_true hc
      exact Int.le_trans (by decide) hc'
    · -- primes
      refine ⟨by show 8 ≤ sizeLine; decide, fun p1 n1 => ?_⟩
      refine ⟨_, rfl, by show 5 ≤ sizeLine; decide, fun p2 n2 => ?_⟩
      have n12 : p1 ≠ p2 := ne_of_none (upd_same (H := H)) n2
      refine ⟨p1, p2, _, _, rfl, rfl, (by rw [upd_ne n12]; exact upd_same), upd_same, by show 13 ≤ sizeLine; decide, fun p3 n3 => ?_⟩
      have s1 := same_upd (o := .lst [V.int 2147483629, V.int 2147483587, V.int 2147483579, V.int 2147483563, V.int 2147483549, V.int 2147483543, V.int 2147483497, V.int 2147483489]) n1
      have s2 := same_upd (o := .lst [V.int 2147483477, V.int 2147483423, V.int 2147483399, V.int 2147483353, V.int 2147483323]) n2
      have s3 := (s1.trans s2).trans (same_upd (o := .lst prL) n3)
      have hL : SqL K (upd (upd (upd H p1 (.lst [V.int 2147483629, V.int 2147483587, V.int 2147483579, V.int 2147483563, V.int 2147483549, V.int 2147483543, V.int 2147483497, V.int 2147483489])) p2 (.lst [V.int 2147483477, V.int 2147483423, V.int 2147483399, V.int 2147483353, V.int 2147483323])) p3 (.lst prL)) p3 prL := SqL.of upd_same
      -- one
      have c0 := Int.emod_nonneg cell (by decide : (1000000007 : Int) ≠ 0)
      have c1 := Int.emod_lt_of_pos cell (by decide : (0 : Int) < 1000000007)
      refine ⟨_, rfl, cell, 1000000007, rfl, rfl, (by show (0 : Int) < 1000000007; decide), _, rfl, 2, a, rfl, rfl, .inl ⟨by decide, by decide⟩, _, _, rfl, rfl, _, _, rfl, rfl, .inr ⟨by omega, by omega⟩, _, rfl, _, _, rfl, rfl, .inr ⟨by decide, by decide⟩, _, _, rfl, rfl, _, _, rfl, rfl, ?_⟩
      have b0 : 0 ≤ cell % 1000000007 * (2 * a + 69069) := Int.mul_nonneg c0 (by omega)
      have b1 : cell % 1000000007 * (2 * a + 69069) ≤ 1000000007 * 2069069 := mul_le_mul' c0 (by omega) (by omega) (by omega)
      dsimp only
      generalize e1 : cell % 1000000007 * (2 * a + 69069) + a * 40503 + 977 = one
      have o0 : 0 ≤ one := by omega
      have o1 : one < 18446744073709551616 := by omega
      clear e1 b0 b1
      -- one ** 3 % primes[at % 13]
      obtain ⟨q1, i1, q10, q11⟩ := pr_mod a
      refine ⟨_, rfl, one, 3, rfl, rfl, ⟨by decide, by decide, abs64 o0 o1⟩, _, rfl, _, rfl, a, 13, rfl, rfl, (by show (0 : Int) < 13; decide), p3, prL, _, _, rfl, rfl, hL, i1, _, q1, rfl, rfl, q10, ?_⟩
      have w0 := Int.emod_nonneg (one ^ (3 : Int).toNat) (Int.ne_of_gt q10)
      have w1 := Int.emod_lt_of_pos (one ^ (3 : Int).toNat) q10
      dsimp only
      generalize e2 : one ^ (3 : Int).toNat % q1 = on2 at w0 w1 ⊢
      clear e2
      -- two
      obtain ⟨q2, i2, q20, q21⟩ := pr_mod (a + 5)
      have d0 := Int.emod_nonneg cell (by decide : (65537 : Int) ≠ 0)
      have d1 := Int.emod_lt_of_pos cell (by decide : (0 : Int) < 65537)
      have f0 : 0 ≤ on2 * (a + 3) := Int.mul_nonneg w0 (by omega)
      have f1 : on2 * (a + 3) ≤ 2147483648 * 1000003 := mul_le_mul' w0 (by omega) (by omega) (by omega)
      refine ⟨_, rfl, _, rfl, a, 3, rfl, rfl, on2, _, rfl, rfl, .inl ⟨by omega, by omega⟩, _, rfl, cell, 65537, rfl, rfl, (by show (0 : Int) < 65537; decide), _, _, rfl, rfl, _, _, rfl, rfl, _, 5, rfl, rfl, ⟨by decide, by decide, abs64 (by omega) (by omega)⟩, _, rfl, _, rfl, a, 5, rfl, rfl, _, 13, rfl, rfl, (by show (0 : Int) < 13; decide), p3, prL, _, _, rfl, rfl, hL, i2, _, q2, rfl, rfl, q20, ?_⟩
      have x0 := Int.emod_nonneg ((on2 * (a + 3) + cell % 65537 + 5) ^ (5 : Int).toNat) (Int.ne_of_gt q20)
      have x1 := Int.emod_lt_of_pos ((on2 * (a + 3) + cell % 65537 + 5) ^ (5 : Int).toNat) q20
      dsimp only
      generalize e3 : (on2 * (a + 3) + cell % 65537 + 5) ^ (5 : Int).toNat % q2 = two at x0 x1 ⊢
      clear e3
      -- three
      obtain ⟨q3, i3, q30, q31⟩ := pr_mod (a + 7)
      have g0 := Int.emod_nonneg on2 (by decide : (1009 : Int) ≠ 0)
      have g1 := Int.emod_lt_of_pos on2 (by decide : (0 : Int) < 1009)
      refine ⟨_, rfl, _, rfl, on2, 1009, rfl, rfl, (by show (0 : Int) < 1009; decide), _, _, rfl, rfl, _, rfl, _, _, rfl, rfl, _, 3, rfl, rfl, ⟨by decide, by decide, abs64 (by omega) (by omega)⟩, _, rfl, _, rfl, a, 7, rfl, rfl, _, 13, rfl, rfl, (by show (0 : Int) < 13; decide), p3, prL, _, _, rfl, rfl, hL, i3, _, q3, rfl, rfl, q30, ?_⟩
      have y0 := Int.emod_nonneg ((two + on2 % 1009 + a) ^ (3 : Int).toNat) (Int.ne_of_gt q30)
      dsimp only
      generalize e4 : (two + on2 % 1009 + a) ^ (3 : Int).toNat % q3 = three at y0 ⊢
      clear e4
      refine ⟨_, rfl, on2, 2147483647, rfl, rfl, .inr ⟨by decide, by decide⟩, _, rfl, _, _, rfl, rfl, _, 2147483647, rfl, rfl, .inr ⟨by decide, by decide⟩, _, rfl, _, _, rfl, rfl, ?_⟩
      refine q _ _ ?_ s3
      have z1 : 0 ≤ on2 * 2147483647 := Int.mul_nonneg w0 (by decide)
      have z2 : 0 ≤ (on2 * 2147483647 + two) * 2147483647 := Int.mul_nonneg (by omega) (by decide)
      omega
theorem scOpen : FnScope ["script", "cells", "k", "cell"] ["script"] (defScope sOpen) := ⟨rfl, rfl, rfl, by decide +kernel, rfl, by decide +kernel, by decide +kernel⟩
theorem ok_open {f : Addr} {fd : FuncData} {k : Nat} (F : Fun K "_law_open" "_law_open" sOpen f fd) (ml : mg "list" = none) (me : mg "enumerate" = none) : FnOk P w K mg base CX0 (k + 1) f fd ["script"] (spOpen K) := by
  refine F.ok scOpen (fun vs H Q E h => ?_) (fun cdv A outer s H vs Q E hr h => ?_)
  · obtain ⟨a, ns, rfl, _⟩ := h
    rfl
  · obtain ⟨a, ns, rfl, hS, hlen, q⟩ := h
    refine ⟨_, pss_cons (ps_set (i := 1) scOpen.nd rfl (.inl rfl) (pe_callTy call_list_of (by rfl) ml (by decide +kernel) (pa_cons (pe_slice sl_list (pv 0) po_none (po_some pe_int)) pa_nil)))
      (pss_cons (ps_for PassesOwn.never rfl (pi_enum (by rfl) me (pa_cons (pe_slice sl_list (pv 0) (po_some pe_int) (po_some pe_int)) pa_nil))
          (pg_tup rfl (pgs_cons (pg_name (i := 2) scOpen.nd rfl (.inl rfl)) (pgs_cons (pg_name (i := 3) scOpen.nd rfl (.inl rfl)) pgs_nil)))
          (pss_one (ps_asg (pe_op op_add (pe_ix ix_list (pv 1) (pe_op op_mod (pv 2) pe_int) (fun _ _ => rfl)) (pv 3)) (pg_sub (pv 1) (pe_op op_mod (pv 2) pe_int) set_list))))
      (pss_one (ps_ret (pe_lst (pa_cons (pv 1) (pa_cons pe_int (pa_cons pe_int pa_nil))))))), ?_⟩
    -- cells = list(script[:12])
    refine ⟨_, rfl, 12, rfl, a, _, rfl, hS, fun p1 n1 => ?_⟩
    rw [cut12]
    have s1 := same_upd (o := .lst ((ns.take 12).map V.int)) n1
    refine ⟨p1, _, rfl, .inl (SqL.of upd_same), fun c nc => ?_⟩
    have s2 := s1.trans (same_upd (o := .lst ((ns.take 12).map V.int)) nc)
    have nHc : H c = none := s1.free nc
    -- enumerate(script[12:63])
    refine ⟨_, rfl, 12, rfl, 63, rfl, a, _, rfl, s2.seq hS, fun p2 n2 => ?_⟩
    obtain ⟨ms, em, hm⟩ : ∃ ms : List Int, cutV (ns.map V.int) (some 12) (some 63) = ms.map V.int ∧ (ms = [] ∨ 12 ≤ ns.length) := by
      by_cases h : 12 ≤ ns.length
      · obtain ⟨ms, e, _⟩ := cut_ints ns (some 12) (some 63)
        exact ⟨ms, e, .inr h⟩
      · exact ⟨[], cut1263 ns (by omega), .inl rfl⟩
    rw [em]
    have s3 := s2.trans (same_upd (o := .lst (ms.map V.int)) n2)
    have ncp2 : c ≠ p2 := ne_of_none (upd_same) n2
    refine ⟨p2, ms.map V.int, rfl, SqL.of upd_same, ?_⟩
    refine for_it (walk_enum (K := K) (a := p2) (xs := ms.map V.int)) (fun i σ H2 => ∃ (y2 y3 : Option V) (cs : List Int), σ = [some (.ref a), some (.ref c), y2, y3] ∧ Same H H2 ∧ H2 c = some (.lst (cs.map V.int)) ∧ H2 p2 = some (.lst (ms.map V.int)) ∧ cs.length = min 12 ns.length)
      ⟨none, none, ns.take 12, rfl, s3, ?_, upd_same, by rw [List.length_take]⟩ ?_ ?_ ?_
    · rw [upd_ne ncp2, upd_same]
    · rintro i σ H2 _ ⟨_, _, _, _, _, _, h2, _⟩
      exact SqL.of h2
    · rintro i x σ H2 H3 hi ⟨y2, y3, cs, rfl, sm, hc, hp, hl⟩ ⟨T, x1, x2, rfl, nT, rfl, f1, f2⟩
      have f1 := Option.some.inj f1
      subst f1
      obtain ⟨z, hz, rfl⟩ := ints_get f2
      have hne : 12 ≤ ns.length := by
        rcases hm with rfl | h
        · simp at hz
        · exact h
      rw [Nat.min_eq_left hne] at hl
      have ncT : c ≠ T := ne_of_none hc nT
      have npT : p2 ≠ T := ne_of_none hp nT
      have h0 := Int.emod_nonneg (i : Int) (by decide : (12 : Int) ≠ 0)
      have h1 := Int.emod_lt_of_pos (i : Int) (by decide : (0 : Int) < 12)
      obtain ⟨u, hu⟩ := at_ints (ns := cs) h0 (by omega)
      have hcT : ∀ o, (upd H2 T o) c = some (.lst (cs.map V.int)) := fun o => by
        rw [upd_ne ncT]
        exact hc
      refine ⟨T, _, rfl, SqT.of upd_same, rfl, _, _, rfl, _, _, rfl, rfl, ?_⟩
      refine ⟨_, rfl, _, rfl, i, 12, rfl, rfl, (by show (0 : Int) < 12; decide), c, _, _, _, rfl, rfl, SqL.of (hcT _), hu, _, rfl, u, z, rfl, rfl, ?_⟩
      refine ⟨_, rfl, _, rfl, i, 12, rfl, rfl, (by show (0 : Int) < 12; decide), c, _, _, _, rfl, rfl, hcT _, ixN_of h0 (by rw [List.length_map]; omega), ?_⟩
      refine ⟨_, _, cs.set ((i : Int) % 12).toNat (u + z), rfl, fun b o e => ?_, ?_, ?_, ?_⟩
      · rw [upd_ne (ne_of_none e nHc), upd_ne (ne_of_none (sm _ _ e) nT)]
        exact sm _ _ e
      · rw [upd_same, List.map_set]
      · rw [upd_ne (Ne.symm ncp2), upd_ne npT]
        exact hp
      · rw [List.length_set]
        omega
    · rintro σ H2 ⟨y2, y3, cs, rfl, sm, hc, hp, hl⟩
      refine ⟨_, rfl, by show 3 ≤ sizeLine; decide, fun p np => ?_⟩
      have s4 := same_upd (o := .lst [V.ref c, V.int 0, V.int 0]) np
      exact q _ p c cs (sm.trans s4) ⟨⟨0, 0, upd_same, by omega, by omega, by omega⟩, s4 _ _ hc⟩ (sm.free np)
theorem scTake : FnScope ["pen", "amount", "at", "cell", "found"] ["pen", "amount"] (defScope sTake) := ⟨rfl, rfl, rfl, by decide +kernel, rfl, by decide +kernel, by decide +kernel⟩
theorem ok_take {f fS : Addr} {fd fdS : FuncData} {k : Nat} (F : Fun K "_law_take" "_law_take" sTake f fd) (FS : Fun K "_law_spread" "_law_spread" sSpread fS fdS) (bS : Binds K fdS ["cell", "at"] []) (gS : mg "_law_spread" = some (.ref fS)) (ml : mg "len" = none) :
    FnOk P w K mg base CX0 (k + 2) f fd ["pen", "amount"] spTake := by
  have GS : FnOk P w K mg base CX0 (k + 1) fS fdS ["cell", "at"] spSpread := ok_spread FS
  refine F.ok scTake (fun vs H Q E h => ?_) (fun cdv A outer s H vs Q E hr h => ?_)
  · obtain ⟨p, c, ns, n, m, rfl, _⟩ := h
    rfl
  · obtain ⟨p, c, ns, n, m, rfl, hP, hn, m0, m1, q⟩ := h
    have hn' : (n : Int) < 1000000 := by unfold penMost at hn; omega
    have hcp := hP.ne
    obtain ⟨⟨at_, left, hp, a0, a1, l0⟩, hc⟩ := hP
    have SP : ∀ {H1 : Hp} {xs : List V}, H1 p = some (.lst xs) → SqL K H1 p xs := fun h => SqL.of h
    refine ⟨_, pss_cut (ps_if (pt_cmpR op_lt (pe_ix ix_list (pv 0) pe_int (fun _ _ => rfl)) (pv 1) (nomark _))
        (pss_cons (ps_set (i := 2) scTake.nd rfl (.inl rfl) (pe_ix ix_list (pv 0) pe_int (fun _ _ => rfl)))
        (pss_cons (ps_set (i := 3) scTake.nd rfl (.inl rfl) pe_int)
        (pss_cut (ps_if (pt_cmpR op_lt (pv 2) (pe_callB call_len_seq (by rfl) ml PySem.boot_len (pa_cons (pe_ix ix_list (pv 0) pe_int (fun _ _ => rfl)) pa_nil)) (nomark _))
            (pss_one (ps_set (i := 3) scTake.nd rfl (.inl rfl) (pe_ix ix_list (pe_ix ix_list (pv 0) pe_int (fun _ _ => rfl)) (pv 2) (fun _ _ => rfl))))
            (pss_one (ps_if (pt_cmpR op_gt (pe_callB call_len_seq (by rfl) ml PySem.boot_len (pa_cons (pe_ix ix_list (pv 0) pe_int (fun _ _ => rfl)) pa_nil)) pe_int (nomark _))
              (pss_one (ps_set (i := 3) scTake.nd rfl (.inl rfl) (pe_op op_mod (pe_ix ix_list (pe_ix ix_list (pv 0) pe_int (fun _ _ => rfl)) (pe_op op_mod (pe_op op_add (pe_op op_mul (pv 2) pe_int) pe_int) (pe_callB call_len_seq (by rfl) ml PySem.boot_len (pa_cons (pe_ix ix_list (pv 0) pe_int (fun _ _ => rfl)) pa_nil))) (fun _ _ => rfl))
                (pe_op op_add (pe_op op_pow pe_int pe_int) (pv 2))))) pss_nil)))
        (pss_cons (ps_asg (pe_op op_add (pv 2) pe_int) (pg_sub (pv 0) pe_int set_list))
        (pss_one (ps_asg (pe_call GS hr (by rfl) gS FS.kp bS .nil pass0 (pa_cons (pv 3) (pa_cons (pv 2) pa_nil))) (pg_sub (pv 0) pe_int set_list)))))))
        pss_nil)
      (pss_cons (ps_set (i := 4) scTake.nd rfl (.inl rfl) (pe_op op_mod (pe_ix ix_list (pv 0) pe_int (fun _ _ => rfl)) (pv 1)))
      (pss_cons (ps_asg (pe_op op_fdiv (pe_ix ix_list (pv 0) pe_int (fun _ _ => rfl)) (pv 1)) (pg_sub (pv 0) pe_int set_list))
      (pss_one (ps_ret (pv 4))))), ?_⟩
    -- behind the if: the pen's list again
    refine ⟨fun σ H1 => ∃ (y2 y3 y4 : Option V) (at1 l1 : Int), σ = [some (.ref p), some (.int m), y2, y3, y4] ∧ Kp p H H1 ∧ H1 p = some (.lst [.ref c, .int at1, .int l1]) ∧ 0 ≤ at1 ∧ at1 ≤ (n : Int) + 1 ∧ 0 ≤ l1, ?_, ?_⟩
    · refine ⟨_, rfl, p, _, 2, .int left, rfl, rfl, SP hp, atI_nat (j := 2) rfl, _, rfl, left, m, rfl, rfl, _, rfl, ?_⟩
      refine ite2 (fun hlt => ?_) (fun _ => ?_)
      · refine ⟨_, rfl, p, _, 1, .int at_, rfl, rfl, SP hp, atI_nat (j := 1) rfl, ?_⟩
        -- the cell
        refine ⟨fun σ H1 => H1 = H ∧ ∃ (z : Int) (y4 : Option V), σ = [some (.ref p), some (.int m), some (.int at_), some (.int z), y4], ?_, ?_⟩
        · refine ⟨_, rfl, _, rfl, p, _, 0, .ref c, rfl, rfl, SP hp, atI_nat (j := 0) rfl, c, _, rfl, .inl (SqL.of hc), at_, _, rfl, rfl, _, rfl, ?_⟩
          refine ite2 (fun h1 => ?_) (fun h1 => ?_)
          · have h1 := of_decide_eq_true h1
            rw [List.length_map] at h1
            obtain ⟨z, hz⟩ := at_ints (ns := ns) a0 h1
            exact ⟨_, rfl, p, _, 0, .ref c, rfl, rfl, SP hp, atI_nat (j := 0) rfl, _, rfl, c, _, at_, _, rfl, rfl, SqL.of hc, hz, rfl, z, _, rfl⟩
          · refine ⟨_, rfl, p, _, 0, .ref c, rfl, rfl, SP hp, atI_nat (j := 0) rfl, c, _, rfl, .inl (SqL.of hc), _, 0, rfl, rfl, _, rfl, ?_⟩
            refine ite2 (fun h2 => ?_) (fun h2 => ?_)
            · have h2 := of_decide_eq_true h2
              rw [List.length_map] at h2
              have k0 := Int.emod_nonneg (at_ * 5 + 3) (Int.ne_of_gt h2)
              have k1 := Int.emod_lt_of_pos (at_ * 5 + 3) h2
              obtain ⟨z, hz⟩ := at_ints (ns := ns) k0 k1
              refine ⟨_, rfl, p, _, 0, .ref c, rfl, rfl, SP hp, atI_nat (j := 0) rfl, _, rfl, at_, 5, rfl, rfl, .inr ⟨by decide, by decide⟩, _, 3, rfl, rfl, _, rfl, p, _, 0, .ref c, rfl, rfl, SP hp, atI_nat (j := 0) rfl, c, _, rfl, .inl (SqL.of hc), _, _, rfl, rfl, by rw [List.length_map]; exact h2, c, _, _, _, rfl, rfl, SqL.of hc, by rw [List.length_map]; exact hz, 10, 17, rfl, rfl, ⟨by decide, by decide, by decide⟩, _, rfl, _, at_, rfl, rfl, z, _, rfl, rfl, ?_, rfl, _, _, rfl⟩
              have : (0 : Int) < 10 ^ (17 : Int).toNat := by decide
              show (0 : Int) < 10 ^ (17 : Int).toNat + at_
              omega
            · exact ⟨rfl, 0, _, rfl⟩
        · rintro σ H1 ⟨rfl, z, y4, rfl⟩
          refine ⟨_, rfl, at_, 1, rfl, rfl, _, rfl, p, _, 1, 1, rfl, rfl, hp, rfl, ?_⟩
          refine ⟨_, rfl, _, rfl, z, at_, rfl, a0, by omega, fun r H2 r0 s2 => ?_⟩
          have hp2 := s2 _ _ (upd_same (H := H1) (a := p) (o := .lst ([V.ref c, V.int at_, V.int left].set 1 (V.int (at_ + 1)))))
          refine ⟨_, rfl, p, _, 2, 2, rfl, rfl, hp2, rfl, ?_⟩
          refine ⟨_, _, _, at_ + 1, r, rfl, ?_, upd_same, by omega, by omega, r0⟩
          exact ((kp_upd p H1 _).same s2).trans (kp_upd p H2 _)
      · exact ⟨_, _, _, at_, left, rfl, Kp.refl p H, hp, a0, by omega, l0⟩
    · rintro σ H1 ⟨y2, y3, y4, at1, l1, rfl, kp, h1, b0, b1, c0⟩
      refine ⟨_, rfl, p, _, 2, .int l1, rfl, rfl, SP h1, atI_nat (j := 2) rfl, _, rfl, l1, m, rfl, rfl, by show (0 : Int) < m; omega, ?_⟩
      refine ⟨_, rfl, p, _, 2, .int l1, rfl, rfl, SP h1, atI_nat (j := 2) rfl, _, rfl, l1, m, rfl, rfl, ⟨by omega, by omega⟩, _, rfl, p, _, 2, 2, rfl, rfl, h1, rfl, ?_⟩
      refine ⟨_, rfl, q _ _ (Int.emod_nonneg l1 (by omega)) (Int.emod_lt_of_pos l1 (by omega)) (kp.trans (kp_upd p H1 _)) ⟨⟨at1, l1 / m, upd_same, b0, by omega, Int.ediv_nonneg c0 (by omega)⟩, ?_⟩⟩
      rw [upd_ne hcp]
      exact kp _ _ hc hcp
end
/-! ### data that stands -/
theorem _root_.L2.Same.seqT {K : PySem.W.Frag} {H H' : Hp} {a : Addr} {xs : List V} (e : Same H H') (h : SqT K H a xs) : SqT K H' a xs := by
  rcases h with (h | ⟨o, h⟩) | h
  · exact .inl (.inl (e _ _ h))
  · exact .inl (.inr ⟨o, e _ _ h⟩)
  · exact .inr h
mutual
theorem dp_same {K : PySem.W.Frag} {H H' : Hp} (s : Same H H') : ∀ {v : V} {d : PyData}, Dp K H v d → Dp K H' v d
  | _, _, .non => .non
  | _, _, .bl b => .bl b
  | _, _, .int i => .int i
  | _, _, .str x => .str x
  | _, _, .lst q r => .lst (s.seq q) (dpAll_same s r)
  | _, _, .tup q r => .tup (s.seqT q) (dpAll_same s r)
theorem dpAll_same {K : PySem.W.Frag} {H H' : Hp} (s : Same H H') : ∀ {v : List V} {d : List PyData}, DpAll K H v d → DpAll K H' v d
  | _, _, .nil => .nil
  | _, _, .cons q r => .cons (dp_same s q) (dpAll_same s r)
end
/- data without a list in it -/
mutual
def noL : PyData → Bool
  | .list _ => false
  | .tuple ds => noLAll ds
  | _ => true
def noLAll : List PyData → Bool
  | [] => true
  | d :: ds => noL d && noLAll ds
end
theorem Kp.seqT {K : PySem.W.Frag} {p a : Addr} {H H' : Hp} {l xs : List V} (e : Kp p H H') (hp : H p = some (.lst l)) (h : SqT K H a xs) : SqT K H' a xs := by
  rcases h with (h | ⟨o, h⟩) | h
  · exact .inl (.inl (e _ _ h fun z => by rw [z, hp] at h; cases h))
  · exact .inl (.inr ⟨o, e _ _ h fun z => by rw [z, hp] at h; cases h⟩)
  · exact .inr h
mutual
theorem dp_kp {K : PySem.W.Frag} {p : Addr} {H H' : Hp} {l : List V} (s : Kp p H H') (hp : H p = some (.lst l)) : ∀ {v : V} {d : PyData}, Dp K H v d → noL d = true → Dp K H' v d
  | _, _, .non, _ => .non
  | _, _, .bl b, _ => .bl b
  | _, _, .int i, _ => .int i
  | _, _, .str x, _ => .str x
  | _, _, .lst q r, h => by simp [noL] at h
  | _, _, .tup q r, h => .tup (s.seqT hp q) (dpAll_kp s hp r (by simpa [noL] using h))
theorem dpAll_kp {K : PySem.W.Frag} {p : Addr} {H H' : Hp} {l : List V} (s : Kp p H H') (hp : H p = some (.lst l)) : ∀ {v : List V} {d : List PyData}, DpAll K H v d → noLAll d = true → DpAll K H' v d
  | _, _, .nil, _ => .nil
  | _, _, .cons q r, h => by
    simp only [noLAll, Bool.and_eq_true] at h
    exact .cons (dp_kp s hp q h.1) (dpAll_kp s hp r h.2)
end
theorem dpAll_len {K : PySem.W.Frag} {H : Hp} : ∀ {vs : List V} {ds : List PyData}, DpAll K H vs ds → vs.length = ds.length
  | _, _, .nil => rfl
  | _, _, .cons _ r => by rw [List.length_cons, List.length_cons, dpAll_len r]
theorem dpAll_get {K : PySem.W.Frag} {H : Hp} : ∀ {vs : List V} {ds : List PyData} {i : Nat} {v : V}, DpAll K H vs ds → vs[i]? = some v → ∃ d, ds[i]? = some d ∧ Dp K H v d
  | _, _, _, _, .nil, h => by simp at h
  | _, _, 0, _, .cons q r, h => by
    simp at h
    subst h
    exact ⟨_, rfl, q⟩
  | _, _, i + 1, v, .cons q r, h => by
    obtain ⟨d, h1, h2⟩ := dpAll_get (i := i) (v := v) r (by simpa using h)
    exact ⟨d, by simpa using h1, h2⟩
theorem dpAll_getD {K : PySem.W.Frag} {H : Hp} : ∀ {vs : List V} {ds : List PyData} {i : Nat} {d : PyData}, DpAll K H vs ds → ds[i]? = some d → ∃ v, vs[i]? = some v ∧ Dp K H v d
  | _, _, _, _, .nil, h => by simp at h
  | _, _, 0, _, .cons q r, h => by
    simp at h
    subst h
    exact ⟨_, rfl, q⟩
  | _, _, i + 1, v, .cons q r, h => by
    obtain ⟨d, h1, h2⟩ := dpAll_getD (i := i) (d := v) r (by simpa using h)
    exact ⟨d, by simpa using h1, h2⟩
theorem dpAll_app {K : PySem.W.Frag} {H : Hp} : ∀ {vs ws : List V} {ds es : List PyData}, DpAll K H vs ds → DpAll K H ws es → DpAll K H (vs ++ ws) (ds ++ es)
  | _, _, _, _, .nil, s => s
  | _, _, _, _, .cons q r, s => .cons q (dpAll_app r s)
theorem dpAll_ints {K : PySem.W.Frag} {H : Hp} : ∀ (ns : List Int), DpAll K H (ns.map V.int) (ns.map PyData.int)
  | [] => .nil
  | _ :: r => .cons (.int _) (dpAll_ints r)
theorem dpAll_bls {K : PySem.W.Frag} {H : Hp} : ∀ (ns : List Bool), DpAll K H (ns.map V.bl) (ns.map PyData.bool)
  | [] => .nil
  | _ :: r => .cons (.bl _) (dpAll_bls r)
theorem ints_of_dp {K : PySem.W.Frag} {H : Hp} : ∀ {vs : List V} {ns : List Int}, DpAll K H vs (ns.map PyData.int) → vs = ns.map V.int
  | _, [], .nil => rfl
  | _, _ :: _, .cons q r => by
    cases q
    rw [ints_of_dp r] <;> rfl
theorem tyx_l {K : PySem.W.Frag} {H : Hp} {a : Addr} {xs : List V} (h : SqL K H a xs) : TyX K H (.ref a) (.type "list") := by
  rcases h with (h | ⟨o, h⟩) | ⟨o, its, n, h, hc, _⟩
  · exact .base (.lst h)
  · exact .base (.frz h)
  · exact .kList h hc
theorem tyx_t {K : PySem.W.Frag} {H : Hp} {a : Addr} {xs : List V} (h : SqT K H a xs) : TyX K H (.ref a) (.type "tuple") := by
  rcases h with (h | ⟨o, h⟩) | ⟨o, its, n, h, hc, _⟩
  · exact .base (.tup h)
  · exact .fTuple h
  · exact .kTuple h hc
theorem walk_zipT {K : PySem.W.Frag} {a b : Addr} {xs ys : List V} {n : Nat} (hn : n = min xs.length ys.length) : Walk (RZ.ItzT K a b) n (fun H => SqT K H a xs ∧ SqT K H b ys) (YPair (fun i => xs[i]?) (fun i => ys[i]?)) := by
  subst hn
  refine ⟨fun i _ hi q => ?_, fun _ q => ⟨xs, ys, q.1, q.2, by omega⟩, fun i H v H' _ q y => ?_⟩
  · have h1 : i < xs.length := by omega
    have h2 : i < ys.length := by omega
    exact ⟨xs, ys, xs[i], ys[i], q.1, q.2, by simp [h1], by simp [h2]⟩
  · obtain ⟨T, x, z, h1, h2, h3, h4, h5⟩ := y
    exact ⟨T, x, z, h1, h2, h3, h4 xs q.1, h5 ys q.2⟩
/-! ### alike -/
def sSame : Stmt := topS 19
/- data of so many levels, no list of it too long -/
mutual
def okD : Nat → PyData → Bool
  | 0, _ => false
  | _ + 1, .none => true
  | _ + 1, .bool _ => true
  | _ + 1, .int _ => true
  | _ + 1, .str _ => true
  | n + 1, .list ds => decide (ds.length ≤ 1000000) && okAll n ds
  | n + 1, .tuple ds => decide (ds.length ≤ 1000000) && okAll n ds
  | _ + 1, _ => false
def okAll : Nat → List PyData → Bool
  | _, [] => true
  | n, d :: ds => okD n d && okAll n ds
end
theorem okAll_get : ∀ {n : Nat} {ds : List PyData} {i : Nat} {d : PyData}, okAll n ds = true → ds[i]? = some d → okD n d = true
  | _, [], _, _, _, h => by simp at h
  | n, a :: r, 0, d, o, h => by
    simp at h
    subst h
    simp only [okAll, Bool.and_eq_true] at o
    exact o.1
  | n, a :: r, i + 1, d, o, h => by
    simp only [okAll, Bool.and_eq_true] at o
    exact okAll_get (i := i) o.2 (by simpa using h)
theorem okAll_of : ∀ {n : Nat} {ds : List PyData}, (∀ d ∈ ds, okD n d = true) → okAll n ds = true
  | _, [], _ => rfl
  | n, a :: r, h => by
    simp only [okAll, Bool.and_eq_true]
    exact ⟨h a List.mem_cons_self, okAll_of fun d hd => h d (List.mem_cons_of_mem _ hd)⟩
def spSame (K : PySem.W.Frag) (n : Nat) : Sp := fun vs H Q _ => ∃ (x y : V) (d : PyData), vs = [x, y] ∧ Dp K H x d ∧ Dp K H y d ∧ okD n d = true ∧ ∀ H', Same H H' → Q (.bl true) H'
theorem inV_rep : ∀ n : Nat, inV (.bl false) (List.replicate n (V.bl true)) = false
  | 0 => rfl
  | n + 1 => by
    rw [List.replicate_succ]
    exact inV_rep n
theorem flat_rep : ∀ n : Nat, (List.replicate n (V.bl true)).all flatV = true
  | 0 => rfl
  | n + 1 => by
    rw [List.replicate_succ]
    exact flat_rep n
theorem ifT {c : Bool} {A B : Prop} (h : c = true) (a : A) : if c = true then A else B := by
  rw [if_pos h]
  exact a
theorem ifF {c : Bool} {A B : Prop} (h : c = false) (b : B) : if c = true then A else B := by
  rw [h, if_neg Bool.false_ne_true]
  exact b
section
variable {P : Program} {w : World} {K : PySem.W.Frag} {mg : Str → Option Value} {base : Heap}
theorem scSame : FnScope ["found", "due", "one", "other"] ["found", "due"] (defScope sSame) := ⟨rfl, rfl, rfl, by decide +kernel, rfl, by decide +kernel, by decide +kernel⟩
/-- the built-in names that are looked up -/
structure Blt (mg : Str → Option Value) : Prop where
  isinstance : mg "isinstance" = none
  bool : mg "bool" = none
  int : mg "int" = none
  str : mg "str" = none
  tuple : mg "tuple" = none
  list : mg "list" = none
  len : mg "len" = none
  zip : mg "zip" = none
theorem ok_same {f : Addr} {fd : FuncData} (F : Fun K "_law_same" "_law_same" sSame f fd) (bS : Binds K fd ["found", "due"] []) (gS : mg "_law_same" = some (.ref f)) (B : Blt mg) : ∀ n : Nat, FnOk P w K mg base CX0 (n + 1) f fd ["found", "due"] (spSame K n)
  | 0 => F.ok scSame (fun vs H Q E h => by obtain ⟨x, y, d, _, _, _, h, _⟩ := h; unfold okD at h; cases h) (fun cdv A outer s H vs Q E hr h => by obtain ⟨x, y, d, _, _, _, h, _⟩ := h; unfold okD at h; cases h)
  | n + 1 => by
    have G : FnOk P w K mg base CX0 (n + 1) f fd ["found", "due"] (spSame K n) := ok_same F bS gS B n
    refine F.ok scSame (fun vs H Q E h => ?_) (fun cdv A outer s H vs Q E hr h => ?_)
    · obtain ⟨x, y, d, rfl, _⟩ := h
      rfl
    · obtain ⟨x, y, d, rfl, hx, hy, hok, q⟩ := h
      refine ⟨_, pss_cons (ps_if (PW.pt (pw_or (pt_cmp (pc_isN (pv 1))) (pw_or1 (pt_cmp (pc_isN (pv 0))))))
          (pss_one (ps_ret (pe_and (pe_cmp (pc_isN (pv 1))) (pe_one (pe_cmp (pc_isN (pv 0))))))) pss_nil)
        (pss_cons (ps_if (PW.pt (pw_or (pt_val (pe_callB call_isi (by rfl) B.isinstance (by decide +kernel) (pa_cons (pv 1) (pa_cons (pe_bltn (v := .ty "bool") (by rfl) B.bool (by decide +kernel) rfl) pa_nil))))
            (pw_or1 (pt_val (pe_callB call_isi (by rfl) B.isinstance (by decide +kernel) (pa_cons (pv 0) (pa_cons (pe_bltn (v := .ty "bool") (by rfl) B.bool (by decide +kernel) rfl) pa_nil)))))))
          (pss_one (ps_ret (pe_and (pe_callB call_isi (by rfl) B.isinstance (by decide +kernel) (pa_cons (pv 1) (pa_cons (pe_bltn (v := .ty "bool") (by rfl) B.bool (by decide +kernel) rfl) pa_nil)))
            (pe_and (pe_callB call_isi (by rfl) B.isinstance (by decide +kernel) (pa_cons (pv 0) (pa_cons (pe_bltn (v := .ty "bool") (by rfl) B.bool (by decide +kernel) rfl) pa_nil)))
              (pe_one (pe_cmpR op_eq (pv 0) (pv 1) (nomark _))))))) pss_nil)
        (pss_cons (ps_if (pt_val (pe_callB call_isiT (by rfl) B.isinstance (by decide +kernel) (pa_cons (pv 1) (pa_cons (pe_tup (pa_cons (pe_bltn (v := .ty "int") (by rfl) B.int (by decide +kernel) rfl) (pa_cons (pe_bltn (v := .ty "str") (by rfl) B.str (by decide +kernel) rfl) pa_nil))) pa_nil))))
          (pss_cons (ps_if (pt_cmpR op_ne (pe_callB call_isi (by rfl) B.isinstance (by decide +kernel) (pa_cons (pv 0) (pa_cons (pe_bltn (v := .ty "int") (by rfl) B.int (by decide +kernel) rfl) pa_nil)))
              (pe_callB call_isi (by rfl) B.isinstance (by decide +kernel) (pa_cons (pv 1) (pa_cons (pe_bltn (v := .ty "int") (by rfl) B.int (by decide +kernel) rfl) pa_nil))) (nomark _))
            (pss_one (ps_ret pe_bl)) pss_nil)
          (pss_one (ps_ret (pe_and (pe_callB call_isiT (by rfl) B.isinstance (by decide +kernel) (pa_cons (pv 0) (pa_cons (pe_tup (pa_cons (pe_bltn (v := .ty "int") (by rfl) B.int (by decide +kernel) rfl) (pa_cons (pe_bltn (v := .ty "str") (by rfl) B.str (by decide +kernel) rfl) pa_nil))) pa_nil)))
            (pe_one (pe_cmpR op_eq (pv 0) (pv 1) (nomark _))))))) pss_nil)
        (pss_cons (ps_if (PW.pt (pw_or (pt_cmpR op_ne (pe_callB call_isi (by rfl) B.isinstance (by decide +kernel) (pa_cons (pv 1) (pa_cons (pe_bltn (v := .ty "tuple") (by rfl) B.tuple (by decide +kernel) rfl) pa_nil)))
              (pe_callB call_isi (by rfl) B.isinstance (by decide +kernel) (pa_cons (pv 0) (pa_cons (pe_bltn (v := .ty "tuple") (by rfl) B.tuple (by decide +kernel) rfl) pa_nil))) (nomark _))
            (pw_or1 (pt_cmpR op_ne (pe_callB call_isi (by rfl) B.isinstance (by decide +kernel) (pa_cons (pv 1) (pa_cons (pe_bltn (v := .ty "list") (by rfl) B.list (by decide +kernel) rfl) pa_nil)))
              (pe_callB call_isi (by rfl) B.isinstance (by decide +kernel) (pa_cons (pv 0) (pa_cons (pe_bltn (v := .ty "list") (by rfl) B.list (by decide +kernel) rfl) pa_nil))) (nomark _)))))
          (pss_one (ps_ret pe_bl)) pss_nil)
        (pss_cons (ps_if (pt_cmpR op_ne (pe_callB call_len_seq (by rfl) B.len PySem.boot_len (pa_cons (pv 0) pa_nil)) (pe_callB call_len_seq (by rfl) B.len PySem.boot_len (pa_cons (pv 1) pa_nil)) (nomark _))
          (pss_one (ps_ret pe_bl)) pss_nil)
        (pss_one (ps_ret (pe_cmpR op_notIn_seq pe_bl (pe_lc (own := [("one", 2), ("other", 3)]) (g := gTup K 2 (gCons (gName 2) (gCons (gName 3) gNil))) (tt := tYes) rfl scSame.nd (pi_zipA (by rfl) B.zip (pa_cons (pv 0) (pa_cons (pv 1) pa_nil)))
          (blkOk_by (N := ["found", "due", "one", "other"]) (sc := defScope sSame) (by decide +kernel))
          (fun _ _ _ _ _ => by refine pg_tup rfl (pgs_cons ?_ (pgs_cons ?_ pgs_nil)); exact pg_name (i := 2) scSame.nd rfl (.inl rfl); exact pg_name (i := 3) scSame.nd rfl (.inl rfl))
          (fun _ _ _ _ _ => pts_nil) (fun _ _ _ _ _ => by exact pe_call G hr (by rfl) gS F.kp bS .nil pass0 (pa_cons (pv 2) (pa_cons (pv 3) pa_nil)))) (by rfl)))))))), ?_⟩
      cases d with
      | none =>
        cases hx; cases hy
        exact ⟨_, rfl, _, rfl, ifT rfl (ifT rfl ⟨_, rfl, _, rfl, ifT rfl ⟨_, rfl, q H (Same.refl H)⟩⟩)⟩
      | bool b =>
        cases hx; cases hy
        have e : decide (V.bl b = V.bl b) = true := decide_eq_true rfl
        refine ⟨_, rfl, _, rfl, ifF rfl ⟨_, rfl, _, rfl, ifF rfl ⟨_, rfl, _, _, _, _, true, rfl, .ty _, .base (.bl b), kit_ty (by decide +kernel), _, rfl, ifT rfl (ifT rfl ⟨_, rfl, _, _, _, _, true, rfl, .ty _, .base (.bl b), kit_ty (by decide +kernel), _, rfl, ifT rfl ⟨_, rfl, _, _, _, _, true, rfl, .ty _, .base (.bl b), kit_ty (by decide +kernel), _, rfl, ifT rfl ⟨_, rfl, _, rfl, rfl, ?_⟩⟩⟩)⟩⟩⟩
        rw [e]
        exact q H (Same.refl H)
      | int i =>
        cases hx; cases hy
        have e : decide (V.int i = V.int i) = true := decide_eq_true rfl
        refine ⟨_, rfl, _, rfl, ifF rfl ⟨_, rfl, _, rfl, ifF rfl ⟨_, rfl, _, _, _, _, false, rfl, .ty _, .base (.int i), kit_ty (by decide +kernel), _, rfl, ifF rfl ⟨_, rfl, _, _, _, _, false, rfl, .ty _, .base (.int i), kit_ty (by decide +kernel), _, rfl, ifF rfl ⟨_, rfl, by show 2 ≤ sizeLine; decide, fun p1 np1 => ⟨_, p1, _, _, _, true, rfl, upd_same, .cons (.ty _) (.cons (.ty _) .nil), .base (.int i), kitAny_cons (b := true) (kit_ty (by decide +kernel)) (fun h => nomatch h) (fun _ => rfl), _, rfl, ifT rfl ⟨_, rfl, _, _, _, _, true, rfl, .ty _, .base (.int i), kit_ty (by decide +kernel), _, rfl, _, _, _, _, true, rfl, .ty _, .base (.int i), kit_ty (by decide +kernel), rfl, _, rfl, ifF rfl ⟨_, rfl, by show 2 ≤ sizeLine; decide, fun p2 np2 => ⟨_, p2, _, _, _, true, rfl, upd_same, .cons (.ty _) (.cons (.ty _) .nil), .base (.int i), kitAny_cons (b := true) (kit_ty (by decide +kernel)) (fun h => nomatch h) (fun _ => rfl), _, rfl, ifT rfl ⟨_, rfl, _, rfl, rfl, ?_⟩⟩⟩⟩⟩⟩⟩⟩⟩⟩
        rw [e]
        exact q _ ((same_upd np1).trans (same_upd np2))
      | str i =>
        cases hx; cases hy
        have e : decide (V.str i = V.str i) = true := decide_eq_true rfl
        refine ⟨_, rfl, _, rfl, ifF rfl ⟨_, rfl, _, rfl, ifF rfl ⟨_, rfl, _, _, _, _, false, rfl, .ty _, .base (.str i), kit_ty (by decide +kernel), _, rfl, ifF rfl ⟨_, rfl, _, _, _, _, false, rfl, .ty _, .base (.str i), kit_ty (by decide +kernel), _, rfl, ifF rfl ⟨_, rfl, by show 2 ≤ sizeLine; decide, fun p1 np1 => ⟨_, p1, _, _, _, true, rfl, upd_same, .cons (.ty _) (.cons (.ty _) .nil), .base (.str i), kitAny_cons (b := false) (kit_ty (by decide +kernel)) (fun _ => kitAny_cons (b := true) (kit_ty (by decide +kernel)) (fun h => nomatch h) (fun _ => rfl)) (fun h => nomatch h), _, rfl, ifT rfl ⟨_, rfl, _, _, _, _, false, rfl, .ty _, .base (.str i), kit_ty (by decide +kernel), _, rfl, _, _, _, _, false, rfl, .ty _, .base (.str i), kit_ty (by decide +kernel), rfl, _, rfl, ifF rfl ⟨_, rfl, by show 2 ≤ sizeLine; decide, fun p2 np2 => ⟨_, p2, _, _, _, true, rfl, upd_same, .cons (.ty _) (.cons (.ty _) .nil), .base (.str i), kitAny_cons (b := false) (kit_ty (by decide +kernel)) (fun _ => kitAny_cons (b := true) (kit_ty (by decide +kernel)) (fun h => nomatch h) (fun _ => rfl)) (fun h => nomatch h), _, rfl, ifT rfl ⟨_, rfl, _, rfl, rfl, ?_⟩⟩⟩⟩⟩⟩⟩⟩⟩⟩
        rw [e]
        exact q _ ((same_upd np1).trans (same_upd np2))
      | list ds =>
        cases hx with
        | @lst a xs _ hqx hax =>
        cases hy with
        | @lst b ys _ hqy hay =>
        simp only [okD, Bool.and_eq_true, decide_eq_true_eq] at hok
        have lx := dpAll_len hax
        have ly := dpAll_len hay
        have e : decide (V.int (xs.length : Int) = V.int (ys.length : Int)) = true := decide_eq_true (by rw [lx, ly])
        refine ⟨_, rfl, _, rfl, ifF rfl ⟨_, rfl, _, rfl, ifF rfl ⟨_, rfl, _, _, _, _, false, rfl, .ty _, (tyx_l hqy), kit_ty (by decide +kernel), _, rfl, ifF rfl ⟨_, rfl, _, _, _, _, false, rfl, .ty _, (tyx_l hqx), kit_ty (by decide +kernel), _, rfl, ifF rfl ⟨_, rfl, by show 2 ≤ sizeLine; decide, fun p1 np1 => ⟨_, p1, _, _, _, false, rfl, upd_same, .cons (.ty _) (.cons (.ty _) .nil), (tyx_l ((same_upd np1).seq hqy)), kitAny_cons (b := false) (kit_ty (by decide +kernel)) (fun _ => kitAny_cons (b := false) (kit_ty (by decide +kernel)) (fun _ => kitAny_nil) (fun h => nomatch h)) (fun h => nomatch h), _, rfl, ifF rfl ?_⟩⟩⟩⟩⟩⟩
        have s1 := same_upd (o := .tup [V.ty "int", V.ty "str"]) np1
        refine ⟨_, rfl, _, _, _, _, false, rfl, .ty _, (tyx_l (s1.seq hqy)), kit_ty (by decide +kernel), _, rfl, _, _, _, _, false, rfl, .ty _, (tyx_l (s1.seq hqx)), kit_ty (by decide +kernel), rfl, _, rfl, ifF rfl ⟨_, rfl, _, _, _, _, true, rfl, .ty _, (tyx_l (s1.seq hqy)), kit_ty (by decide +kernel), _, rfl, _, _, _, _, true, rfl, .ty _, (tyx_l (s1.seq hqx)), kit_ty (by decide +kernel), rfl, _, rfl, ifF rfl ?_⟩⟩
        refine ⟨_, rfl, a, xs, rfl, .inl (s1.seq hqx), _, rfl, b, ys, rfl, .inl (s1.seq hqy), rfl, _, rfl, ?_⟩
        rw [e]
        refine ifF rfl ?_
        refine ⟨_, rfl, _, rfl, a, b, xs, ys, rfl, .inl ⟨s1.seq hqx, s1.seq hqy, fun D nD => ?_⟩⟩
        refine lc_it (walk_zip (K := K) (a := a) (b := b) (xs := xs) (ys := ys) (n := ds.length) (by omega)) (fun i H2 => Same (upd H p1 (.tup [V.ty "int", V.ty "str"])) H2 ∧ H2 D = some (.lst (List.replicate i (V.bl true)))) ⟨same_upd nD, upd_same⟩ ?_ ?_ ?_
        · rintro i H2 _ ⟨s2, _⟩
          exact ⟨s2.seq (s1.seq hqx), s2.seq (s1.seq hqy)⟩
        · rintro i v H2 H3 hi ⟨s2, hD⟩ ⟨T, x1, x2, rfl, nT, rfl, f1, f2⟩
          have sT := same_upd (o := .tup [x1, x2]) nT
          obtain ⟨d1, g1, h1⟩ := dpAll_get hax f1
          obtain ⟨d2, g2, h2⟩ := dpAll_get hay f2
          have ed : d1 = d2 := Option.some.inj (g1.symm.trans g2)
          subst ed
          have s3 : Same H (upd H2 T (.tup [x1, x2])) := (s1.trans s2).trans sT
          refine ⟨T, _, rfl, SqT.of upd_same, rfl, _, _, rfl, _, _, rfl, rfl, rfl, ?_⟩
          refine ⟨_, rfl, _, rfl, x1, x2, d1, rfl, dp_same s3 h1, dp_same s3 h2, okAll_get hok.2 g1, fun H4 s4 => ?_⟩
          refine ⟨_, s4 _ _ (sT _ _ hD), ?_, fun b' o' e' => ?_, ?_⟩
          · rw [List.length_replicate]
            exact Nat.lt_of_lt_of_le (Nat.lt_of_lt_of_le hi hok.1) (by decide)
          · rw [upd_ne (ne_of_none e' nD)]
            exact s4 _ _ (sT _ _ (s2 _ _ e'))
          · rw [upd_same, List.replicate_succ']
        · rintro H2 ⟨s2, hD⟩
          refine ⟨D, _, rfl, .inl (SqL.of hD), rfl, flat_rep _, ?_⟩
          rw [inV_rep]
          exact q H2 (s1.trans s2)
      | tuple ds =>
        cases hx with
        | @tup a xs _ hqx hax =>
        cases hy with
        | @tup b ys _ hqy hay =>
        simp only [okD, Bool.and_eq_true, decide_eq_true_eq] at hok
        have lx := dpAll_len hax
        have ly := dpAll_len hay
        have e : decide (V.int (xs.length : Int) = V.int (ys.length : Int)) = true := decide_eq_true (by rw [lx, ly])
        refine ⟨_, rfl, _, rfl, ifF rfl ⟨_, rfl, _, rfl, ifF rfl ⟨_, rfl, _, _, _, _, false, rfl, .ty _, (tyx_t hqy), kit_ty (by decide +kernel), _, rfl, ifF rfl ⟨_, rfl, _, _, _, _, false, rfl, .ty _, (tyx_t hqx), kit_ty (by decide +kernel), _, rfl, ifF rfl ⟨_, rfl, by show 2 ≤ sizeLine; decide, fun p1 np1 => ⟨_, p1, _, _, _, false, rfl, upd_same, .cons (.ty _) (.cons (.ty _) .nil), (tyx_t ((same_upd np1).seqT hqy)), kitAny_cons (b := false) (kit_ty (by decide +kernel)) (fun _ => kitAny_cons (b := false) (kit_ty (by decide +kernel)) (fun _ => kitAny_nil) (fun h => nomatch h)) (fun h => nomatch h), _, rfl, ifF rfl ?_⟩⟩⟩⟩⟩⟩
        have s1 := same_upd (o := .tup [V.ty "int", V.ty "str"]) np1
        refine ⟨_, rfl, _, _, _, _, true, rfl, .ty _, (tyx_t (s1.seqT hqy)), kit_ty (by decide +kernel), _, rfl, _, _, _, _, true, rfl, .ty _, (tyx_t (s1.seqT hqx)), kit_ty (by decide +kernel), rfl, _, rfl, ifF rfl ⟨_, rfl, _, _, _, _, false, rfl, .ty _, (tyx_t (s1.seqT hqy)), kit_ty (by decide +kernel), _, rfl, _, _, _, _, false, rfl, .ty _, (tyx_t (s1.seqT hqx)), kit_ty (by decide +kernel), rfl, _, rfl, ifF rfl ?_⟩⟩
        refine ⟨_, rfl, a, xs, rfl, .inr (s1.seqT hqx), _, rfl, b, ys, rfl, .inr (s1.seqT hqy), rfl, _, rfl, ?_⟩
        rw [e]
        refine ifF rfl ?_
        refine ⟨_, rfl, _, rfl, a, b, xs, ys, rfl, .inr ⟨s1.seqT hqx, s1.seqT hqy, fun D nD => ?_⟩⟩
        refine lc_it (walk_zipT (K := K) (a := a) (b := b) (xs := xs) (ys := ys) (n := ds.length) (by omega)) (fun i H2 => Same (upd H p1 (.tup [V.ty "int", V.ty "str"])) H2 ∧ H2 D = some (.lst (List.replicate i (V.bl true)))) ⟨same_upd nD, upd_same⟩ ?_ ?_ ?_
        · rintro i H2 _ ⟨s2, _⟩
          exact ⟨s2.seqT (s1.seqT hqx), s2.seqT (s1.seqT hqy)⟩
        · rintro i v H2 H3 hi ⟨s2, hD⟩ ⟨T, x1, x2, rfl, nT, rfl, f1, f2⟩
          have sT := same_upd (o := .tup [x1, x2]) nT
          obtain ⟨d1, g1, h1⟩ := dpAll_get hax f1
          obtain ⟨d2, g2, h2⟩ := dpAll_get hay f2
          have ed : d1 = d2 := Option.some.inj (g1.symm.trans g2)
          subst ed
          have s3 : Same H (upd H2 T (.tup [x1, x2])) := (s1.trans s2).trans sT
          refine ⟨T, _, rfl, SqT.of upd_same, rfl, _, _, rfl, _, _, rfl, rfl, rfl, ?_⟩
          refine ⟨_, rfl, _, rfl, x1, x2, d1, rfl, dp_same s3 h1, dp_same s3 h2, okAll_get hok.2 g1, fun H4 s4 => ?_⟩
          refine ⟨_, s4 _ _ (sT _ _ hD), ?_, fun b' o' e' => ?_, ?_⟩
          · rw [List.length_replicate]
            exact Nat.lt_of_lt_of_le (Nat.lt_of_lt_of_le hi hok.1) (by decide)
          · rw [upd_ne (ne_of_none e' nD)]
            exact s4 _ _ (sT _ _ (s2 _ _ e'))
          · rw [upd_same, List.replicate_succ']
        · rintro H2 ⟨s2, hD⟩
          refine ⟨D, _, rfl, .inl (SqL.of hD), rfl, flat_rep _, ?_⟩
          rw [inV_rep]
          exact q H2 (s1.trans s2)
      | _ => exact absurd hok (by simp [okD])
end
/-! ### enumerate over a tuple -/
theorem draws_tuple {prog : Program} {w : World} {A : Around} (hh : A.handled = none) (it l : Addr) (ne : l ≠ it) (vs : Array Value) :
    Draws prog w A it [it, l] vs.size (fun i v => vs[i]? = some v) (fun i h => h.IsTupleIter it l i ∧ h.IsTuple l vs) where
  live := fun _ _ st => st.1.elim fun o ho => ⟨o, ho.1⟩
  frame := fun _ _ _ st keep => by
    obtain ⟨⟨o, ho, ro⟩, ⟨u, hu, ru⟩⟩ := st
    exact ⟨⟨o, keep it (by simp) o ho, ro⟩, ⟨u, keep l (by simp) u hu, ru⟩⟩
  item := fun i s Q E hi st hQ => by
    refine RZ.nextOf_tuple_item st.1 st.2 (x := vs[i]) (by simp [hi]) fun h' it' but => ?_
    exact hQ _ h' s.toks (by simp [hi]) ⟨it', st.2.extBut but.extBut ne⟩ but
  done := fun s Q E st hE => RZ.nextOf_tuple_end hh st.1 st.2 (by simp) hE
set_option maxHeartbeats 1000000 in
theorem enum_made_tuple (l : Addr) (vs : Array Value) (n : Nat) (dct : Option Addr) (sl : Array (Option Value)) :
    Meets (Builtin.«enumerate.__new__» ⟨[.type "enumerate", .ref l], []⟩) (fun _ R s => s.heap.get? l = some { cls := .type "tuple", dict := dct, data := .seq vs n, slots := sl } ∧
      R (.ok (.ret (.ref (s.heap.push { cls := .type "tuple_iterator", data := .fields #[.ref l, .int 0 0] }).objs.size)))
        { s with heap := (s.heap.push { cls := .type "tuple_iterator", data := .fields #[.ref l, .int 0 0] }).push { cls := .type "enumerate", data := .fields #[.none, .bool false, .ref s.heap.objs.size, rawInt 0, .none, .none] } }) := by
  refine .of_wp fun prog w A R s given => ?_
  obtain ⟨hp, g, d, tk, os⟩ := s
  obtain ⟨there, goal⟩ := given
  have sub := sub_enumerate
  have isT : Heap.IsTuple (Shared.heap ⟨hp, g, d, tk, os⟩) l vs := ⟨_, there, rfl, n, rfl⟩
  wp_walk using AutoSeq1.wpAny_loadPart' there
  refine wpAny_stack_any fun st => wpAny_pure ?_
  split
  · rename_i c _ _ _ _ _
    cases (c == Value.type "enumerate") <;> (wp_walk using AutoSeq1.wpAny_loadPart' there, wpAny_pyIter_tuple isT; exact ⟨_, rfl, goal⟩)
  · wp_walk using AutoSeq1.wpAny_loadPart' there, wpAny_pyIter_tuple isT
    exact ⟨_, rfl, goal⟩
theorem call_enum_tuple {prog : Program} {w : World} {A : Around} {E : Value → Shared → Prop} {s : Shared} {l : Addr} {vs : Array Value} {Q : Value → Shared → Prop} (isT : s.heap.IsTuple l vs)
    (hQ : ∀ h', IsEnum h' (s.heap.objs.size + 1) s.heap.objs.size 0 .none → h'.IsTupleIter s.heap.objs.size l 0 → (∀ b o, s.heap.get? b = some o → h'.get? b = some o) → Q (.ref (s.heap.objs.size + 1)) { s with heap := h' }) :
    wpAny (model prog w) A (call (.type "enumerate") [.ref l]) Q E s := by
  obtain ⟨⟨c, dct, dt, sl⟩, there, hc, n, hd⟩ := isT
  obtain rfl : c = .type "tuple" := hc
  obtain rfl : dt = .seq vs n := hd
  have sz : (s.heap.push { cls := .type "tuple_iterator", data := .fields #[.ref l, .int 0 0] }).objs.size = s.heap.objs.size + 1 := Heap.size_push ..
  refine callType_new F.called_enumerate (by decide) (F.typeCall_enumerate_1 _) (F.newCall_enumerate_1 _) (fun obj => F.args_object_init_2 obj _) F.entry_enumerate_new (enum_made_tuple l vs n dct sl) ⟨there, ?_⟩
  rw [sz]
  have made : IsEnum ((s.heap.push { cls := .type "tuple_iterator", data := .fields #[.ref l, .int 0 0] }).push { cls := .type "enumerate", data := .fields #[.none, .bool false, .ref s.heap.objs.size, rawInt 0, .none, .none] }) (s.heap.objs.size + 1) s.heap.objs.size 0 .none := by
    show Heap.get? _ _ = _
    rw [← sz]
    exact Heap.get?_push_size _ rfl
  exact ⟨⟨_, made, rfl⟩, hQ _ made ⟨_, Heap.get?_push_of_some _ (Heap.get?_push_size _ rfl), rfl, rfl⟩ fun b o e => Heap.get?_push_of_some _ (Heap.get?_push_of_some _ e)⟩
/-- the tuple at a, by its items' numbers -/
def ItnT (K : PySem.W.Frag) (a : Addr) : It where
  go := fun i H => ∃ (xs : List V) (x : V), SqT K H a xs ∧ xs[i]? = some x
  yld := fun i H v H' => ∃ T x, v = .ref T ∧ H T = none ∧ H' = upd H T (.tup [.int (i : Nat), x]) ∧ ∀ xs, SqT K H a xs → xs[i]? = some x
  stop := fun i H => ∃ xs : List V, SqT K H a xs ∧ xs.length = i
theorem walk_enumT {K : PySem.W.Frag} {a : Addr} {xs : List V} : Walk (ItnT K a) xs.length (fun H => SqT K H a xs) (YPair (fun i => some (.int (i : Nat))) (fun i => xs[i]?)) where
  goes := fun i _ hi q => ⟨xs, xs[i], q, by simp [hi]⟩
  stops := fun _ q => ⟨xs, q, rfl⟩
  yields := fun i H v H' _ q ⟨T, x, h1, h2, h3, h4⟩ => ⟨T, .int (i : Nat), x, h1, h2, h3, rfl, h4 xs q⟩
theorem turn_enumT {P : Program} {w : World} {K : PySem.W.Frag} {elts : List Expr} {kk : Nat} {tpos : Pos} (a e it : Addr) :
    Turn P w K (.Tuple elts kk tpos) (ItnT K a) [e, it] e (fun i h => (∃ old, IsEnum h e it ((i : Nat) : Int) old) ∧ h.IsTupleIter it a i ∧ e ≠ it) where
  mem := List.mem_cons_self
  obj := fun i h st b hb => by
    obtain ⟨⟨old, he⟩, ⟨o, ho, _, hd⟩, _⟩ := st
    rcases List.mem_cons.mp hb with rfl | hb
    · exact ⟨_, he, fun v q => nomatch q⟩
    · rw [List.mem_singleton.mp hb]
      exact ⟨o, ho, fun v q => by rw [hd] at q; cases q⟩
  keep := fun i h h' st keep => by
    obtain ⟨⟨old, he⟩, ⟨o, ho, r⟩, ne⟩ := st
    exact ⟨⟨old, keep e (by simp) _ he⟩, ⟨o, keep it (by simp) _ ho, r⟩, ne⟩
  item := by
    intro X hP hw hK hc i pins s σ H E I free st going
    subst hP hw hK
    obtain ⟨⟨old, he⟩, hit, ne⟩ := st
    obtain ⟨xs, x, seq, hx⟩ := going
    obtain ⟨its, vals, isT, _⟩ := I.tuple seq
    obtain ⟨u, hu, ru⟩ := vals.get hx
    have elt : e < s.heap.objs.size := Heap.lt_size he
    obtain ⟨oi, hoi, ci, di⟩ := id hit
    have ilt : it < s.heap.objs.size := Heap.lt_size hoi
    have isT' : s.heap.IsTuple a its.toArray := isT
    obtain ⟨oa, hoa, ca, na, da⟩ := id isT'
    have ai : a ≠ it := by
      rintro rfl
      rw [hoa] at hoi
      rw [Option.some.inj hoi, di] at da
      cases da
    have ea : e ≠ a := by
      rintro rfl
      have he' := hoa.symm.trans (show s.heap.get? e = some _ from he)
      rw [Option.some.inj he'] at da
      cases da
    have hlt : i < its.toArray.size := by
      rw [List.size_toArray, ← vals.length]
      exact (List.getElem?_eq_some_iff.mp hx).1
    have D := draws_tuple (prog := X.prog) (w := X.w) (A := X.A.in1) (I.ok.hd hc) it a ai its.toArray
    refine wpAny_pyNext_enum_itemD D he ⟨hit, isT'⟩ hlt ne (by simp [ne, ea]) fun v h' tk hv eo st' hT sz keeps => ?_
    obtain rfl : u = v := by
      have hv' : its[i]? = some v := by simpa using hv
      exact Option.some.inj (hu.symm.trans hv')
    refine ⟨_, rfl, wpAny_letOwnedTupleGo_enum (s := { s with heap := h', toks := tk + 1 }) eo fun h'' e'' sb => ?_⟩
    have hT2 : h''.get? s.heap.objs.size = some { cls := .type "tuple", data := .seq #[.int i tk, u] } := (sb.2 _ (Nat.ne_of_gt elt)).trans hT
    have fresh : ObjOk X.prog X.w (upd H s.heap.objs.size (.tup [.int (i : Nat), x])) h'' s.heap.objs.size (.tup [.int (i : Nat), x]) :=
      ⟨by show 2 ≤ sizeLine; decide, [.int i tk, u], .cons ⟨_, rfl⟩ (.cons ru .nil), ⟨_, hT2, rfl, _, rfl⟩⟩
    have J : Inv X pins σ (upd H s.heap.objs.size (.tup [.int (i : Nat), x])) { s with heap := h'', toks := tk + 1 } :=
      I.turnedNew (ch := [e, it]) (fun b ob hb q => (sb.2 b fun z => hb (by simp [z])).trans (keeps b ob (fun z => hb (by simp [z])) (fun z => hb (by simp [z])) q)) free (Nat.le_refl _) fresh
    refine ⟨.ref s.heap.objs.size, _, J, rfl, ⟨_, x, rfl, I.hok.fresh (Nat.le_refl _), rfl, fun ys hy => ?_⟩, ⟨⟨u, ?_⟩, ?_, ne⟩, fun b hb => ?_⟩
    · obtain ⟨its2, vals2, isT2, _⟩ := I.tuple hy
      rw [I.tuple_inj hy seq]
      exact hx
    · rw [show ((i + 1 : Nat) : Int) = (i : Int) + 1 by omega]
      exact e''
    · obtain ⟨o, ho, r⟩ := st'.1
      exact ⟨o, (sb.2 it (Ne.symm ne)).trans ho, r⟩
    · have : b < s.heap.objs.size := by
        rcases List.mem_cons.mp hb with rfl | hb
        · exact elt
        · rw [List.mem_singleton.mp hb]
          exact ilt
      rw [upd_ne (Nat.ne_of_lt this)]
      exact (free b hb).1
  done := by
    intro X hP hw hK hc i pins s σ H E I free st ends
    subst hP hw hK
    obtain ⟨⟨old, he⟩, hit, ne⟩ := st
    obtain ⟨xs, seq, hx⟩ := ends
    obtain ⟨its, vals, isT, _⟩ := I.tuple seq
    obtain ⟨oi, hoi, ci, di⟩ := id hit
    have isT' : s.heap.IsTuple a its.toArray := isT
    obtain ⟨oa, hoa, ca, na, da⟩ := id isT'
    have ai : a ≠ it := by
      rintro rfl
      rw [hoa] at hoi
      rw [Option.some.inj hoi, di] at da
      cases da
    have sz : i = its.toArray.size := by
      rw [List.size_toArray, ← vals.length, hx]
    subst sz
    have D := draws_tuple (prog := X.prog) (w := X.w) (A := X.A.in1) (I.ok.hd hc) it a ai its.toArray
    obtain ⟨f0, f1, f2, f3, f4, f5⟩ := free it (by simp)
    exact wpAny_pyNext_enum_endD D he ⟨hit, isT'⟩ fun h' eb => ⟨rfl, I.turned (t' := s.toks) (fun b o hb q => eb b o hb q) f0 f1 f3 f4 f5⟩
  self := fun A i s Q E st h => st.1.elim fun _ he => wpAny_pyIter_enum he h
def iEnumT (K : PySem.W.Frag) (ta : TA) : TI := fun σ H R => ta σ H fun vs H1 => ∃ a xs, vs = [.ref a] ∧ SqT K H1 a xs ∧ R (ItnT K a) H1
theorem pi_enumT {X : Cx} {e : Expr} {ta : TA} {p pos tpos : Pos} {elts : List Expr} {kk : Nat} (hg : Gl X "enumerate") (hm : X.mg "enumerate" = none) (ha : PA X [e] ta) (hs : starEach [e] X.env = [(false, eval e X.env)] := by rfl) :
    PI X (.Tuple elts kk tpos) (.Call (.Name "enumerate" p) [e] [] pos) (iEnumT X.K ta) := by
  refine ⟨fun pins s σ H R I h => Call_ (ld_blt I hg hm boot_enumerate (PyProof.Rows.callWith_type1 (thn (ha.run pos pins s σ H _ I h) fun us s1 ⟨vs, H1, I1, r1, q1⟩ => ?_) hs rfl))⟩
  obtain ⟨a, xs, rfl, seq, q⟩ := q1
  obtain ⟨u, rfl, ru⟩ := vals1 r1
  cases ru
  obtain ⟨its, vals, isT, _⟩ := I1.tuple seq
  refine call_enum_tuple isT fun h' he hit keeps => wpAny_pyIter_enum he ?_
  refine ⟨s1.heap.objs.size + 1, [s1.heap.objs.size + 1, s1.heap.objs.size], _, _, H1, rfl, I1.kept (t' := s1.toks) keeps, turn_enumT a (s1.heap.objs.size + 1) s1.heap.objs.size, ⟨⟨.none, he⟩, hit, Nat.succ_ne_self _⟩, fun b hb => ?_, q⟩
  have le : s1.heap.objs.size ≤ b := by
    rcases List.mem_cons.mp hb with rfl | hb
    · exact Nat.le_succ _
    · rw [List.mem_singleton.mp hb]
      exact Nat.le_refl _
  exact I1.fpOk le (I1.hok.fresh le)
/-! ### min of a tuple of ints -/
theorem ints_readsAll {h : Heap} : ∀ {vs : List Value} {ns : List Int}, Vals (ns.map V.int) vs → ∃ as, ReadsAll h vs (ns.map PyData.int) as
  | [], [], _ => ⟨[], .nil⟩
  | v :: vs, n :: ns, r => by
    cases r with
    | cons r rr =>
      obtain ⟨t, rfl⟩ := r
      obtain ⟨as, q⟩ := ints_readsAll (h := h) rr
      exact ⟨_, .cons (.int n t) q⟩
  | _ :: _, [], r => nomatch r
  | [], _ :: _, r => nomatch r
theorem depthAll_ints : ∀ ns : List Int, PyData.depthAll (ns.map PyData.int) ≤ 1
  | [] => Nat.zero_le _
  | n :: ns => by
    have := depthAll_ints ns
    show max (PyData.depth (.int n)) (PyData.depthAll (ns.map PyData.int)) ≤ 1
    have e : PyData.depth (.int n) ≤ 1 := by first | decide | simp [PyData.depth]
    omega
def rMinT (K : PySem.W.Frag) : List V → Hp → VK → Prop := fun vs H Q => ∃ (a : Addr) (n : Int) (ns : List Int), vs = [V.ref a] ∧ SqT K H a ((n :: ns).map V.int) ∧ Q (.int (ns.foldl min n)) H
theorem cr_minT {X : Cx} {k : Nat} (hc : X.calm = true) (room : Room k X.A) : CallR X (.builtin "min") (rMinT X.K) := by
  intro pins s σ H vs us Q I r h
  obtain ⟨a, n, ns, rfl, seq, q⟩ := h
  obtain ⟨its, vals, isT, _⟩ := I.tuple seq
  rw [Vals.ref1 r]
  obtain ⟨as, reads⟩ := ints_readsAll (h := s.heap) vals
  have alike : PySem.W.AlikeAll ((n :: ns).map PyData.int) := by
    refine ⟨fun x hx y hy => ?_, fun x hx e => ?_⟩
    · obtain ⟨i, _, rfl⟩ := List.mem_map.mp hx
      obtain ⟨j, _, rfl⟩ := List.mem_map.mp hy
      simp [PySem.W.alike]
    · obtain ⟨i, _, rfl⟩ := List.mem_map.mp hx
      cases e
  have un := room.un
  have dp := depthAll_ints (n :: ns)
  refine PySem.W.min_tuple_data (I.ok.hd hc) (show s.heap.IsTuple a its.toArray from isT) (by simpa using reads) alike (by show X.A.units + 1 + _ < _; have : PyData.depthAll (PyData.int n :: ns.map PyData.int) ≤ 1 := dp; omega) fun i v h' tk bs hv rd keeps => ?_
  rw [PySem.W.minD_ints] at rd
  cases rd with
  | int _ t => exact ⟨.int _, H, I.kept keeps, ⟨t, rfl⟩, q⟩
theorem foldl_min_le : ∀ (ns : List Int) (n b : Int), b ≤ ns.foldl min n ↔ b ≤ n ∧ ∀ m ∈ ns, b ≤ m
  | [], n, b => by simp
  | m :: r, n, b => by
    rw [List.foldl_cons, foldl_min_le r (min n m) b, List.forall_mem_cons]
    constructor
    · rintro ⟨h1, h2⟩
      exact ⟨by omega, by omega, h2⟩
    · rintro ⟨h1, h2, h3⟩
      exact ⟨by omega, h3⟩
/-! ### drawn houses -/
def sHouse : Stmt := topS 20
def wayD (l : List Int) : PyData := .tuple (l.map PyData.int)
def askD (a : List (List Int)) : PyData := .tuple (a.map wayD)
def houseD (h : List (List (List Int))) : PyData := .tuple (h.map askD)
structure WayOk (kinds size : Int) (l : List Int) : Prop where
  len : (l.length : Int) = kinds
  all : ∀ x ∈ l, -size ≤ x ∧ x ≤ size
structure AskOk (kinds ways size : Int) (a : List (List Int)) : Prop where
  one : 1 ≤ a.length
  five : a.length ≤ 5
  most : (a.length : Int) ≤ ways + 1
  all : ∀ l ∈ a, WayOk kinds size l
structure HouseOk (kinds asks ways size : Int) (h : List (List (List Int))) : Prop where
  one : 1 ≤ h.length
  most : (h.length : Int) ≤ asks
  all : ∀ a ∈ h, AskOk kinds ways size a
theorem noLAll_map {α : Type} {f : α → PyData} (hf : ∀ x, noL (f x) = true) : ∀ l : List α, noLAll (l.map f) = true
  | [] => by simp [noLAll]
  | a :: r => by
    rw [List.map_cons]
    simp only [noLAll, Bool.and_eq_true]
    exact ⟨hf a, noLAll_map hf r⟩
theorem noL_int (i : Int) : noL (.int i) = true := by simp [noL]
theorem noL_way (l : List Int) : noL (wayD l) = true := by
  unfold wayD
  simp only [noL]
  exact noLAll_map noL_int l
theorem noL_ask (a : List (List Int)) : noL (askD a) = true := by
  unfold askD
  simp only [noL]
  exact noLAll_map noL_way a
theorem noL_house (h : List (List (List Int))) : noL (houseD h) = true := by
  unfold houseD
  simp only [noL]
  exact noLAll_map noL_ask h
theorem Pen.at {H : Hp} {p c : Addr} {ns : List Int} {n : Nat} (h : Pen H p c ns n) : ∃ l, H p = some (.lst l) := by
  obtain ⟨⟨a, l, h1, _⟩, _⟩ := h
  exact ⟨_, h1⟩
theorem Pen.dp {K : PySem.W.Frag} {H H' : Hp} {p c : Addr} {ns : List Int} {n : Nat} {v : V} {d : PyData} (h : Pen H p c ns n) (k : Kp p H H') (q : Dp K H v d) (nl : noL d = true) : Dp K H' v d := by
  obtain ⟨l, hp⟩ := h.at
  exact dp_kp k hp q nl
theorem Pen.dpAll {K : PySem.W.Frag} {H H' : Hp} {p c : Addr} {ns : List Int} {n : Nat} {v : List V} {d : List PyData} (h : Pen H p c ns n) (k : Kp p H H') (q : DpAll K H v d) (nl : noLAll d = true) : DpAll K H' v d := by
  obtain ⟨l, hp⟩ := h.at
  exact dpAll_kp k hp q nl
/-- a tuple of such data, laid anew -/
theorem dp_tup {K : PySem.W.Frag} {H : Hp} {q : Addr} {vs : List V} {ds : List PyData} (nq : H q = none) (h : DpAll K H vs ds) : Dp K (upd H q (.tup vs)) (.ref q) (.tuple ds) :=
  .tup (SqT.of upd_same) (dpAll_same (same_upd nq) h)
theorem Kp.free {p a : Addr} {H H' : Hp} (k : Kp p H H') (h : H' a = none) (ne : a ≠ p) : H a = none := by
  cases e : H a with
  | none => rfl
  | some o =>
    rw [k _ _ e ne] at h
    cases h
theorem Kp.put {p a : Addr} {H H' : Hp} {o : HO} (k : Kp p H H') (h : H a = none) : Kp p H (upd H' a o) := fun b x e n => by
  rw [upd_ne (ne_of_none e h)]
  exact k _ _ e n
theorem Pen.put {H : Hp} {p c a : Addr} {ns : List Int} {n : Nat} {o : HO} (h : Pen H p c ns n) (hp : p ≠ a) (hc : c ≠ a) : Pen (upd H a o) p c ns n := by
  obtain ⟨⟨x, y, h1, h2⟩, h3⟩ := h
  exact ⟨⟨x, y, by rw [upd_ne hp]; exact h1, h2⟩, by rw [upd_ne hc]; exact h3⟩
theorem Pen.nep {H : Hp} {p c a : Addr} {ns : List Int} {n : Nat} (h : Pen H p c ns n) (q : H a = none) : p ≠ a ∧ c ≠ a := by
  obtain ⟨⟨x, y, h1, h2⟩, h3⟩ := h
  exact ⟨ne_of_none h1 q, ne_of_none h3 q⟩
theorem dpAll_put {K : PySem.W.Frag} {H : Hp} {a : Addr} {l : List V} {o : HO} {v : List V} {d : List PyData} (h : H a = some (.lst l)) (q : DpAll K H v d) (nl : noLAll d = true) : DpAll K (upd H a o) v d := dpAll_kp (kp_upd a H o) h q nl
theorem at3 {size r : Int} (s0 : 0 ≤ size) (h0 : 0 ≤ r) (h1 : r < 3) : ∃ z, atI [V.int size, V.int (0 - size), V.int 0] r = some (.int z) ∧ -size ≤ z ∧ z ≤ size := by
  have : r = 0 ∨ r = 1 ∨ r = 2 := by omega
  rcases this with rfl | rfl | rfl
  · exact ⟨size, atI_nat (j := 0) rfl, by omega, by omega⟩
  · exact ⟨0 - size, atI_nat (j := 1) rfl, by omega, by omega⟩
  · exact ⟨0, atI_nat (j := 2) rfl, by omega, by omega⟩
theorem atI_some {xs : List V} {k : Int} (h0 : 0 ≤ k) (h1 : k < xs.length) : ∃ v, atI xs k = some v ∧ xs[k.toNat]? = some v := by
  obtain ⟨j, rfl⟩ : ∃ j : Nat, k = (j : Int) := ⟨k.toNat, by omega⟩
  have hj : j < xs.length := by omega
  exact ⟨xs[j], atI_nat (List.getElem?_eq_getElem hj), by simp [hj]⟩
theorem mem_app1 {α : Type} {P : α → Prop} {l : List α} {x : α} (h : ∀ a ∈ l, P a) (hx : P x) : ∀ a ∈ l ++ [x], P a := fun a ha => by
  rcases List.mem_append.mp ha with h' | h'
  · exact h a h'
  · rw [List.mem_singleton.mp h']
    exact hx
theorem dpAll_app1 {K : PySem.W.Frag} {H : Hp} {α : Type} {f : α → PyData} {vs : List V} {l : List α} {v : V} {x : α} (h : DpAll K H vs (l.map f)) (q : Dp K H v (f x)) : DpAll K H (vs ++ [v]) ((l ++ [x]).map f) := by
  rw [List.map_append]
  exact dpAll_app h (.cons q .nil)
theorem small_line {n : Nat} (h : n ≤ 100000) : n < sizeLine := Nat.lt_of_le_of_lt h (by decide)
def spHouse (K : PySem.W.Frag) : Sp := fun vs H Q _ => ∃ (p c : Addr) (ns : List Int) (n : Nat) (kinds asks ways size : Int), vs = [.ref p, .int kinds, .int asks, .int ways, .int size] ∧ Pen H p c ns n ∧ n + 600 < penMost ∧
  (1 ≤ kinds ∧ kinds ≤ 4) ∧ (1 ≤ asks ∧ asks ≤ 8) ∧ (1 ≤ ways ∧ ways ≤ 5) ∧ (0 ≤ size ∧ size ≤ 99) ∧
  ∀ a H' h, Kp p H H' → Pen H' p c ns (n + 600) → Dp K H' (.ref a) (houseD h) → HouseOk kinds asks ways size h → Q (.ref a) H'
section
variable {P : Program} {w : World} {K : PySem.W.Frag} {mg : Str → Option Value} {base : Heap}
theorem scHouse : FnScope ["pen", "kinds", "asks", "ways", "size", "found", "i", "ask", "k", "way", "kind", "one"] ["pen", "kinds", "asks", "ways", "size"] (defScope sHouse) := ⟨rfl, rfl, rfl, by decide +kernel, rfl, by decide +kernel, by decide +kernel⟩
theorem ok_house {f fT : Addr} {fd fdT : FuncData} {k : Nat} (F : Fun K "_law_house" "_law_house" sHouse f fd) (GT : FnOk P w K mg base CX0 (k + 2) fT fdT ["pen", "amount"] spTake) (kT : PySem.W.keepIn K (.ref fT) = true) (bT : Binds K fdT ["pen", "amount"] []) (gT : mg "_law_take" = some (.ref fT))
    (mr : mg "range" = none) (mt : mg "tuple" = none) (ml : mg "len" = none) : FnOk P w K mg base CX0 (k + 3) f fd ["pen", "kinds", "asks", "ways", "size"] (spHouse K) := by
  refine F.ok scHouse (fun vs H Q E h => ?_) (fun cdv A outer s H vs Q E hr h => ?_)
  · obtain ⟨p, c, ns, n, kinds, asks, ways, size, rfl, _⟩ := h
    rfl
  · obtain ⟨p, c, ns, n, kinds, asks, ways, size, rfl, hP, hn, ⟨k0, k1⟩, ⟨a0, a1⟩, ⟨w0, w1⟩, ⟨s0, s1⟩, q⟩ := h
    unfold penMost at hn
    refine ⟨_, pss_cons (ps_set (i := 5) scHouse.nd rfl (.inl rfl) (pe_lst pa_nil))
      (pss_cons (ps_for PassesOwn.never rfl (pi_range1 (by rfl) mr (pa_cons (pe_op op_add pe_int (pe_call GT hr (by rfl) gT kT bT .nil pass0 (pa_cons (pv 0) (pa_cons (pv 2) pa_nil)))) pa_nil)) (pg_name (i := 6) scHouse.nd rfl (.inl rfl))
        (pss_cons (ps_set (i := 7) scHouse.nd rfl (.inl rfl) (pe_lst pa_nil))
        (pss_cons (ps_for PassesOwn.never rfl (pi_range1 (by rfl) mr (pa_cons (pe_op op_add pe_int (pe_call GT hr (by rfl) gT kT bT .nil pass0 (pa_cons (pv 0) (pa_cons (pv 3) pa_nil)))) pa_nil)) (pg_name (i := 8) scHouse.nd rfl (.inl rfl))
          (pss_cons (ps_setLc (i := 9) (own := [("kind", 10)]) (g := gName 10) (tt := tYes) rfl scHouse.nd rfl rfl (sw_true rfl rfl rfl (by decide +kernel)) (pi_range1 (by rfl) mr (pa_cons (pv 1) pa_nil))
              (blkOk_by (N := ["pen", "kinds", "asks", "ways", "size", "found", "i", "ask", "k", "way", "kind", "one"]) (sc := defScope sHouse) (by decide +kernel)) (fun _ _ _ _ _ => by exact pg_name (i := 10) scHouse.nd rfl (.inl rfl)) (fun _ _ _ _ _ => pts_nil)
              (fun _ _ _ _ _ => by exact pe_op op_sub (pe_call GT hr (by rfl) gT kT bT .nil pass0 (pa_cons (pv 0) (pa_cons (pe_op op_add (pe_op op_mul pe_int (pv 4)) pe_int) pa_nil))) (pv 4)))
          (pss_cut (ps_if (pt_cmpR op_eq (pe_call GT hr (by rfl) gT kT bT .nil pass0 (pa_cons (pv 0) (pa_cons pe_int pa_nil))) pe_int (nomark _))
              (pss_one (ps_asg (pe_ix ix_list (pe_lst (pa_cons (pv 4) (pa_cons (pe_op op_sub pe_int (pv 4)) (pa_cons pe_int pa_nil)))) (pe_call GT hr (by rfl) gT kT bT .nil pass0 (pa_cons (pv 0) (pa_cons pe_int pa_nil))) (fun _ _ => rfl))
                (pg_sub (pv 9) (pe_call GT hr (by rfl) gT kT bT .nil pass0 (pa_cons (pv 0) (pa_cons (pv 1) pa_nil))) set_list))) pss_nil)
          (pss_one (ps_expr (pe_bm PySem.F.plainAttrs_list PySem.F.slot_list_append PySem.F.type_list_append mt_append (pv 7) (pa_cons (pe_callTy call_tuple_of (by rfl) mt (by decide +kernel) (pa_cons (pv 9) pa_nil)) pa_nil)))))))
        (pss_cut (ps_if (PW.pt (pw_and (pt_cmpR op_eq (pe_call GT hr (by rfl) gT kT bT .nil pass0 (pa_cons (pv 0) (pa_cons pe_int pa_nil))) pe_int (nomark _)) (pw_and1 (pt_cmpR op_lt (pe_callB call_len_seq (by rfl) ml PySem.boot_len (pa_cons (pv 7) pa_nil)) pe_int (nomark _)))))
            (pss_one (ps_expr (pe_bm PySem.F.plainAttrs_list PySem.F.slot_list_append PySem.F.type_list_append mt_append (pv 7) (pa_cons (pe_callTy call_tuple_of (by rfl) mt (by decide +kernel) (pa_cons
              (pe_lc (own := [("one", 11)]) (g := gName 11) (tt := tYes) rfl scHouse.nd (pi_tup (pe_ix ix_list (pv 7) (pe_call GT hr (by rfl) gT kT bT .nil pass0 (pa_cons (pv 0) (pa_cons (pe_callB call_len_seq (by rfl) ml PySem.boot_len (pa_cons (pv 7) pa_nil)) pa_nil))) (fun _ _ => rfl)))
                (blkOk_by (N := ["pen", "kinds", "asks", "ways", "size", "found", "i", "ask", "k", "way", "kind", "one"]) (sc := defScope sHouse) (by decide +kernel)) (fun _ _ _ _ _ => by exact pg_name (i := 11) scHouse.nd rfl (.inl rfl)) (fun _ _ _ _ _ => pts_nil)
                (fun _ _ _ _ _ => by exact pe_op op_sub pe_int (pv 11))) pa_nil)) pa_nil)))) pss_nil)
        (pss_one (ps_expr (pe_bm PySem.F.plainAttrs_list PySem.F.slot_list_append PySem.F.type_list_append mt_append (pv 5) (pa_cons (pe_callTy call_tuple_of (by rfl) mt (by decide +kernel) (pa_cons (pv 7) pa_nil)) pa_nil))))))))
      (pss_one (ps_ret (pe_callTy call_tuple_of (by rfl) mt (by decide +kernel) (pa_cons (pv 5) pa_nil))))), ?_⟩
    have npc : ∀ {H' : Hp} {m : Nat} {a : Addr}, Pen H' p c ns m → H' a = none → p ≠ a ∧ c ≠ a := fun h q => h.nep q
    -- found = []
    refine ⟨by show 0 ≤ sizeLine; decide, fun F nF => ?_⟩
    have sF := same_upd (o := .lst []) nF
    obtain ⟨npF, ncF⟩ := hP.nep nF
    refine ⟨_, rfl, _, rfl, p, c, ns, n, asks, rfl, hP.same sF, by unfold penMost; omega, a0, by omega, fun r H1 r0 r1 kp1 P1 => ?_⟩
    refine ⟨1, r, rfl, rfl, _, rfl, by omega, by omega, ?_⟩
    refine for_range (lo := 0) (n := (1 + r).toNat) (fun i σ H2 => ∃ (y6 y7 y8 y9 : Option V) (fs : List V) (hs : List (List (List Int))), σ = [some (.ref p), some (.int kinds), some (.int asks), some (.int ways), some (.int size), some (.ref F), y6, y7, y8, y9, none, none] ∧
      Kp p H H2 ∧ Pen H2 p c ns (n + 1 + 60 * i) ∧ H2 F = some (.lst fs) ∧ DpAll K H2 fs (hs.map askD) ∧ hs.length = i ∧ ∀ a ∈ hs, AskOk kinds ways size a)
      ⟨none, none, none, none, [], [], rfl, sF.kp.trans kp1, P1, kp1 _ _ upd_same npF.symm, .nil, rfl, by simp⟩ ?_ ?_
    · rintro i σ H2 hi ⟨y6, y7, y8, y9, fs, hs, rfl, kp2, P2, hF, dF, lF, okF⟩
      have hi8 : i < 8 := by omega
      -- ask = []
      refine ⟨by show 0 ≤ sizeLine; decide, fun A nA => ?_⟩
      have sA := same_upd (o := .lst []) nA
      obtain ⟨npA, ncA⟩ := P2.nep nA
      have nFA : F ≠ A := ne_of_none hF nA
      have nHA : H A = none := kp2.free nA npA.symm
      refine ⟨_, rfl, _, rfl, p, c, ns, _, ways, rfl, P2.same sA, by unfold penMost; omega, w0, by omega, fun r' H3 r0' r1' kp3 P3 => ?_⟩
      refine ⟨1, r', rfl, rfl, _, rfl, by omega, by omega, ?_⟩
      refine for_range (lo := 0) (n := (1 + r').toNat) (fun j σ H4 => ∃ (y8 y9 : Option V) (ws : List V) (ls : List (List Int)), σ = [some (.ref p), some (.int kinds), some (.int asks), some (.int ways), some (.int size), some (.ref F), some (.int (0 + (i : Int))), some (.ref A), y8, y9, none, none] ∧
        Kp p H H4 ∧ Pen H4 p c ns (n + 2 + 60 * i + 10 * j) ∧ H4 F = some (.lst fs) ∧ DpAll K H4 fs (hs.map askD) ∧ H4 A = some (.lst ws) ∧ DpAll K H4 ws (ls.map wayD) ∧ ls.length = j ∧ ∀ l ∈ ls, WayOk kinds size l)
        ⟨y8, y9, [], [], rfl, (kp2.same sA).trans kp3, P3.mono (by omega), kp3 _ _ (sA _ _ hF) npF.symm, (P2.same sA).dpAll kp3 (dpAll_same sA dF) (noLAll_map noL_ask hs), kp3 _ _ upd_same npA.symm, .nil, rfl, by simp⟩ ?_ ?_
      · rintro j σ H4 hj ⟨y8, y9, ws, ls, rfl, kp4, P4, hF4, dF4, hA4, dA4, lA, okA⟩
        have hj5 : j < 5 := by omega
        -- way = [.. for kind in range(kinds)]
        refine ⟨_, rfl, kinds, rfl, by omega, by omega, fun D nD => ?_⟩
        have sD := same_upd (o := .lst []) nD
        obtain ⟨npD, ncD⟩ := P4.nep nD
        refine lc_range (lo := 0) (n := kinds.toNat) (fun t H5 => Kp p H4 H5 ∧ Pen H5 p c ns (n + 2 + 60 * i + 10 * j + t) ∧ ∃ xs : List Int, H5 D = some (.lst (xs.map V.int)) ∧ xs.length = t ∧ ∀ x ∈ xs, -size ≤ x ∧ x ≤ size)
          ⟨sD.kp, P4.same sD, [], upd_same, rfl, by simp⟩ ?_ ?_
        · rintro t H5 ht ⟨kp5, P5, xs, hD, lx, bx⟩
          refine ⟨rfl, ?_⟩
          refine ⟨_, rfl, _, rfl, 2, size, rfl, rfl, .inl ⟨by decide, by decide⟩, _, 1, rfl, rfl, p, c, ns, _, _, rfl, P5, by unfold penMost; omega, by omega, by omega, fun z H6 z0 z1 kp6 P6 => ?_⟩
          refine ⟨_, rfl, z, size, rfl, rfl, _, kp6 _ _ hD npD.symm, by rw [List.length_map]; exact small_line (by omega), ?_⟩
          refine ⟨(kp5.trans kp6).put nD, P6.put npD ncD, xs ++ [z - size], ?_, by rw [List.length_append, lx]; rfl, mem_app1 bx ⟨by omega, by omega⟩⟩
          rw [upd_same, List.map_append]
          rfl
        · rintro H5 ⟨kp5, P5, xs, hD, lx, bx⟩
          have okx : WayOk kinds size xs := ⟨by omega, bx⟩
          -- now and then a number otherwise
          refine ⟨fun σ H6 => ∃ xs : List Int, σ = [some (.ref p), some (.int kinds), some (.int asks), some (.int ways), some (.int size), some (.ref F), some (.int (0 + (i : Int))), some (.ref A), some (.int (0 + (j : Int))), some (.ref D), none, none] ∧
            Kp p H4 H6 ∧ Pen H6 p c ns (n + 2 + 60 * i + 10 * j + 8) ∧ H6 D = some (.lst (xs.map V.int)) ∧ WayOk kinds size xs, ?_, ?_⟩
          · refine ⟨_, rfl, p, c, ns, _, 6, rfl, P5, by unfold penMost; omega, by decide, by decide, fun z H6 z0 z1 kp6 P6 => ?_⟩
            have hD6 := kp6 _ _ hD npD.symm
            refine ⟨rfl, _, rfl, ite2 (fun _ => ?_) (fun _ => ?_)⟩
            · refine ⟨_, rfl, _, rfl, 0, size, rfl, rfl, by show 3 ≤ sizeLine; decide, fun L nL => ?_⟩
              have sL := same_upd (o := .lst [V.int size, V.int (0 - size), V.int 0]) nL
              have nDL : D ≠ L := ne_of_none hD6 nL
              obtain ⟨npL, ncL⟩ := P6.nep nL
              refine ⟨_, rfl, p, c, ns, _, 3, rfl, P6.same sL, by unfold penMost; omega, by decide, by decide, fun z2 H7 z20 z21 kp7 P7 => ?_⟩
              obtain ⟨u, hu, u0, u1⟩ := at3 s0 z20 z21
              refine ⟨L, _, z2, _, rfl, rfl, SqL.of (kp7 _ _ upd_same npL.symm), hu, ?_⟩
              refine ⟨_, rfl, _, rfl, _, rfl, p, c, ns, _, kinds, rfl, P7, by unfold penMost; omega, k0, by omega, fun z3 H8 z30 z31 kp8 P8 => ?_⟩
              have hD8 := kp8 _ _ (kp7 _ _ (sL _ _ hD6) npD.symm) npD.symm
              refine ⟨D, _, z3, _, rfl, rfl, hD8, ixN_of z30 (by rw [List.length_map, lx]; omega), ?_⟩
              refine ⟨xs.set z3.toNat u, rfl, ((((kp5.trans kp6).same sL).trans kp7).trans kp8).put nD, (P8.put npD ncD).mono (by omega), ?_, ⟨by rw [List.length_set]; exact okx.len, fun x hx => ?_⟩⟩
              · rw [upd_same, List.map_set]
              · rcases List.mem_or_eq_of_mem_set hx with h | h
                · exact bx x h
                · rw [h]
                  exact ⟨u0, u1⟩
            · exact ⟨xs, rfl, kp5.trans kp6, P6.mono (by omega), hD6, okx⟩
          · rintro σ H6 ⟨xs, rfl, kp6, P6, hD6, okx⟩
            -- ask.append(tuple(way))
            have hA6 := kp6 _ _ hA4 npA.symm
            refine ⟨_, rfl, .inl ⟨rfl, _, SqL.of hA6⟩, _, rfl, D, _, rfl, .inl ⟨SqL.of hD6, fun W nW => ?_⟩⟩
            have sW := same_upd (o := .tup (xs.map V.int)) nW
            have dW : Dp K (upd H6 W (.tup (xs.map V.int))) (.ref W) (wayD xs) := dp_tup nW (dpAll_ints xs)
            have hAW := sW _ _ hA6
            refine ⟨A, ws, _, rfl, rfl, hAW, small_line (by rw [dpAll_len dA4, List.length_map]; omega), ?_⟩
            refine ⟨_, _, ws ++ [.ref W], ls ++ [xs], rfl, (kp4.trans (kp6.same sW)).put nHA, ((P6.same sW).put npA ncA).mono (by omega), ?_, ?_, upd_same, ?_, by rw [List.length_append, lA]; rfl, mem_app1 okA okx⟩
            · rw [upd_ne nFA]
              exact sW _ _ (kp6 _ _ hF4 npF.symm)
            · exact dpAll_put hAW (dpAll_same sW (P4.dpAll kp6 dF4 (noLAll_map noL_ask hs))) (noLAll_map noL_ask hs)
            · exact dpAll_put hAW (dpAll_app1 (dpAll_same sW (P4.dpAll kp6 dA4 (noLAll_map noL_way ls))) dW) (noLAll_map noL_way _)
      · rintro σ H4 ⟨y8', y9', ws, ls, rfl, kp4, P4, hF4, dF4, hA4, dA4, lA, okA⟩
        have l1 : 1 ≤ ls.length := by omega
        have l5 : ls.length ≤ 5 := by omega
        have lw : (ls.length : Int) ≤ ways := by omega
        -- now and then one turned about
        refine ⟨fun σ H5 => ∃ (ws : List V) (ls : List (List Int)), σ = [some (.ref p), some (.int kinds), some (.int asks), some (.int ways), some (.int size), some (.ref F), some (.int (0 + (i : Int))), some (.ref A), y8', y9', none, none] ∧
          Kp p H H5 ∧ Pen H5 p c ns (n + 2 + 60 * i + 55) ∧ H5 F = some (.lst fs) ∧ DpAll K H5 fs (hs.map askD) ∧ H5 A = some (.lst ws) ∧ DpAll K H5 ws (ls.map wayD) ∧ AskOk kinds ways size ls, ?_, ?_⟩
        · refine ⟨_, rfl, p, c, ns, _, 3, rfl, P4, by unfold penMost; omega, by decide, by decide, fun z H5 z0 z1 kp5 P5 => ?_⟩
          have hA5 := kp5 _ _ hA4 npA.symm
          have hF5 := kp5 _ _ hF4 npF.symm
          have dF5 := P4.dpAll kp5 dF4 (noLAll_map noL_ask hs)
          have dA5 := P4.dpAll kp5 dA4 (noLAll_map noL_way ls)
          refine ⟨rfl, _, rfl, ite2 (fun _ => ?_) (fun _ => ?_)⟩
          · refine ⟨_, rfl, A, ws, rfl, .inl (SqL.of hA5), _, 5, rfl, rfl, _, rfl, ite2 (fun hl => ?_) (fun _ => ?_)⟩
            · have hl := of_decide_eq_true hl
              have lws : ws.length = ls.length := by rw [dpAll_len dA4, List.length_map]
              refine ⟨_, rfl, .inl ⟨rfl, _, SqL.of hA5⟩, _, rfl, _, rfl, _, rfl, A, ws, rfl, .inl (SqL.of hA5), p, c, ns, _, _, rfl, P5, by unfold penMost; omega, by omega, by omega, fun z2 H6 z20 z21 kp6 P6 => ?_⟩
              have hA6 := kp6 _ _ hA5 npA.symm
              have dA6 := P5.dpAll kp6 dA5 (noLAll_map noL_way ls)
              obtain ⟨v, hv, hv2⟩ := atI_some z20 z21
              obtain ⟨d, hd, hdp⟩ := dpAll_get dA6 hv2
              rw [List.getElem?_map] at hd
              obtain ⟨xs, hx, rfl⟩ := Option.map_eq_some_iff.mp hd
              cases hdp with
              | @tup ta vs' _ hT hall =>
                obtain rfl := ints_of_dp hall
                refine ⟨A, ws, z2, _, rfl, rfl, SqL.of hA6, hv, ta, rfl, ⟨_, hT⟩, fun D nD => ?_⟩
                have sD := same_upd (o := .lst []) nD
                refine lc_tup (K := K) (a := ta) (xs := xs.map V.int) (fun t H7 => Same H6 H7 ∧ H7 D = some (.lst ((xs.take t).map fun x => V.int (0 - x)))) ⟨sD, upd_same⟩ (fun t H7 _ ⟨s7, _⟩ => s7.seqT hT) ?_ ?_
                · rintro t v H7 hv3 ⟨s7, hD7⟩
                  obtain ⟨y, hy, rfl⟩ := ints_get hv3
                  refine ⟨rfl, _, rfl, 0, y, rfl, rfl, _, hD7, ?_, ?_, ?_⟩
                  · rw [List.length_map, List.length_take]
                    have okl := okA xs (List.mem_of_getElem? hx)
                    have := okl.len
                    exact small_line (by omega)
                  · intro b o e
                    rw [upd_ne (ne_of_none e nD)]
                    exact s7 _ _ e
                  · rw [upd_same, List.take_add_one, hy, List.map_append]
                    rfl
                · rintro H7 ⟨s7, hD7⟩
                  rw [List.length_map, List.take_length] at hD7
                  have okl := okA xs (List.mem_of_getElem? hx)
                  have hA7 := s7 _ _ hA6
                  refine ⟨D, _, rfl, .inl ⟨SqL.of hD7, fun W nW => ?_⟩⟩
                  have sW := same_upd (o := .tup (xs.map fun x => V.int (0 - x))) nW
                  have s8 := s7.trans sW
                  have eW : (xs.map fun x => V.int (0 - x)) = (xs.map fun x => 0 - x).map V.int := by rw [List.map_map]; rfl
                  have dW : Dp K (upd H7 W (.tup (xs.map fun x => V.int (0 - x)))) (.ref W) (wayD (xs.map fun x => 0 - x)) := dp_tup nW (by rw [eW]; exact dpAll_ints _)
                  have hA8 := sW _ _ hA7
                  refine ⟨A, ws, _, rfl, rfl, hA8, small_line (by omega), ?_⟩
                  have okn : WayOk kinds size (xs.map fun x => 0 - x) := ⟨by rw [List.length_map]; exact okl.len, fun x hx => by
                    obtain ⟨y, hy, rfl⟩ := List.mem_map.mp hx
                    have := okl.all y hy
                    exact ⟨by omega, by omega⟩⟩
                  refine ⟨ws ++ [.ref W], ls ++ [xs.map fun x => 0 - x], rfl, (((kp4.trans kp5).trans kp6).same s8).put nHA, ((P6.same s8).put npA ncA).mono (by omega), ?_, ?_, upd_same, ?_, ⟨?_, ?_, ?_, mem_app1 okA okn⟩⟩
                  · rw [upd_ne nFA]
                    exact s8 _ _ (kp6 _ _ hF5 npF.symm)
                  · exact dpAll_put hA8 (dpAll_same s8 (P5.dpAll kp6 dF5 (noLAll_map noL_ask hs))) (noLAll_map noL_ask hs)
                  · exact dpAll_put hA8 (dpAll_app1 (dpAll_same s8 dA6) dW) (noLAll_map noL_way _)
                  · rw [List.length_append]
                    omega
                  · rw [List.length_append]
                    show ls.length + 1 ≤ 5
                    omega
                  · rw [List.length_append]
                    show ((ls.length + 1 : Nat) : Int) ≤ ways + 1
                    omega
            · exact ⟨ws, ls, rfl, kp4.trans kp5, P5.mono (by omega), hF5, dF5, hA5, dA5, ⟨l1, l5, by omega, okA⟩⟩
          · exact ⟨ws, ls, rfl, kp4.trans kp5, P5.mono (by omega), hF5, dF5, hA5, dA5, ⟨l1, l5, by omega, okA⟩⟩
        · rintro σ H5 ⟨ws, ls, rfl, kp5, P5, hF5, dF5, hA5, dA5, okL⟩
          -- found.append(tuple(ask))
          refine ⟨_, rfl, .inl ⟨rfl, _, SqL.of hF5⟩, _, rfl, A, _, rfl, .inl ⟨SqL.of hA5, fun W nW => ?_⟩⟩
          have sW := same_upd (o := .tup ws) nW
          have dW : Dp K (upd H5 W (.tup ws)) (.ref W) (askD ls) := dp_tup nW dA5
          have hFW := sW _ _ hF5
          refine ⟨F, fs, _, rfl, rfl, hFW, small_line (by rw [dpAll_len dF5, List.length_map]; omega), ?_⟩
          refine ⟨_, _, _, _, fs ++ [.ref W], hs ++ [ls], rfl, (kp5.same sW).put ?_, ((P5.same sW).put npF ncF).mono (by omega), upd_same, ?_, by rw [List.length_append, lF]; rfl, mem_app1 okF okL⟩
          · exact nF
          · exact dpAll_put hFW (dpAll_app1 (dpAll_same sW dF5) dW) (noLAll_map noL_ask _)
    · rintro σ H2 ⟨y6, y7, y8, y9, fs, hs, rfl, kp2, P2, hF, dF, lF, okF⟩
      refine ⟨_, rfl, F, _, rfl, .inl ⟨SqL.of hF, fun W nW => ?_⟩⟩
      have sW := same_upd (o := .tup fs) nW
      exact q W _ hs (kp2.same sW) ((P2.same sW).mono (by omega)) (dp_tup nW dF) ⟨by omega, by omega, okF⟩
end
/-! ### what the functions on four numbers speak of (no def of the program) -/
abbrev stsD (S : List (List Int)) : PyData := .list (S.map wayD)
theorem way_of {K : PySem.W.Frag} {H : Hp} {v : V} {l : List Int} (h : Dp K H v (wayD l)) : ∃ a, v = .ref a ∧ SqT K H a (l.map V.int) := by
  cases h with
  | @tup a vs _ hT hall =>
    obtain rfl := ints_of_dp hall
    exact ⟨a, rfl, hT⟩
theorem of_way {K : PySem.W.Frag} {H : Hp} {a : Addr} {l : List Int} (h : SqT K H a (l.map V.int)) : Dp K H (.ref a) (wayD l) := .tup h (dpAll_ints l)
theorem sts_of {K : PySem.W.Frag} {H : Hp} {v : V} {S : List (List Int)} (h : Dp K H v (stsD S)) : ∃ l vs, v = .ref l ∧ SqL K H l vs ∧ DpAll K H vs (S.map wayD) := by
  cases h with
  | @lst a vs _ hL hall => exact ⟨a, vs, rfl, hL, hall⟩
theorem sts_get {K : PySem.W.Frag} {H : Hp} {vs : List V} {S : List (List Int)} {j : Nat} {v : V} (h : DpAll K H vs (S.map wayD)) (e : vs[j]? = some v) : ∃ t, S[j]? = some t ∧ Dp K H v (wayD t) := by
  obtain ⟨d, hd, dv⟩ := dpAll_get h e
  rw [List.getElem?_map] at hd
  obtain ⟨t, ht, rfl⟩ := Option.map_eq_some_iff.mp hd
  exact ⟨t, ht, dv⟩
theorem sts_len {K : PySem.W.Frag} {H : Hp} {vs : List V} {S : List (List Int)} (h : DpAll K H vs (S.map wayD)) : vs.length = S.length := by rw [dpAll_len h, List.length_map]
theorem four_of {l : List Int} (h : l.length = 4) : ∃ a b c d, l = [a, b, c, d] := by
  match l, h with
  | [a, b, c, d], _ => exact ⟨a, b, c, d, rfl⟩
theorem take_snoc {α : Type} {l : List α} {j : Nat} {x : α} (h : l[j]? = some x) : l.take (j + 1) = l.take j ++ [x] := by
  rw [List.take_succ, h]
  rfl
theorem take_all {α β : Type} {l : List α} {m : List β} (h : m.length = l.length) : l.take m.length = l := by rw [h, List.take_length]
theorem maxI (i j : Int) : (if j > i then j else i) = max i j := by
  split <;> omega
/-- with noughts behind -/
def four (l : List Int) : List Int := l ++ List.replicate (4 - l.length) 0
theorem ok4_len {x : List Int} (h : Ok4 x) : x.length = 4 := by
  obtain ⟨a, b, c, d, rfl, _⟩ := h
  rfl
theorem noL_app (A B : List (List Int)) : noLAll (A.map wayD ++ B.map wayD) = true := by
  rw [← List.map_append]
  exact noLAll_map noL_way _
/-- a list of tuples, with their addresses -/
theorem sts_refs {K : PySem.W.Frag} {H : Hp} : ∀ {vs : List V} {S : List (List Int)}, DpAll K H vs (S.map wayD) → ∃ ks : List (Addr × List Int), vs = ks.map (fun p => V.ref p.1) ∧ ks.map (·.2) = S ∧ ∀ p ∈ ks, SqT K H p.1 (p.2.map V.int)
  | _, [], .nil => ⟨[], rfl, rfl, fun _ h => nomatch h⟩
  | _, t :: S, .cons q r => by
    obtain ⟨a, rfl, hT⟩ := way_of q
    obtain ⟨ks, e1, e2, e3⟩ := sts_refs r
    refine ⟨(a, t) :: ks, by rw [List.map_cons, e1], by rw [List.map_cons, e2], fun p hp => ?_⟩
    rcases List.mem_cons.mp hp with rfl | hp
    · exact hT
    · exact e3 p hp
theorem refs_sts {K : PySem.W.Frag} {H : Hp} : ∀ {ks : List (Addr × List Int)}, (∀ p ∈ ks, SqT K H p.1 (p.2.map V.int)) → DpAll K H (ks.map fun p => V.ref p.1) ((ks.map (·.2)).map wayD)
  | [], _ => .nil
  | p :: ks, h => .cons (of_way (h p List.mem_cons_self)) (refs_sts fun q hq => h q (List.mem_cons_of_mem _ hq))
theorem bothL_snoc (A B : List (List Int)) (x : List Int) : bothL (A ++ [x]) B = bothL A B ++ (if anyLe x B then [x] else B.map (join4 x)) := by
  unfold bothL
  rw [List.flatMap_append, List.flatMap_cons, List.flatMap_nil, List.append_nil]
/-! ### the functions on asks -/
/-- a walk by an invariant, whatever a turn is -/
theorem walk_gen {J : It} {n : Nat} {G : Hp → Prop} {Y : Nat → Hp → V → Hp → Prop} (w : Walk J n G Y) {H0 : Hp} {Qd : Hp → Prop} (T : V → Hp → (Hp → Prop) → Prop) (Pv : Nat → Hp → Prop) (h0 : Pv 0 H0) (hG : ∀ i H, i ≤ n → Pv i H → G H)
    (hs : ∀ i x H H', i < n → Pv i H → Y i H x H' → T x H' (Pv (i + 1))) (hd : ∀ H, Pv n H → Qd H) :
    ∃ W : Nat → Nat → Hp → Prop, (∃ m, W 0 m H0) ∧ ∀ i m H, W i m H → (J.stop i H ∧ Qd H) ∨ (J.go i H ∧ ∃ Nx : Hp → Prop, (∀ H', Nx H' → ∃ m', m' < m ∧ W (i + 1) m' H') ∧ ∀ x H', J.yld i H x H' → T x H' Nx) := by
  refine ⟨fun i m H => m = n - i ∧ i ≤ n ∧ Pv i H, ⟨n, by simp, Nat.zero_le _, h0⟩, ?_⟩
  rintro i m H ⟨rfl, hi, p⟩
  have q := hG i H hi p
  by_cases lt : i < n
  · exact .inr ⟨w.goes i H lt q, Pv (i + 1), fun H' p' => ⟨n - (i + 1), by omega, rfl, lt, p'⟩, fun x H' y => hs i x H H' lt p (w.yields i H x H' lt q y)⟩
  · obtain rfl : i = n := by omega
    exact .inl ⟨w.stops H q, hd H p⟩
abbrev asksD (h : Asks) : PyData := .list (h.map stsD)
def rTupOf (K : PySem.W.Frag) : List V → Hp → VK → Prop := fun xs H Q => ∃ p ys, xs = [.ref p] ∧ ((SqL K H p ys ∧ ∀ l, H l = none → Q (.ref l) (upd H l (.tup ys))) ∨ (SqT K H p ys ∧ Q (.ref p) H))
abbrev lcSc (ns : List (Str × NameKind)) : Scope := { kind := .function, names := ns, isGenerator := false, isCoroutine := false }
def lcScope : Expr → Scope
  | .ListComp _ _ sc _ => sc
  | _ => { kind := .function, names := [], isGenerator := false, isCoroutine := false }
def retE (s : Stmt) : Expr := match defBody s with
  | [.Return (some e) _] => e
  | _ => .Constant .none 0 ⟨0, 0, 0, 0⟩
/-- the heap without a -/
def rmv (H : Hp) (a : Addr) : Hp := fun b => if b = a then none else H b
theorem rmv_ne {H : Hp} {a b : Addr} (h : b ≠ a) : rmv H a b = H b := if_neg h
theorem rmv_kp (H : Hp) (a : Addr) : Kp a H (rmv H a) := fun b o e n => by rw [rmv_ne n]; exact e
theorem rmv_some {H : Hp} {a b : Addr} {o : HO} (e : rmv H a b = some o) : b ≠ a ∧ H b = some o := by
  by_cases h : b = a
  · rw [h, show rmv H a a = none from if_pos rfl] at e
    cases e
  · rw [rmv_ne h] at e
    exact ⟨h, e⟩
theorem rmv_same {H H' : Hp} {a : Addr} (k : ∀ b o, b ≠ a → H b = some o → H' b = some o) : Same (rmv H a) H' := fun b o e => k b o (rmv_some e).1 (rmv_some e).2
theorem rmv_rmv {H H' : Hp} {a : Addr} (k : ∀ b o, b ≠ a → H b = some o → H' b = some o) : Same (rmv H a) (rmv H' a) := fun b o e => by
  obtain ⟨n, e⟩ := rmv_some e
  rw [rmv_ne n]
  exact k b o n e
theorem flat_len {l B : List (List Int)} : (l.flatMap fun w => B.map (need4 w)).length = l.length * B.length := by
  induction l with
  | nil => simp
  | cons w l ih =>
    rw [List.flatMap_cons, List.length_append, List.length_map, ih, List.length_cons, Nat.succ_mul]
    omega
/-! ### one ask more -/
theorem perm_lift {α β : Type} (f : α → β) : ∀ {l : List β} {t : List α}, l.Perm (t.map f) → ∃ t' : List α, t'.Perm t ∧ t'.map f = l
  | [], t, h => by
    have e : t = [] := by
      have := h.length_eq
      rw [List.length_nil, List.length_map] at this
      exact List.eq_nil_of_length_eq_zero this.symm
    exact ⟨[], by rw [e], rfl⟩
  | b :: l, t, h => by
    have hb : b ∈ t.map f := h.mem_iff.mp List.mem_cons_self
    obtain ⟨a, ha, rfl⟩ := List.mem_map.mp hb
    obtain ⟨t1, t2, rfl⟩ := List.append_of_mem ha
    have h2 : (f a :: l).Perm (f a :: (t1 ++ t2).map f) := by
      refine h.trans ?_
      rw [List.map_append, List.map_cons, List.map_append]
      exact List.perm_middle
    obtain ⟨t', p, e⟩ := perm_lift f (List.Perm.cons_inv h2)
    exact ⟨a :: t', (p.cons a).trans List.perm_middle.symm, by rw [List.map_cons, e]⟩
theorem ways_flat : ∀ ns : List Int, PyData.depthAll (ns.map PyData.int) ≤ 1 ∧ PyData.canLayAll0 (ns.map PyData.int) = true
  | [] => ⟨Nat.zero_le _, rfl⟩
  | n :: ns => by
    obtain ⟨h1, h2⟩ := ways_flat ns
    refine ⟨?_, by simp [PyData.canLayAll0, PyData.canLay0, h2]⟩
    show max (PyData.depth (.int n)) (PyData.depthAll (ns.map PyData.int)) ≤ 1
    have e : PyData.depth (.int n) ≤ 1 := by simp [PyData.depth]
    omega
theorem sts_flat : ∀ S : List (List Int), PyData.depthAll (S.map wayD) ≤ 3 ∧ PyData.canLayAll0 (S.map wayD) = true
  | [] => ⟨Nat.zero_le _, rfl⟩
  | t :: S => by
    obtain ⟨h1, h2⟩ := sts_flat S
    obtain ⟨w1, w2⟩ := ways_flat t
    refine ⟨?_, by simp [PyData.canLayAll0, PyData.canLay0, wayD, h2, w2]⟩
    show max (PyData.depth (wayD t)) (PyData.depthAll (S.map wayD)) ≤ 3
    have e : PyData.depth (wayD t) ≤ 3 := by
      unfold wayD
      simp only [PyData.depth]
      omega
    omega
theorem sts_shaped (S : List (List Int)) : SeqAt.shaped (stsD S) = true := by
  obtain ⟨h1, h2⟩ := sts_flat S
  unfold SeqAt.shaped
  rw [Bool.and_eq_true, decide_eq_true_iff]
  refine ⟨by simp only [PyData.canLay0]; exact h2, ?_⟩
  simp only [PyData.depth]
  omega
theorem eqv_ints : ∀ l m : List Int, PyData.eqvAll (l.map PyData.int) (m.map PyData.int) = true → l = m
  | [], [], _ => rfl
  | [], _ :: _, h => by simp [PyData.eqvAll] at h
  | _ :: _, [], h => by simp [PyData.eqvAll] at h
  | a :: l, b :: m, h => by
    simp only [List.map_cons, PyData.eqvAll, PyData.eqv, Bool.and_eq_true, beq_iff_eq] at h
    rw [h.1, eqv_ints l m h.2]
theorem eqv_stsA : ∀ S T : List (List Int), PyData.eqvAll (S.map wayD) (T.map wayD) = true → S = T
  | [], [], _ => rfl
  | [], _ :: _, h => by simp [PyData.eqvAll] at h
  | _ :: _, [], h => by simp [PyData.eqvAll] at h
  | a :: l, b :: m, h => by
    simp only [List.map_cons, PyData.eqvAll, Bool.and_eq_true] at h
    have e : a = b := eqv_ints a b (by have := h.1; unfold wayD at this; simpa only [PyData.eqv] using this)
    rw [e, eqv_stsA l m h.2]
theorem eqv_sts {S T : List (List Int)} (h : PyData.eqv (stsD S) (stsD T) = true) : S = T := eqv_stsA S T (by simpa only [PyData.eqv] using h)
theorem cut_take {l : List Int} {k : Nat} (h : k ≤ l.length) : cutV (l.map V.int) none (some (k : Int)) = (l.take k).map V.int := by
  unfold cutV
  rw [show HT.sIx (l.map V.int).length (l.map V.int).length (some (k : Int)) = min k (l.map V.int).length from HT.sIx_nat _ _ k, HT.sIx_none, List.map_take, List.drop_zero, Nat.sub_zero, Nat.min_eq_left (by rw [List.length_map]; exact h)]
def asks4 (h : Asks) : Asks := h.map fun a => a.map four
theorem four_len {l : List Int} (h : l.length ≤ 4) : (four l).length = 4 := by
  unfold four
  rw [List.length_append, List.length_replicate]
  omega
structure HsOk (h : Asks) (kd : Nat) : Prop where
  ne : ∃ a0 w0, h[0]? = some a0 ∧ a0[0]? = some w0
  k1 : 1 ≤ kd
  k4 : kd ≤ 4
  len : ∀ a ∈ h, ∀ l ∈ a, l.length = kd
  five : ∀ a ∈ h, a.length ≤ 5
  few : h.length ≤ 100
theorem HsOk.asks {h : Asks} {kd : Nat} (o : HsOk h kd) : (∀ a ∈ asks4 h, a.length ≤ 5 ∧ ∀ w ∈ a, w.length = 4) ∧ (asks4 h).length ≤ 1000 := by
  refine ⟨fun a ha => ?_, by unfold asks4; rw [List.length_map]; have := o.few; omega⟩
  obtain ⟨b, hb, rfl⟩ := List.mem_map.mp ha
  refine ⟨by rw [List.length_map]; exact o.five b hb, fun w hw => ?_⟩
  obtain ⟨l, hl, rfl⟩ := List.mem_map.mp hw
  exact four_len (by rw [o.len b hb l hl]; exact o.k4)
theorem four_ok {s : List Int} (h1 : 1 ≤ s.length) (h4 : s.length ≤ 4) (h0 : ∀ z ∈ s, 0 ≤ z) : Ok4 (four s) := by
  match s, h1, h4, h0 with
  | [a], _, _, h => exact ⟨a, 0, 0, 0, rfl, h a (by simp), by decide, by decide, by decide⟩
  | [a, b], _, _, h => exact ⟨a, b, 0, 0, rfl, h a (by simp), h b (by simp), by decide, by decide⟩
  | [a, b, c], _, _, h => exact ⟨a, b, c, 0, rfl, h a (by simp), h b (by simp), h c (by simp), by decide⟩
  | [a, b, c, d], _, _, h => exact ⟨a, b, c, d, rfl, h a (by simp), h b (by simp), h c (by simp), h d (by simp)⟩
  | _ :: _ :: _ :: _ :: _ :: _, _, h, _ => simp at h
theorem nothing_at {K : PySem.W.Frag} {an : Addr} {o : Obj} {its : Array Value} {nn : Nat} {t0 t1 t2 t3 : Tok} (l : K.lookup an = some o) (hc : o.cls = .type "tuple") (hd : o.data = .seq #[.int 0 t0, .int 0 t1, .int 0 t2, .int 0 t3] nn) (H : Hp) : Dp K H (.ref an) (wayD [0, 0, 0, 0]) :=
  of_way (.inr ⟨o, _, nn, l, hc, hd, by show 4 ≤ sizeLine; rw [sizeLine_eq]; omega, .cons ⟨_, rfl⟩ (.cons ⟨_, rfl⟩ (.cons ⟨_, rfl⟩ (.cons ⟨_, rfl⟩ .nil)))⟩)
/-! ### max of a tuple of ints -/
def rMaxT (K : PySem.W.Frag) : List V → Hp → VK → Prop := fun vs H Q => ∃ (a : Addr) (n : Int) (ns : List Int), vs = [V.ref a] ∧ SqT K H a ((n :: ns).map V.int) ∧ Q (.int (ns.foldl max n)) H
theorem cr_maxT {X : Cx} {k : Nat} (hc : X.calm = true) (room : Room k X.A) : CallR X (.builtin "max") (rMaxT X.K) := by
  intro pins s σ H vs us Q I r h
  obtain ⟨a, n, ns, rfl, seq, q⟩ := h
  obtain ⟨its, vals, isT, _⟩ := I.tuple seq
  rw [Vals.ref1 r]
  obtain ⟨as, reads⟩ := ints_readsAll (h := s.heap) vals
  have alike : PySem.W.AlikeAll ((n :: ns).map PyData.int) := by
    refine ⟨fun x hx y hy => ?_, fun x hx e => ?_⟩
    · obtain ⟨i, _, rfl⟩ := List.mem_map.mp hx
      obtain ⟨j, _, rfl⟩ := List.mem_map.mp hy
      simp [PySem.W.alike]
    · obtain ⟨i, _, rfl⟩ := List.mem_map.mp hx
      cases e
  have un := room.un
  have dp := depthAll_ints (n :: ns)
  refine PySem.W.max_tuple_data (I.ok.hd hc) (show s.heap.IsTuple a its.toArray from isT) (by simpa using reads) alike (by show X.A.units + 1 + _ < _; have : PyData.depthAll (PyData.int n :: ns.map PyData.int) ≤ 1 := dp; omega) fun i v h' tk bs hv rd keeps => ?_
  rw [PySem.W.maxD_ints] at rd
  cases rd with
  | int _ t => exact ⟨.int _, H, I.kept keeps, ⟨t, rfl⟩, q⟩
theorem foldl_max_le : ∀ (ns : List Int) (n b : Int), ns.foldl max n ≤ b ↔ n ≤ b ∧ ∀ m ∈ ns, m ≤ b
  | [], n, b => by simp
  | m :: r, n, b => by
    rw [List.foldl_cons, foldl_max_le r (max n m) b, List.forall_mem_cons]
    constructor
    · rintro ⟨h1, h2⟩
      exact ⟨by omega, by omega, h2⟩
    · rintro ⟨h1, h2, h3⟩
      exact ⟨by omega, h3⟩
/-! ### least, lasts -/
def sKindsOf : Stmt := topS 10
def spKindsOf (K : PySem.W.Frag) : Sp := fun vs H Q _ => ∃ (x : V) (h : Asks) (kd : Nat), vs = [x] ∧ Dp K H x (houseD h) ∧ HsOk h kd ∧ Q (.int kd) H
section
variable {P : Program} {w : World} {K : PySem.W.Frag} {mg : Str → Option Value} {base : Heap}
theorem scKindsOf : FnScope ["house"] ["house"] (defScope sKindsOf) := ⟨rfl, rfl, rfl, by decide +kernel, rfl, by decide +kernel, by decide +kernel⟩
theorem ok_kindsOf {f : Addr} {fd : FuncData} {k : Nat} (F : Fun K "kinds_of" "kinds_of" sKindsOf f fd) (ml : mg "len" = none) : FnOk P w K mg base CX0 (k + 1) f fd ["house"] (spKindsOf K) := by
  refine F.ok scKindsOf (fun vs H Q E h => ?_) (fun cdv A outer s H vs Q E hr h => ?_)
  · obtain ⟨x, h, kd, rfl, _⟩ := h
    rfl
  · obtain ⟨x, h, kd, rfl, hx, o, q⟩ := h
    refine ⟨_, pss_one (ps_ret (pe_callB call_len_seq (by rfl) ml PySem.boot_len (pa_cons (pe_ix ix_tup (pe_ix ix_tup (pv 0) pe_int (fun _ _ => rfl)) pe_int (fun _ _ => rfl)) pa_nil))), ?_⟩
    obtain ⟨a0, w0, h0, hw0⟩ := o.ne
    cases hx with
    | @tup ha asv _ hT hall =>
    obtain ⟨v, hv, dv⟩ := dpAll_getD (i := 0) (d := askD a0) hall (by rw [List.getElem?_map, h0]; rfl)
    cases dv with
    | @tup aa ws _ aT wall =>
    obtain ⟨u, hu, du⟩ := dpAll_getD (i := 0) (d := wayD w0) wall (by rw [List.getElem?_map, hw0]; rfl)
    obtain ⟨wa, rfl, wT⟩ := way_of du
    have e := o.len a0 (List.mem_of_getElem? h0) w0 (List.mem_of_getElem? hw0)
    refine ⟨_, rfl, ha, asv, 0, .ref aa, rfl, rfl, hT, atI_nat (j := 0) hv, aa, ws, 0, .ref wa, rfl, rfl, aT, atI_nat (j := 0) hu, wa, _, rfl, .inr wT, ?_⟩
    rw [List.length_map, e]
    exact q
end
/-! ### comprehensions that make one of each -/
/-- over a tuple: each value told -/
theorem lc_tupV {K : PySem.W.Frag} {a : Addr} {xs bs : List V} {i : Nat} {te : TE} {vs : List Nat} {σ : L2.St} {H1 : Hp} {D : Addr} {Qd : Hp → Prop} (hT : SqT K H1 a xs) (nD : H1 D = none) (few : xs.length ≤ 100000) (lb : bs.length = xs.length)
    (hw : ∀ x, wipe ((wipe σ vs).set i (some x)) vs = wipe σ vs)
    (step : ∀ (m : Nat) x y H2, Same H1 H2 → xs[m]? = some x → bs[m]? = some y → ∀ Q : VK, (∀ H3, Same H2 H3 → Q y H3) → te ((wipe σ vs).set i (some x)) H2 Q)
    (hd : ∀ H2, Same H1 H2 → H2 D = some (.lst bs) → Qd H2) :
    ∃ W : Nat → Nat → Hp → Prop, (∃ m, W 0 m (upd H1 D (.lst []))) ∧ ∀ i' m H, W i' m H →
      ((Itt K a).stop i' H ∧ Qd H) ∨ ((Itt K a).go i' H ∧ ∃ Nx : Hp → Prop, (∀ H', Nx H' → ∃ m', m' < m ∧ W (i' + 1) m' H') ∧ ∀ x H', (Itt K a).yld i' H x H' → gName i x (wipe σ vs) H' fun σ2 H2 => wipe σ2 vs = wipe σ vs ∧ tYes σ2 H2 fun b H3 =>
        if b = true then te σ2 H3 fun y H4 => ∃ acc, H4 D = some (.lst acc) ∧ acc.length < sizeLine ∧ Nx (upd H4 D (.lst (acc ++ [y]))) else Nx H3) := by
  have sD := same_upd (o := .lst []) nD
  refine lc_tup (K := K) (a := a) (xs := xs) (fun m H2 => Same H1 H2 ∧ H2 D = some (.lst (bs.take m))) ⟨sD, upd_same⟩ (fun m H2 _ ⟨s2, _⟩ => s2.seqT hT) ?_ ?_
  · rintro m x H2 hx ⟨s2, hD⟩
    have lt := (List.getElem?_eq_some_iff.mp hx).1
    obtain ⟨y, hy⟩ : ∃ y, bs[m]? = some y := ⟨_, List.getElem?_eq_getElem (by omega)⟩
    refine ⟨hw x, ?_⟩
    show te _ _ _
    refine step m x y H2 s2 hx hy _ fun H3 s3 => ⟨bs.take m, s3 _ _ hD, ?_, fun b o e => ?_, ?_⟩
    · rw [List.length_take]
      exact small_line (by omega)
    · rw [upd_ne (ne_of_none e nD)]
      exact s3 _ _ (s2 _ _ e)
    · rw [upd_same, take_snoc hy]
  · rintro H2 ⟨s2, hD⟩
    rw [← lb, List.take_length] at hD
    exact hd H2 s2 hD
/-- over a tuple: data of data -/
theorem lc_tupD {K : PySem.W.Frag} {a : Addr} {xs : List V} {α β : Type} {S : List α} {f : α → PyData} {h : β → PyData} {w : α → β} {i : Nat} {te : TE} {vs : List Nat} {σ : L2.St} {H1 : Hp} {D : Addr} {Qd : Hp → Prop} (hT : SqT K H1 a xs) (dx : DpAll K H1 xs (S.map f)) (nD : H1 D = none) (few : S.length ≤ 100000)
    (hw : ∀ x, wipe ((wipe σ vs).set i (some x)) vs = wipe σ vs) (nl : ∀ t, noL (h t) = true)
    (step : ∀ (m : Nat) x s H2, Same H1 H2 → S[m]? = some s → Dp K H2 x (f s) → ∀ Q : VK, (∀ y H3, Same H2 H3 → Dp K H3 y (h (w s)) → Q y H3) → te ((wipe σ vs).set i (some x)) H2 Q)
    (hd : ∀ H2 ps, Same H1 H2 → H2 D = some (.lst ps) → DpAll K H2 ps ((S.map w).map h) → Qd H2) :
    ∃ W : Nat → Nat → Hp → Prop, (∃ m, W 0 m (upd H1 D (.lst []))) ∧ ∀ i' m H, W i' m H →
      ((Itt K a).stop i' H ∧ Qd H) ∨ ((Itt K a).go i' H ∧ ∃ Nx : Hp → Prop, (∀ H', Nx H' → ∃ m', m' < m ∧ W (i' + 1) m' H') ∧ ∀ x H', (Itt K a).yld i' H x H' → gName i x (wipe σ vs) H' fun σ2 H2 => wipe σ2 vs = wipe σ vs ∧ tYes σ2 H2 fun b H3 =>
        if b = true then te σ2 H3 fun y H4 => ∃ acc, H4 D = some (.lst acc) ∧ acc.length < sizeLine ∧ Nx (upd H4 D (.lst (acc ++ [y]))) else Nx H3) := by
  have sD := same_upd (o := .lst []) nD
  have lx := dpAll_len dx
  rw [List.length_map] at lx
  refine lc_tup (K := K) (a := a) (xs := xs) (fun m H2 => Same H1 H2 ∧ ∃ ps, H2 D = some (.lst ps) ∧ DpAll K H2 ps (((S.take m).map w).map h)) ⟨sD, [], upd_same, .nil⟩ (fun m H2 _ ⟨s2, _⟩ => s2.seqT hT) ?_ ?_
  · rintro m x H2 hx ⟨s2, ps, hD, dps⟩
    have lt := (List.getElem?_eq_some_iff.mp hx).1
    obtain ⟨d, hd0, dd⟩ := dpAll_get dx hx
    rw [List.getElem?_map] at hd0
    obtain ⟨s, hs, rfl⟩ := Option.map_eq_some_iff.mp hd0
    have lp := dpAll_len dps
    simp only [List.length_map, List.length_take] at lp
    refine ⟨hw x, ?_⟩
    show te _ _ _
    refine step m x s H2 s2 hs (dp_same s2 dd) _ fun y H3 s3 dy => ⟨ps, s3 _ _ hD, small_line (by omega), fun b o e => ?_, ps ++ [y], upd_same, ?_⟩
    · rw [upd_ne (ne_of_none e nD)]
      exact s3 _ _ (s2 _ _ e)
    · rw [take_snoc hs, List.map_append]
      exact dpAll_put (s3 _ _ hD) (dpAll_app1 (dpAll_same s3 dps) dy) (noLAll_map nl _)
  · rintro H2 ⟨s2, ps, hD, dps⟩
    rw [lx, List.take_length] at dps
    exact hd H2 ps s2 hD dps
/-! ### what is a house, of data without dicts -/
def sIsWhole : Stmt := topS 5
def sTupleOf : Stmt := topS 6
def sIsWay : Stmt := topS 7
def sIsAsk : Stmt := topS 8
def sIsHouse : Stmt := topS 9
def tyD : PyData → String
  | .none => "NoneType"
  | .bool _ => "bool"
  | .int _ => "int"
  | .str _ => "str"
  | .list _ => "list"
  | .tuple _ => "tuple"
  | .dict _ => "dict"
def isTup : PyData → Bool
  | .tuple _ => true
  | _ => false
def isInt : PyData → Bool
  | .int _ => true
  | .bool _ => true
  | _ => false
def isBool : PyData → Bool
  | .bool _ => true
  | _ => false
def wholeD : PyData → Bool
  | .int _ => true
  | _ => false
def kidsD : PyData → List PyData
  | .tuple ds => ds
  | _ => []
def tupOfD (n : Nat) (d : PyData) : Bool := isTup d && decide (1 ≤ (kidsD d).length ∧ (kidsD d).length ≤ n)
def numD : PyData → Bool
  | .int i => decide ((if i < 0 then -i else i) ≤ 99)
  | _ => false
def isWayD (d : PyData) : Bool := tupOfD 4 d && (kidsD d).all numD
def isAskD (d : PyData) : Bool := tupOfD 5 d && (kidsD d).all isWayD
def isHouseD (d : PyData) : Bool := tupOfD 8 d && (kidsD d).all isAskD && (kidsD d).all fun a => (kidsD a).all fun w => decide ((kidsD w).length = (kidsD ((kidsD ((kidsD d).headD .none)).headD .none)).length)
theorem dp_tyx {K : PySem.W.Frag} {H : Hp} {v : V} {d : PyData} (h : Dp K H v d) : TyX K H v (.type (tyD d)) := by
  cases h with
  | non => exact .base .non
  | bl b => exact .base (.bl b)
  | int i => exact .base (.int i)
  | str x => exact .base (.str x)
  | lst q _ => exact tyx_l q
  | tup q _ => exact tyx_t q
theorem kit_tup (d : PyData) : kitB (tyD d) "tuple" = some (isTup d) := by cases d <;> (simp only [tyD, isTup]; decide +kernel)
theorem kit_int (d : PyData) : kitB (tyD d) "int" = some (isInt d) := by cases d <;> (simp only [tyD, isInt]; decide +kernel)
theorem kit_bool (d : PyData) : kitB (tyD d) "bool" = some (isBool d) := by cases d <;> (simp only [tyD, isBool]; decide +kernel)
theorem whole_is (d : PyData) : (isInt d && !isBool d) = wholeD d := by cases d <;> rfl
theorem tup_is {K : PySem.W.Frag} {H : Hp} {v : V} {d : PyData} (h : Dp K H v d) (t : isTup d = true) : ∃ a xs, v = .ref a ∧ SqT K H a xs ∧ DpAll K H xs (kidsD d) ∧ d = .tuple (kidsD d) := by
  cases h with
  | tup q r => exact ⟨_, _, rfl, q, r, rfl⟩
  | non => cases t
  | bl b => cases t
  | int i => cases t
  | str x => cases t
  | lst q _ => cases t
theorem tupOf_and {n : Nat} {d : PyData} : tupOfD n d = true ↔ isTup d = true ∧ 1 ≤ (kidsD d).length ∧ (kidsD d).length ≤ n := by
  unfold tupOfD
  rw [Bool.and_eq_true, decide_eq_true_eq]
def spIsWhole (K : PySem.W.Frag) : Sp := fun vs H Q _ => ∃ (x : V) (d : PyData), vs = [x] ∧ Dp K H x d ∧ Q (.bl (wholeD d)) H
def spTupleOf (K : PySem.W.Frag) : Sp := fun vs H Q _ => ∃ (x : V) (d : PyData) (n : Nat), vs = [x, .int (n : Int)] ∧ Dp K H x d ∧ Q (.bl (tupOfD n d)) H
def spLook (K : PySem.W.Frag) (f : PyData → Bool) : Sp := fun vs H Q _ => ∃ (x : V) (d : PyData), vs = [x] ∧ Dp K H x d ∧ ∀ H', Same H H' → Q (.bl (f d)) H'
/-- two comprehensions of truths in one: a list of all, one behind the other -/
def spKindsLen (K : PySem.W.Frag) : Sp := fun vs H Q _ => ∃ (x : V) (d : PyData), vs = [x] ∧ Dp K H x d ∧ tupOfD 8 d = true ∧ (kidsD d).all isAskD = true ∧ Q (.int ((kidsD ((kidsD ((kidsD d).headD .none)).headD .none)).length : Int)) H
theorem all_head {f : PyData → Bool} {ds : List PyData} (h : ds.all f = true) (l : 1 ≤ ds.length) : ∃ d r, ds = d :: r ∧ f d = true := by
  match ds, h, l with
  | d :: r, h, _ =>
    rw [List.all_cons, Bool.and_eq_true] at h
    exact ⟨d, r, rfl, h.1⟩
  | [], _, l => exact absurd l (by decide)
theorem dpAll_cons {K : PySem.W.Frag} {H : Hp} {xs : List V} {d : PyData} {r : List PyData} (h : DpAll K H xs (d :: r)) : ∃ v vs, xs = v :: vs ∧ Dp K H v d := by
  cases h with
  | cons q _ => exact ⟨_, _, rfl, q⟩
theorem all_map_id {f : PyData → Bool} (ds : List PyData) : (ds.map f).all id = ds.all f := by
  rw [List.all_map]
  rfl
theorem noLAll_of : ∀ {ds : List PyData}, (∀ d ∈ ds, noL d = true) → noLAll ds = true
  | [], _ => rfl
  | d :: ds, h => by
    simp only [noLAll, Bool.and_eq_true]
    exact ⟨h d List.mem_cons_self, noLAll_of fun e he => h e (List.mem_cons_of_mem _ he)⟩
theorem noL_num {d : PyData} (h : numD d = true) : noL d = true := by
  cases d <;> first | rfl | cases h
theorem noL_isWay {d : PyData} (h : isWayD d = true) : noL d = true := by
  unfold isWayD at h
  rw [Bool.and_eq_true] at h
  obtain ⟨t, _, _⟩ := tupOf_and.mp h.1
  cases d with
  | tuple ds =>
    simp only [noL]
    exact noLAll_of fun e he => noL_num (List.all_eq_true.mp h.2 e he)
  | _ => cases t
theorem flat_all {f : PyData → List Bool} {g : PyData → Bool} (h : ∀ d, (f d).all id = g d) : ∀ ds : List PyData, (ds.flatMap f).all id = ds.all g
  | [] => rfl
  | d :: ds => by rw [List.flatMap_cons, List.all_append, h d, flat_all h ds, List.all_cons]
section
variable {P : Program} {w : World} {K : PySem.W.Frag} {mg : Str → Option Value} {base : Heap}
theorem scIsWhole : FnScope ["thing"] ["thing"] (defScope sIsWhole) := ⟨rfl, rfl, rfl, by decide +kernel, rfl, by decide +kernel, by decide +kernel⟩
theorem ok_isWhole {f : Addr} {fd : FuncData} {k : Nat} (F : Fun K "is_whole" "is_whole" sIsWhole f fd) (mi : mg "isinstance" = none) (mn : mg "int" = none) (mb : mg "bool" = none) : FnOk P w K mg base CX0 (k + 1) f fd ["thing"] (spIsWhole K) := by
  refine F.ok scIsWhole (fun vs H Q E h => ?_) (fun cdv A outer s H vs Q E hr h => ?_)
  · obtain ⟨x, d, rfl, _⟩ := h
    rfl
  · obtain ⟨x, d, rfl, dx, q⟩ := h
    refine ⟨_, pss_one (ps_ret (pe_and (pe_callB call_isi (by rfl) mi (by decide +kernel) (pa_cons (pv 0) (pa_cons (pe_bltn (v := .ty "int") (by rfl) mn (by decide +kernel) rfl) pa_nil)))
      (pe_one (pe_not (pe_callB call_isi (by rfl) mi (by decide +kernel) (pa_cons (pv 0) (pa_cons (pe_bltn (v := .ty "bool") (by rfl) mb (by decide +kernel) rfl) pa_nil))))))), ?_⟩
    refine ⟨_, rfl, _, _, _, _, isInt d, rfl, .ty _, dp_tyx dx, kit_ty (kit_int d), _, rfl, ?_⟩
    rw [← whole_is d] at q
    cases e : isInt d with
    | false =>
      rw [e] at q
      exact ifF rfl q
    | true =>
      rw [e] at q
      exact ifT rfl ⟨_, rfl, _, _, _, _, isBool d, rfl, .ty _, dp_tyx dx, kit_ty (kit_bool d), _, rfl, q⟩
theorem scTupleOf : FnScope ["thing", "most"] ["thing", "most"] (defScope sTupleOf) := ⟨rfl, rfl, rfl, by decide +kernel, rfl, by decide +kernel, by decide +kernel⟩
theorem ok_tupleOf {f : Addr} {fd : FuncData} {k : Nat} (F : Fun K "is_tuple_of" "is_tuple_of" sTupleOf f fd) (mi : mg "isinstance" = none) (mt : mg "tuple" = none) (ml : mg "len" = none) : FnOk P w K mg base CX0 (k + 1) f fd ["thing", "most"] (spTupleOf K) := by
  refine F.ok scTupleOf (fun vs H Q E h => ?_) (fun cdv A outer s H vs Q E hr h => ?_)
  · obtain ⟨x, d, n, rfl, _⟩ := h
    rfl
  · obtain ⟨x, d, n, rfl, dx, q⟩ := h
    refine ⟨_, pss_one (ps_ret (pe_and (pe_callB call_isi (by rfl) mi (by decide +kernel) (pa_cons (pv 0) (pa_cons (pe_bltn (v := .ty "tuple") (by rfl) mt (by decide +kernel) rfl) pa_nil)))
      (pe_one (pe_chain op_le op_le pe_int (pe_callB call_len_seq (by rfl) ml PySem.boot_len (pa_cons (pv 0) pa_nil)) (pv 1))))), ?_⟩
    refine ⟨_, rfl, _, _, _, _, isTup d, rfl, .ty _, dp_tyx dx, kit_ty (kit_tup d), _, rfl, ?_⟩
    unfold tupOfD at q
    cases e : isTup d with
    | false =>
      rw [e] at q
      exact ifF rfl q
    | true =>
      rw [e] at q
      obtain ⟨a, xs, rfl, hT, dxs, _⟩ := tup_is dx e
      have lx := dpAll_len dxs
      refine ifT rfl ⟨_, rfl, a, xs, rfl, .inr hT, _, _, rfl, rfl, _, rfl, ?_⟩
      by_cases h1 : 1 ≤ (kidsD d).length
      · refine ifT (decide_eq_true (by omega)) ⟨_, rfl, _, _, rfl, rfl, ?_⟩
        have e2 : decide ((xs.length : Int) ≤ (n : Int)) = (true && decide (1 ≤ (kidsD d).length ∧ (kidsD d).length ≤ n)) := by
          rw [Bool.true_and]
          exact decide_eq_decide.mpr (by omega)
        show Q (.bl (decide ((xs.length : Int) ≤ (n : Int)))) H
        rw [e2]
        exact q
      · refine ifF (decide_eq_false (by omega)) ?_
        rw [show (true && decide (1 ≤ (kidsD d).length ∧ (kidsD d).length ≤ n)) = false by rw [Bool.true_and]; exact decide_eq_false (by omega)] at q
        exact q
theorem scIsWay : FnScope ["thing", "number"] ["thing"] (defScope sIsWay) := ⟨rfl, rfl, rfl, by decide +kernel, rfl, by decide +kernel, by decide +kernel⟩
theorem ok_isWay {f fT fW : Addr} {fd fdT fdW : FuncData} {k : Nat} {tk tn : Tok} (F : Fun K "is_way" "is_way" sIsWay f fd)
    (GT : FnOk P w K mg base CX0 (k + 1) fT fdT ["thing", "most"] (spTupleOf K)) (kT : PySem.W.keepIn K (.ref fT) = true) (bT : Binds K fdT ["thing", "most"] []) (gT : mg "is_tuple_of" = some (.ref fT))
    (GW : FnOk P w K mg base CX0 (k + 1) fW fdW ["thing"] (spIsWhole K)) (kW : PySem.W.keepIn K (.ref fW) = true) (bW : Binds K fdW ["thing"] []) (gW : mg "is_whole" = some (.ref fW))
    (gK : mg "MOST_KINDS" = some (.int 4 tk)) (gN : mg "MOST_IN_A_WAY" = some (.int 99 tn)) (ma : mg "all" = none) (mb : mg "abs" = none) : FnOk P w K mg base CX0 (k + 2) f fd ["thing"] (spLook K isWayD) := by
  refine F.ok scIsWay (fun vs H Q E h => ?_) (fun cdv A outer s H vs Q E hr h => ?_)
  · obtain ⟨x, d, rfl, _⟩ := h
    rfl
  · obtain ⟨x, d, rfl, dx, q⟩ := h
    refine ⟨_, pss_cons (ps_if (pt_not (pt_val (pe_call GT hr (by rfl) gT kT bT .nil pass0 (pa_cons (pv 0) (pa_cons (pe_glob (v := .int 4) (by rfl) gK ⟨_, rfl⟩) pa_nil))))) (pss_one (ps_ret pe_bl)) pss_nil)
      (pss_one (ps_ret (pe_callB (cr_all rfl) (by rfl) ma (by decide +kernel) (pa_cons
        (pe_lc (own := [("number", 1)]) (g := gName 1) (tt := tYes) (te := tAndV (tCall (spIsWhole K) [] E0 (tCons (tVar 1) tNil)) (tOp (rI0 fun i j => .bl (decide (i ≤ j))) (tCB (fun xs H Q => ∃ i, xs = [.int i] ∧ Q (.int (if i < 0 then -i else i)) H) (tCons (tVar 1) tNil)) (tC (.int 99)))) rfl scIsWay.nd (pi_tup (pv 0))
          (blkOk_by (N := ["thing", "number"]) (sc := defScope sIsWay) (by decide +kernel)) (fun _ _ _ _ _ => by exact pg_name (i := 1) scIsWay.nd rfl (.inl rfl)) (fun _ _ _ _ _ => pts_nil)
          (fun _ _ _ _ _ => by exact pe_and (pe_call GW hr (by rfl) gW kW bW .nil pass0 (pa_cons (pv 1) pa_nil)) (pe_one (pe_cmpR op_le (pe_callB call_abs (by rfl) mb (by decide +kernel) (pa_cons (pv 1) pa_nil)) (pe_glob (v := .int 99) (by rfl) gN ⟨_, rfl⟩) (nomark _))))) pa_nil)))), ?_⟩
    refine ⟨_, rfl, x, d, 4, rfl, dx, _, rfl, ?_⟩
    unfold isWayD at q
    cases e : tupOfD 4 d with
    | false =>
      rw [e] at q
      exact ifT rfl (q H (Same.refl H))
    | true =>
      rw [e, Bool.true_and] at q
      obtain ⟨t1, t2, t3⟩ := tupOf_and.mp e
      obtain ⟨a, xs, rfl, hT, dxs, _⟩ := tup_is dx t1
      have lx := dpAll_len dxs
      refine ifF rfl ⟨_, rfl, a, rfl, ⟨_, hT⟩, fun D nD => ?_⟩
      refine lc_tupV (bs := ((kidsD d).map numD).map V.bl) hT nD (by omega) (by rw [List.length_map, List.length_map, lx]) (fun _ => rfl) (fun m x y H2 s2 hx hy Q' k => ?_) (fun H2 s2 hD => ⟨D, _, rfl, SqL.of hD, ?_⟩)
      · obtain ⟨e0, he0, de0⟩ := dpAll_get dxs hx
        rw [List.getElem?_map, List.getElem?_map, he0] at hy
        obtain rfl : V.bl (numD e0) = y := Option.some.inj hy
        refine ⟨_, rfl, x, e0, rfl, dp_same s2 de0, _, rfl, ?_⟩
        cases e0 with
        | int i =>
          cases de0
          exact ifT rfl ⟨_, rfl, i, rfl, _, _, rfl, rfl, k H2 (Same.refl H2)⟩
        | none => exact ifF rfl (k H2 (Same.refl H2))
        | bool _ => exact ifF rfl (k H2 (Same.refl H2))
        | str _ => exact ifF rfl (k H2 (Same.refl H2))
        | list _ => exact ifF rfl (k H2 (Same.refl H2))
        | tuple _ => exact ifF rfl (k H2 (Same.refl H2))
        | dict _ => exact ifF rfl (k H2 (Same.refl H2))
      · rw [all_map_id]
        exact q H2 s2
theorem scIsAsk : FnScope ["thing", "way"] ["thing"] (defScope sIsAsk) := ⟨rfl, rfl, rfl, by decide +kernel, rfl, by decide +kernel, by decide +kernel⟩
theorem ok_isAsk {f fT fW : Addr} {fd fdT fdW : FuncData} {k : Nat} {tk : Tok} (F : Fun K "is_ask" "is_ask" sIsAsk f fd)
    (GT : FnOk P w K mg base CX0 (k + 2) fT fdT ["thing", "most"] (spTupleOf K)) (kT : PySem.W.keepIn K (.ref fT) = true) (bT : Binds K fdT ["thing", "most"] []) (gT : mg "is_tuple_of" = some (.ref fT))
    (GW : FnOk P w K mg base CX0 (k + 2) fW fdW ["thing"] (spLook K isWayD)) (kW : PySem.W.keepIn K (.ref fW) = true) (bW : Binds K fdW ["thing"] []) (gW : mg "is_way" = some (.ref fW))
    (gK : mg "MOST_WAYS" = some (.int 5 tk)) (ma : mg "all" = none) : FnOk P w K mg base CX0 (k + 3) f fd ["thing"] (spLook K isAskD) := by
  refine F.ok scIsAsk (fun vs H Q E h => ?_) (fun cdv A outer s H vs Q E hr h => ?_)
  · obtain ⟨x, d, rfl, _⟩ := h
    rfl
  · obtain ⟨x, d, rfl, dx, q⟩ := h
    refine ⟨_, pss_one (ps_ret (pe_and (pe_call GT hr (by rfl) gT kT bT .nil pass0 (pa_cons (pv 0) (pa_cons (pe_glob (v := .int 5) (by rfl) gK ⟨_, rfl⟩) pa_nil)))
      (pe_one (pe_callB (cr_all rfl) (by rfl) ma (by decide +kernel) (pa_cons
        (pe_lc (own := [("way", 1)]) (g := gName 1) (tt := tYes) (te := tCall (spLook K isWayD) [] E0 (tCons (tVar 1) tNil)) rfl scIsAsk.nd (pi_tup (pv 0))
          (blkOk_by (N := ["thing", "way"]) (sc := defScope sIsAsk) (by decide +kernel)) (fun _ _ _ _ _ => by exact pg_name (i := 1) scIsAsk.nd rfl (.inl rfl)) (fun _ _ _ _ _ => pts_nil)
          (fun _ _ _ _ _ => by exact pe_call GW hr (by rfl) gW kW bW .nil pass0 (pa_cons (pv 1) pa_nil))) pa_nil))))), ?_⟩
    refine ⟨_, rfl, x, d, 5, rfl, dx, _, rfl, ?_⟩
    unfold isAskD at q
    cases e : tupOfD 5 d with
    | false =>
      rw [e] at q
      exact ifF rfl (q H (Same.refl H))
    | true =>
      rw [e, Bool.true_and] at q
      obtain ⟨t1, t2, t3⟩ := tupOf_and.mp e
      obtain ⟨a, xs, rfl, hT, dxs, _⟩ := tup_is dx t1
      have lx := dpAll_len dxs
      refine ifT rfl ⟨_, rfl, a, rfl, ⟨_, hT⟩, fun D nD => ?_⟩
      refine lc_tupV (bs := ((kidsD d).map isWayD).map V.bl) hT nD (by omega) (by rw [List.length_map, List.length_map, lx]) (fun _ => rfl) (fun m x y H2 s2 hx hy Q' k => ?_) (fun H2 s2 hD => ⟨D, _, rfl, SqL.of hD, ?_⟩)
      · obtain ⟨e0, he0, de0⟩ := dpAll_get dxs hx
        rw [List.getElem?_map, List.getElem?_map, he0] at hy
        obtain rfl : V.bl (isWayD e0) = y := Option.some.inj hy
        exact ⟨_, rfl, x, e0, rfl, dp_same s2 de0, k⟩
      · rw [all_map_id]
        exact q H2 s2
theorem ok_kindsLen {f : Addr} {fd : FuncData} {k : Nat} (F : Fun K "kinds_of" "kinds_of" sKindsOf f fd) (ml : mg "len" = none) : FnOk P w K mg base CX0 (k + 1) f fd ["house"] (spKindsLen K) := by
  refine F.ok scKindsOf (fun vs H Q E h => ?_) (fun cdv A outer s H vs Q E hr h => ?_)
  · obtain ⟨x, d, rfl, _⟩ := h
    rfl
  · obtain ⟨x, d, rfl, dx, t, al, q⟩ := h
    refine ⟨_, pss_one (ps_ret (pe_callB call_len_seq (by rfl) ml PySem.boot_len (pa_cons (pe_ix ix_tup (pe_ix ix_tup (pv 0) pe_int (fun _ _ => rfl)) pe_int (fun _ _ => rfl)) pa_nil))), ?_⟩
    obtain ⟨t1, t2, t3⟩ := tupOf_and.mp t
    obtain ⟨a, xs, rfl, hT, dxs, _⟩ := tup_is dx t1
    obtain ⟨d0, r0, e0, ad⟩ := all_head al t2
    rw [e0] at dxs q
    obtain ⟨v0, vs0, rfl, dv0⟩ := dpAll_cons dxs
    unfold isAskD at ad
    rw [Bool.and_eq_true] at ad
    obtain ⟨u1, u2, u3⟩ := tupOf_and.mp ad.1
    obtain ⟨a1, xs1, rfl, hT1, dxs1, _⟩ := tup_is dv0 u1
    obtain ⟨d1, r1, e1, wd⟩ := all_head ad.2 u2
    rw [List.headD_cons, e1] at q
    rw [e1] at dxs1
    obtain ⟨v1, vs1, rfl, dv1⟩ := dpAll_cons dxs1
    unfold isWayD at wd
    rw [Bool.and_eq_true] at wd
    obtain ⟨w1, _, _⟩ := tupOf_and.mp wd.1
    obtain ⟨a2, xs2, rfl, hT2, dxs2, _⟩ := tup_is dv1 w1
    have lx2 := dpAll_len dxs2
    refine ⟨_, rfl, a, _, 0, _, rfl, rfl, hT, atI_nat (j := 0) rfl, a1, _, 0, _, rfl, rfl, hT1, atI_nat (j := 0) rfl, a2, _, rfl, .inr hT2, ?_⟩
    rw [lx2]
    exact q
theorem scIsHouse : FnScope ["thing", "kinds", "ask", "way"] ["thing"] (defScope sIsHouse) := ⟨rfl, rfl, rfl, by decide +kernel, rfl, by decide +kernel, by decide +kernel⟩
theorem ok_isHouse {f fT fA fK : Addr} {fd fdT fdA fdK : FuncData} {k : Nat} {tk : Tok} (F : Fun K "is_house" "is_house" sIsHouse f fd)
    (GT : FnOk P w K mg base CX0 (k + 3) fT fdT ["thing", "most"] (spTupleOf K)) (kT : PySem.W.keepIn K (.ref fT) = true) (bT : Binds K fdT ["thing", "most"] []) (gT : mg "is_tuple_of" = some (.ref fT))
    (GA : FnOk P w K mg base CX0 (k + 3) fA fdA ["thing"] (spLook K isAskD)) (kA : PySem.W.keepIn K (.ref fA) = true) (bA : Binds K fdA ["thing"] []) (gA : mg "is_ask" = some (.ref fA))
    (GK : FnOk P w K mg base CX0 (k + 3) fK fdK ["house"] (spKindsLen K)) (kK : PySem.W.keepIn K (.ref fK) = true) (bK : Binds K fdK ["house"] []) (gK : mg "kinds_of" = some (.ref fK))
    (gM : mg "MOST_ASKS" = some (.int 8 tk)) (ma : mg "all" = none) (ml : mg "len" = none) : FnOk P w K mg base CX0 (k + 4) f fd ["thing"] (spLook K isHouseD) := by
  refine F.ok scIsHouse (fun vs H Q E h => ?_) (fun cdv A outer s H vs Q E hr h => ?_)
  · obtain ⟨x, d, rfl, _⟩ := h
    rfl
  · obtain ⟨x, d, rfl, dx, q⟩ := h
    refine ⟨_, pss_cons (ps_if (PW.pt (pw_or (pt_not (pt_val (pe_call GT hr (by rfl) gT kT bT .nil pass0 (pa_cons (pv 0) (pa_cons (pe_glob (v := .int 8) (by rfl) gM ⟨_, rfl⟩) pa_nil)))))
        (pw_or1 (pt_not (pt_val (pe_callB (cr_all rfl) (by rfl) ma (by decide +kernel) (pa_cons
          (pe_lc (own := [("ask", 2)]) (g := gName 2) (tt := tYes) (te := tCall (spLook K isAskD) [] E0 (tCons (tVar 2) tNil)) rfl scIsHouse.nd (pi_tup (pv 0))
            (blkOk_by (N := ["thing", "kinds", "ask", "way"]) (sc := defScope sIsHouse) (by decide +kernel)) (fun _ _ _ _ _ => by exact pg_name (i := 2) scIsHouse.nd rfl (.inl rfl)) (fun _ _ _ _ _ => pts_nil)
            (fun _ _ _ _ _ => by exact pe_call GA hr (by rfl) gA kA bA .nil pass0 (pa_cons (pv 2) pa_nil))) pa_nil))))))) (pss_one (ps_ret pe_bl)) pss_nil)
      (pss_cons (ps_set (i := 1) scIsHouse.nd rfl (.inr rfl) (pe_call GK hr (by rfl) gK kK bK .nil pass0 (pa_cons (pv 0) pa_nil)))
      (pss_one (ps_ret (pe_callB (cr_all rfl) (by rfl) ma (by decide +kernel) (pa_cons
        (pe_lc2 (wi1 := iTup K (tVar 2)) (own := [("ask", 2), ("way", 3)]) (vs1 := [3]) (g := gName 2) (tt := tYes) (g1 := gName 3) (tt1 := tYes) (te := tOp rEq (tCB (fun xs H Q => ∃ p ys, xs = [.ref p] ∧ (SqL K H p ys ∨ SqT K H p ys) ∧ Q (.int ys.length) H) (tCons (tVar 3) tNil)) (tVar 1)) rfl scIsHouse.nd (pi_tup (pv 0))
          (blkOk_by (N := ["thing", "kinds", "ask", "way"]) (sc := defScope sIsHouse) (by decide +kernel)) (by decide)
          (fun _ _ _ _ _ => by exact pg_name (i := 2) scIsHouse.nd rfl (.inl rfl)) (fun _ _ _ _ _ => pts_nil)
          (fun _ _ _ _ _ => by exact pi_tup (pv 2))
          (fun _ _ _ _ _ => by exact pg_name (i := 3) scIsHouse.nd rfl (.inl rfl)) (fun _ _ _ _ _ => pts_nil)
          (fun _ _ _ _ _ => by exact pe_cmpR op_eq (pe_callB call_len_seq (by rfl) ml PySem.boot_len (pa_cons (pv 3) pa_nil)) (pv 1) (nomark _))) pa_nil))))), ?_⟩
    refine ⟨_, rfl, x, d, 8, rfl, dx, _, rfl, ?_⟩
    unfold isHouseD at q
    cases e : tupOfD 8 d with
    | false =>
      rw [e] at q
      exact ifT rfl (ifT rfl (q H (Same.refl H)))
    | true =>
      rw [e, Bool.true_and] at q
      obtain ⟨t1, t2, t3⟩ := tupOf_and.mp e
      obtain ⟨a, xs, rfl, hT, dxs, _⟩ := tup_is dx t1
      have lx := dpAll_len dxs
      refine ifF rfl ⟨_, rfl, a, rfl, ⟨_, hT⟩, fun D nD => ?_⟩
      refine lc_tupV (bs := ((kidsD d).map isAskD).map V.bl) hT nD (by omega) (by rw [List.length_map, List.length_map, lx]) (fun _ => rfl) (fun m x y H2 s2 hx hy Q' k => ?_) (fun H2 s2 hD => ⟨D, _, rfl, SqL.of hD, _, rfl, ?_⟩)
      · obtain ⟨e0, he0, de0⟩ := dpAll_get dxs hx
        rw [List.getElem?_map, List.getElem?_map, he0] at hy
        obtain rfl : V.bl (isAskD e0) = y := Option.some.inj hy
        exact ⟨_, rfl, x, e0, rfl, dp_same s2 de0, k⟩
      rw [all_map_id]
      cases al : (kidsD d).all isAskD with
      | false =>
        rw [al] at q
        exact ifT rfl (q H2 s2)
      | true =>
        rw [al, Bool.true_and] at q
        refine ifF rfl ?_
        have dx2 := dp_same s2 dx
        refine ⟨_, rfl, .ref a, d, rfl, dx2, e, al, ?_⟩
        obtain ⟨kd, ekd⟩ : ∃ kd, (kidsD ((kidsD ((kidsD d).headD .none)).headD .none)).length = kd := ⟨_, rfl⟩
        rw [ekd] at q ⊢
        refine ⟨_, rfl, a, rfl, ⟨_, s2.seqT hT⟩, fun G nG => ?_⟩
        have sG := same_upd (o := .lst []) nG
        have wys : ∀ c ∈ kidsD d, ∀ u ∈ kidsD c, isWayD u = true := fun c hc u hu => by
          have := List.all_eq_true.mp al c hc
          unfold isAskD at this
          rw [Bool.and_eq_true] at this
          exact List.all_eq_true.mp this.2 u hu
        have five : ∀ c ∈ kidsD d, isTup c = true ∧ (kidsD c).length ≤ 5 ∧ ∀ u ∈ kidsD c, isTup u = true := fun c hc => by
          have := List.all_eq_true.mp al c hc
          unfold isAskD at this
          rw [Bool.and_eq_true] at this
          obtain ⟨u1, u2, u3⟩ := tupOf_and.mp this.1
          refine ⟨u1, u3, fun u hu => ?_⟩
          have := List.all_eq_true.mp this.2 u hu
          unfold isWayD at this
          rw [Bool.and_eq_true] at this
          exact (tupOf_and.mp this.1).1
        have lens : ∀ j, ((((kidsD d).take j).flatMap fun c => (kidsD c).map fun u => V.bl (decide ((kidsD u).length = kd)))).length ≤ 5 * j := fun j => by
          rw [List.length_flatMap]
          have : ∀ l : List PyData, (∀ c ∈ l, c ∈ kidsD d) → (l.map fun c => ((kidsD c).map fun u => V.bl (decide ((kidsD u).length = kd))).length).sum ≤ 5 * l.length := fun l => by
            induction l with
            | nil => exact fun _ => Nat.le_refl _
            | cons c r ih =>
              intro h
              have h1 := (five c (h c List.mem_cons_self)).2.1
              have h2 := ih fun z hz => h z (List.mem_cons_of_mem _ hz)
              simp only [List.map_cons, List.sum_cons, List.length_cons, List.length_map] at h2 ⊢
              omega
          have h3 := this ((kidsD d).take j) fun c hc => List.mem_of_mem_take hc
          rw [List.length_take] at h3
          have h4 : min j (kidsD d).length ≤ j := Nat.min_le_left _ _
          omega
        refine walk_gen (walk_tup (K := K) (a := a) (xs := xs)) _ (fun j H3 => Same H2 H3 ∧ H3 G = some (.lst (((kidsD d).take j).flatMap fun c => (kidsD c).map fun u => V.bl (decide ((kidsD u).length = kd))))) ⟨sG, upd_same⟩ (fun j H3 _ ⟨s3, _⟩ => s3.seqT (s2.seqT hT)) ?_ ?_
        · rintro j v H3 H3' lj ⟨s3, hG⟩ ⟨rfl, hj⟩
          obtain ⟨c, hc, dc⟩ := dpAll_get dxs hj
          obtain ⟨c1, c5, c2⟩ := five c (List.mem_of_getElem? hc)
          have c3 := wys c (List.mem_of_getElem? hc)
          have s23 := s2.trans s3
          obtain ⟨ca, cs, rfl, hcT, dcs, _⟩ := tup_is (dp_same s23 dc) c1
          have lc := dpAll_len dcs
          have lj5 := lens j
          have j8 : j < 8 := by omega
          refine ⟨rfl, _, rfl, ca, rfl, ⟨_, hcT⟩, ?_⟩
          refine walk_gen (walk_tup (K := K) (a := ca) (xs := cs)) _ (fun i H4 => Kp G H3' H4 ∧ H4 G = some (.lst ((((kidsD d).take j).flatMap fun c => (kidsD c).map fun u => V.bl (decide ((kidsD u).length = kd))) ++ ((kidsD c).take i).map fun u => V.bl (decide ((kidsD u).length = kd)))) ∧ DpAll K H4 cs (kidsD c) ∧ SqT K H4 ca cs) ⟨Kp.refl _ _, by rw [List.take_zero, List.map_nil, List.append_nil]; exact hG, dcs, hcT⟩ (fun i H4 _ h => h.2.2.2) ?_ ?_
          · rintro i u H4 H4' li ⟨k4, hG4, dcs4, hcT4⟩ ⟨rfl, hi⟩
            obtain ⟨z, hz, dz⟩ := dpAll_get dcs4 hi
            obtain ⟨za, zs, rfl, hzT, dzs, ez⟩ := tup_is dz (c2 z (List.mem_of_getElem? hz))
            have lz := dpAll_len dzs
            refine ⟨rfl, _, rfl, za, zs, rfl, .inr hzT, _, rfl, rfl, ?_⟩
            refine ⟨_, hG4, ?_, fun b' o' e' n' => ?_, ?_, ?_, ?_⟩
            · rw [List.length_append, List.length_map, List.length_take]
              exact small_line (by omega)
            · rw [upd_ne n']
              exact k4 _ _ e' n'
            · rw [upd_same, take_snoc hz, List.map_append, List.append_assoc, lz]
              have e2 : decide (V.int ((kidsD z).length : Int) = V.int (kd : Int)) = decide ((kidsD z).length = kd) := decide_eq_decide.mpr ⟨fun h => by injection h with h; omega, fun h => by rw [h]⟩
              rw [e2]
              rfl
            · exact dpAll_put hG4 dcs4 (noLAll_of fun u hu => noL_isWay (c3 u hu))
            · exact Kp.seqT (kp_upd _ _ _) hG4 hcT4
          · rintro H4 ⟨k4, hG4, _, _⟩
            refine ⟨fun b' o' e' => k4 _ _ (s3 _ _ e') (ne_of_none e' nG), ?_⟩
            rw [lc, List.take_length] at hG4
            rw [take_snoc hc, List.flatMap_append, List.flatMap_cons, List.flatMap_nil, List.append_nil]
            exact hG4
        · rintro H3 ⟨s3, hG⟩
          rw [lx, List.take_length] at hG
          have e3 : ((kidsD d).flatMap fun c => (kidsD c).map fun u => V.bl (decide ((kidsD u).length = kd))) = ((kidsD d).flatMap fun c => (kidsD c).map fun u => decide ((kidsD u).length = kd)).map V.bl := by
            rw [List.map_flatMap]
            congr 1
            funext c
            rw [List.map_map]
            rfl
          rw [e3] at hG
          refine ⟨G, _, rfl, SqL.of hG, ?_⟩
          rw [flat_all (g := fun a => (kidsD a).all fun w => decide ((kidsD w).length = kd)) (fun c => by rw [List.all_map]; rfl)]
          exact q H3 (s2.trans s3)
end
/-! ### (x,) * k, told by what stands behind -/
def rRepZ (K : PySem.W.Frag) : R2 := fun x y H Q => ∃ l k z, x = .ref l ∧ y = .int k ∧ SqT K H l [z] ∧ 0 ≤ k ∧ k ≤ 1000 ∧ ∀ p H', Same H H' → SqT K H' p (List.replicate k.toNat z) → Q (.ref p) H'
theorem op_repZ {X : Cx} : OpR X (binaryOp .Mult) (rRepZ X.K) := by
  intro pins s σ H x y v u Q I rx ry h
  obtain ⟨l, k, z, rfl, rfl, hT, h0, hk, q⟩ := h
  refine op_rep1 pins s σ H _ _ v u Q I rx ry ⟨l, k, z, rfl, rfl, hT, h0, hk, fun e => q l H (Same.refl H) ?_, fun _ p np => q p _ (same_upd np) (SqT.of upd_same)⟩
  subst e
  exact hT
theorem tupD_of {K : PySem.W.Frag} {H : Hp} {v : V} {ds : List PyData} (h : Dp K H v (.tuple ds)) : ∃ a vs, v = .ref a ∧ SqT K H a vs ∧ DpAll K H vs ds := by
  cases h with
  | @tup a vs _ hT hall => exact ⟨a, vs, rfl, hT, hall⟩
/-! ### houses put together -/
def sTogether : Stmt := topS 12
def sBeside : Stmt := topS 13
def sTimes : Stmt := topS 14
def wideW (a b : Nat) (l : List Int) : List Int := List.replicate a 0 ++ l ++ List.replicate b 0
def behW (b : Nat) (l : List Int) : List Int := l ++ List.replicate b 0
def aheW (a : Nat) (l : List Int) : List Int := List.replicate a 0 ++ l
def besideH (kd kg : Nat) (h g : Asks) : Asks := h.map (List.map (behW kg)) ++ g.map (List.map (aheW kd))
def timesH (m : Int) (h : Asks) : Asks := h.map (List.map (List.map (· * m)))
def spTogether (K : PySem.W.Frag) : Sp := fun vs H Q _ => ∃ (x y : V) (h g : Asks), vs = [x, y] ∧ Dp K H x (houseD h) ∧ Dp K H y (houseD g) ∧ h.length + g.length ≤ 1000 ∧ ∀ v H', Same H H' → Dp K H' v (houseD (h ++ g)) → Q v H'
def spBeside (K : PySem.W.Frag) : Sp := fun vs H Q _ => ∃ (x y : V) (h g : Asks) (kd kg : Nat), vs = [x, y] ∧ Dp K H x (houseD h) ∧ Dp K H y (houseD g) ∧ HsOk h kd ∧ HsOk g kg ∧ ∀ v H', Same H H' → Dp K H' v (houseD (besideH kd kg h g)) → Q v H'
def spTimes (K : PySem.W.Frag) : Sp := fun vs H Q _ => ∃ (x : V) (h : Asks) (kd : Nat) (m : Int), vs = [x, .int m] ∧ Dp K H x (houseD h) ∧ HsOk h kd ∧ 0 ≤ m ∧ m ≤ 1000 ∧ ∀ v H', Same H H' → Dp K H' v (houseD (timesH m h)) → Q v H'
theorem HsOk.w4 {h : Asks} {kd : Nat} (o : HsOk h kd) {a : List (List Int)} (ha : a ∈ h) {l : List Int} (hl : l ∈ a) : l.length ≤ 4 := by
  rw [o.len a ha l hl]
  exact o.k4
/-- a tuple of a list of data that was just laid -/
theorem tup_new {K : PySem.W.Frag} {H : Hp} {D : Addr} {ps : List V} {ds : List PyData} {Q : VK} (hD : H D = some (.lst ps)) (dps : DpAll K H ps ds) (q : ∀ v H', Same H H' → Dp K H' v (.tuple ds) → Q v H') : rTupOf K [.ref D] H Q :=
  ⟨D, ps, rfl, .inl ⟨SqL.of hD, fun l nl => q _ _ (same_upd nl) (.tup (SqT.of upd_same) (dpAll_same (same_upd nl) dps))⟩⟩
section
variable {P : Program} {w : World} {K : PySem.W.Frag} {mg : Str → Option Value} {base : Heap}
theorem scTogether : FnScope ["house", "other"] ["house", "other"] (defScope sTogether) := ⟨rfl, rfl, rfl, by decide +kernel, rfl, by decide +kernel, by decide +kernel⟩
theorem ok_together {f : Addr} {fd : FuncData} {k : Nat} (F : Fun K "together" "together" sTogether f fd) : FnOk P w K mg base CX0 (k + 1) f fd ["house", "other"] (spTogether K) := by
  refine F.ok scTogether (fun vs H Q E h => ?_) (fun cdv A outer s H vs Q E hr h => ?_)
  · obtain ⟨x, y, h, g, rfl, _⟩ := h
    rfl
  · obtain ⟨x, y, h, g, rfl, dx, dy, few, q⟩ := h
    refine ⟨_, pss_one (ps_ret (pe_op op_catN (pv 0) (pv 1))), ?_⟩
    obtain ⟨a, xs, rfl, hT, dxs⟩ := tupD_of dx
    obtain ⟨b, ys, rfl, hU, dys⟩ := tupD_of dy
    have lx := dpAll_len dxs
    have ly := dpAll_len dys
    rw [List.length_map] at lx ly
    refine ⟨_, rfl, _, rfl, a, b, xs, ys, rfl, rfl, hT, hU, by rw [sizeLine_eq]; omega, fun c H' s' hc => q _ H' s' (.tup hc ?_)⟩
    rw [List.map_append]
    exact dpAll_same s' (dpAll_app dxs dys)
theorem scBeside : FnScope ["house", "other", "behind", "ahead", "asks", "ask", "way"] ["house", "other"] (defScope sBeside) := ⟨rfl, rfl, rfl, by decide +kernel, rfl, by decide +kernel, by decide +kernel⟩
theorem ok_beside {f fK : Addr} {fd fdK : FuncData} {k : Nat} (F : Fun K "beside" "beside" sBeside f fd)
    (GK : FnOk P w K mg base CX0 (k + 1) fK fdK ["house"] (spKindsOf K)) (kK : PySem.W.keepIn K (.ref fK) = true) (bK : Binds K fdK ["house"] []) (gK : mg "kinds_of" = some (.ref fK)) (mt : mg "tuple" = none) : FnOk P w K mg base CX0 (k + 2) f fd ["house", "other"] (spBeside K) := by
  refine F.ok scBeside (fun vs H Q E h => ?_) (fun cdv A outer s H vs Q E hr h => ?_)
  · obtain ⟨x, y, h, g, kd, kg, rfl, _⟩ := h
    rfl
  · obtain ⟨x, y, h, g, kd, kg, rfl, dx, dy, o, og, q⟩ := h
    refine ⟨_, (pss_cons (ps_set (i := 2) scBeside.nd rfl (.inr rfl) (pe_op op_repZ (pe_tup (pa_cons pe_int pa_nil)) (pe_call GK hr (by rfl) gK kK bK .nil pass0 (pa_cons (pv 1) pa_nil))))
      (pss_cons (ps_set (i := 3) scBeside.nd rfl (.inr rfl) (pe_op op_repZ (pe_tup (pa_cons pe_int pa_nil)) (pe_call GK hr (by rfl) gK kK bK .nil pass0 (pa_cons (pv 0) pa_nil))))
      (pss_cons (ps_setLc (i := 4) (own := [("ask", 5)]) (g := gName 5) (tt := tYes) (te := (tCB (rTupOf K) (tCons (tLc (iTup K (tVar 5)) (gName 6) tYes (tOp (rCatN K) (tVar 6) (tVar 2)) [6]) tNil))) rfl scBeside.nd rfl rfl (sw_true rfl rfl rfl (by decide +kernel)) (pi_tup (pv 0))
        (blkOk_by (N := ["house", "other", "behind", "ahead", "asks", "ask", "way"]) (sc := defScope sBeside) (by decide +kernel)) (fun _ _ _ _ _ => by exact (pg_name (i := 5) scBeside.nd rfl (.inl rfl))) (fun _ _ _ _ _ => pts_nil)
        (fun _ _ _ _ _ => by exact (by
          refine pe_callTy call_tuple_of (by rfl) mt (by decide +kernel) (pa_cons ?_ pa_nil)
          refine pe_lc (wi := iTup K (tVar 5)) (own := [("way", 6)]) (g := gName 6) (tt := tYes) (te := tOp (rCatN K) (tVar 6) (tVar 2)) ?_ ?_ ?_ ?_ ?_ ?_ ?_
          · rfl
          · exact scBeside.nd
          · exact (pi_tup (pv 5))
          · exact blkOk_by (N := ["house", "other", "behind", "ahead", "asks", "ask", "way"]) (sc := lcSc [(".0", .local), ("ask", .local), ("tuple", .globalImplicit), ("behind", .cell)]) (by decide +kernel)
          · exact fun _ _ _ _ _ => by exact (pg_name (i := 6) scBeside.nd rfl (.inl rfl))
          · exact fun _ _ _ _ _ => pts_nil
          · exact fun _ _ _ _ _ => by exact pe_op op_catN (pv 6) (pv 2))))
      (pss_one (ps_ret (pe_callTy call_tuple_of (by rfl) mt (by decide +kernel) (pa_cons (pe_op op_cat (pv 4) (pe_lc (own := [("ask", 5)]) (g := gName 5) (tt := tYes) (te := (tCB (rTupOf K) (tCons (tLc (iTup K (tVar 5)) (gName 6) tYes (tOp (rCatN K) (tVar 3) (tVar 6)) [6]) tNil))) rfl scBeside.nd (pi_tup (pv 1))
        (blkOk_by (N := ["house", "other", "behind", "ahead", "asks", "ask", "way"]) (sc := defScope sBeside) (by decide +kernel)) (fun _ _ _ _ _ => by exact (pg_name (i := 5) scBeside.nd rfl (.inl rfl))) (fun _ _ _ _ _ => pts_nil)
        (fun _ _ _ _ _ => by exact (by
          refine pe_callTy call_tuple_of (by rfl) mt (by decide +kernel) (pa_cons ?_ pa_nil)
          refine pe_lc (wi := iTup K (tVar 5)) (own := [("way", 6)]) (g := gName 6) (tt := tYes) (te := tOp (rCatN K) (tVar 3) (tVar 6)) ?_ ?_ ?_ ?_ ?_ ?_ ?_
          · rfl
          · exact scBeside.nd
          · exact (pi_tup (pv 5))
          · exact blkOk_by (N := ["house", "other", "behind", "ahead", "asks", "ask", "way"]) (sc := lcSc [(".0", .local), ("ask", .local), ("tuple", .globalImplicit), ("ahead", .cell)]) (by decide +kernel)
          · exact fun _ _ _ _ _ => by exact (pg_name (i := 6) scBeside.nd rfl (.inl rfl))
          · exact fun _ _ _ _ _ => pts_nil
          · exact fun _ _ _ _ _ => by exact pe_op op_catN (pv 3) (pv 6))))) pa_nil))))))), ?_⟩
    -- sem
    have k4 := o.k4
    have g4 := og.k4
    have few := o.few
    have gfew := og.few
    obtain ⟨a, xs, rfl, hT, dxs⟩ := tupD_of dx
    obtain ⟨b, ys, rfl, hU, dys⟩ := tupD_of dy
    refine ⟨by show 1 ≤ sizeLine; decide, fun z1 n1 => ?_⟩
    have s1 := same_upd (o := .tup [V.int 0]) n1
    refine ⟨_, rfl, .ref b, g, kg, rfl, dp_same s1 dy, og, z1, (kg : Int), V.int 0, rfl, rfl, SqT.of upd_same, by omega, by omega, fun bh H2 s2 hB => ?_⟩
    rw [Int.toNat_natCast] at hB
    refine ⟨by show 1 ≤ sizeLine; decide, fun z2 n2 => ?_⟩
    have s3 := same_upd (o := .tup [V.int 0]) n2
    have s02 := (s1.trans s2).trans s3
    refine ⟨_, rfl, .ref a, h, kd, rfl, dp_same s02 dx, o, z2, (kd : Int), V.int 0, rfl, rfl, SqT.of upd_same, by omega, by omega, fun ah H3 s4 hA => ?_⟩
    rw [Int.toNat_natCast] at hA
    have s03 := s02.trans s4
    have hB3 := (s3.trans s4).seqT hB
    have dxs3 := dpAll_same s03 dxs
    refine ⟨_, rfl, a, rfl, ⟨_, s03.seqT hT⟩, fun D nD => ?_⟩
    refine lc_tupD (S := h) (f := askD) (h := askD) (w := List.map (behW kg)) (s03.seqT hT) dxs3 nD (by omega) (fun _ => rfl) noL_ask (fun m x t H4 s5 ht dt Q' q' => ?_) (fun H4 ps s5 hD dps => ?_)
    · have mt' := List.mem_of_getElem? ht
      have t5 := o.five t mt'
      obtain ⟨c, cs, rfl, hC, dcs⟩ := tupD_of dt
      refine ⟨_, rfl, c, rfl, ⟨_, hC⟩, fun G nG => ?_⟩
      refine lc_tupD (S := t) (f := wayD) (h := wayD) (w := behW kg) hC dcs nG (by omega) (fun _ => rfl) noL_way (fun m2 x2 l H5 s6 hl dl Q2 q2 => ?_) (fun H5 ps2 s6 hG dps2 => tup_new hG dps2 fun v H6 s7 dv => q' v H6 (s6.trans s7) dv)
      obtain ⟨la, rfl, hL⟩ := way_of dl
      have l4 := o.w4 mt' (List.mem_of_getElem? hl)
      refine ⟨_, rfl, _, rfl, la, bh, _, _, rfl, rfl, hL, (s5.trans s6).seqT hB3, by rw [List.length_map, List.length_replicate, sizeLine_eq]; omega, fun v H6 s7 hv => q2 _ H6 s7 (of_way ?_)⟩
      unfold behW
      rw [List.map_append, List.map_replicate]
      exact hv
    · have s05 := s03.trans s5
      have dys5 := dpAll_same s05 dys
      refine ⟨_, rfl, _, rfl, b, rfl, ⟨_, s05.seqT hU⟩, fun G nG => ?_⟩
      have hA5 := s5.seqT hA
      refine lc_tupD (S := g) (f := askD) (h := askD) (w := List.map (aheW kd)) (s05.seqT hU) dys5 nG (by omega) (fun _ => rfl) noL_ask (fun m x t H6 s6 ht dt Q' q' => ?_) (fun H6 ps2 s6 hG dps2 => ?_)
      · have mt' := List.mem_of_getElem? ht
        have t5 := og.five t mt'
        obtain ⟨c, cs, rfl, hC, dcs⟩ := tupD_of dt
        refine ⟨_, rfl, c, rfl, ⟨_, hC⟩, fun G2 nG2 => ?_⟩
        refine lc_tupD (S := t) (f := wayD) (h := wayD) (w := aheW kd) hC dcs nG2 (by omega) (fun _ => rfl) noL_way (fun m2 x2 l H7 s7 hl dl Q2 q2 => ?_) (fun H7 ps3 s7 hG2 dps3 => tup_new hG2 dps3 fun v H8 s8 dv => q' v H8 (s7.trans s8) dv)
        obtain ⟨la, rfl, hL⟩ := way_of dl
        have l4 := og.w4 mt' (List.mem_of_getElem? hl)
        refine ⟨_, rfl, _, rfl, ah, la, _, _, rfl, rfl, (s6.trans s7).seqT hA5, hL, by rw [List.length_map, List.length_replicate, sizeLine_eq]; omega, fun v H8 s8 hv => q2 _ H8 s8 (of_way ?_)⟩
        unfold aheW
        rw [List.map_append, List.map_replicate]
        exact hv
      · have l1 := dpAll_len dps
        have l2 := dpAll_len dps2
        simp only [List.length_map] at l1 l2
        refine ⟨D, G, ps, ps2, rfl, rfl, s6 _ _ hD, hG, by rw [sizeLine_eq]; omega, fun L nL => ?_⟩
        have sL := same_upd (o := .lst (ps ++ ps2)) nL
        refine tup_new upd_same (dpAll_app (dpAll_same (s6.trans sL) dps) (dpAll_same sL dps2)) fun v H7 s7 dv => q v H7 ((s05.trans s6).trans (sL.trans s7)) ?_
        unfold houseD besideH
        rw [List.map_append]
        exact dv
theorem scTimes : FnScope ["house", "m", "ask", "way", "number"] ["house", "m"] (defScope sTimes) := ⟨rfl, rfl, rfl, by decide +kernel, rfl, by decide +kernel, by decide +kernel⟩
theorem ok_times {f : Addr} {fd : FuncData} {k : Nat} (F : Fun K "times" "times" sTimes f fd) (mt : mg "tuple" = none) : FnOk P w K mg base CX0 (k + 1) f fd ["house", "m"] (spTimes K) := by
  refine F.ok scTimes (fun vs H Q E h => ?_) (fun cdv A outer s H vs Q E hr h => ?_)
  · obtain ⟨x, h, kd, m, rfl, _⟩ := h
    rfl
  · obtain ⟨x, h, kd, m, rfl, dx, o, m0, m1, q⟩ := h
    refine ⟨_, (pss_one (ps_ret (pe_callTy call_tuple_of (by rfl) mt (by decide +kernel) (pa_cons (pe_lc (own := [("ask", 2)]) (g := gName 2) (tt := tYes) (te := (tCB (rTupOf K) (tCons (tLc (iTup K (tVar 2)) (gName 3) tYes (tCB (rTupOf K) (tCons (tLc (iTup K (tVar 3)) (gName 4) tYes (tOp (rI CMul fun i j => .int (i * j)) (tVar 4) (tVar 1)) [4]) tNil)) [3]) tNil))) rfl scTimes.nd (pi_tup (pv 0))
        (blkOk_by (N := ["house", "m", "ask", "way", "number"]) (sc := defScope sTimes) (by decide +kernel)) (fun _ _ _ _ _ => by exact (pg_name (i := 2) scTimes.nd rfl (.inl rfl))) (fun _ _ _ _ _ => pts_nil)
        (fun _ _ _ _ _ => by exact (by
          refine pe_callTy call_tuple_of (by rfl) mt (by decide +kernel) (pa_cons ?_ pa_nil)
          refine pe_lc (wi := iTup K (tVar 2)) (own := [("way", 3)]) (g := gName 3) (tt := tYes) (te := tCB (rTupOf K) (tCons (tLc (iTup K (tVar 3)) (gName 4) tYes (tOp (rI CMul fun i j => .int (i * j)) (tVar 4) (tVar 1)) [4]) tNil)) ?_ ?_ ?_ ?_ ?_ ?_ ?_
          · rfl
          · exact scTimes.nd
          · exact (pi_tup (pv 2))
          · exact blkOk_by (N := ["house", "m", "ask", "way", "number"]) (sc := lcSc [(".0", .local), ("ask", .local), ("tuple", .globalImplicit), ("m", .cell)]) (by decide +kernel)
          · exact fun _ _ _ _ _ => by exact (pg_name (i := 3) scTimes.nd rfl (.inl rfl))
          · exact fun _ _ _ _ _ => pts_nil
          · exact fun _ _ _ _ _ => by exact (by
          refine pe_callTy call_tuple_of (by rfl) mt (by decide +kernel) (pa_cons ?_ pa_nil)
          refine pe_lc (wi := iTup K (tVar 3)) (own := [("number", 4)]) (g := gName 4) (tt := tYes) (te := tOp (rI CMul fun i j => .int (i * j)) (tVar 4) (tVar 1)) ?_ ?_ ?_ ?_ ?_ ?_ ?_
          · rfl
          · exact scTimes.nd
          · exact (pi_tup (pv 3))
          · exact blkOk_by (N := ["house", "m", "ask", "way", "number"]) (sc := lcSc [(".0", .local), ("way", .local), ("tuple", .globalImplicit), ("m", .cell)]) (by decide +kernel)
          · exact fun _ _ _ _ _ => by exact (pg_name (i := 4) scTimes.nd rfl (.inl rfl))
          · exact fun _ _ _ _ _ => pts_nil
          · exact fun _ _ _ _ _ => by exact pe_op op_mul (pv 4) (pv 1))))) pa_nil)))), ?_⟩
    -- sem
    have few := o.few
    obtain ⟨a, xs, rfl, hT, dxs⟩ := tupD_of dx
    refine ⟨_, rfl, a, rfl, ⟨_, hT⟩, fun D nD => ?_⟩
    refine lc_tupD (S := h) (f := askD) (h := askD) (w := List.map (List.map (· * m))) hT dxs nD (by omega) (fun _ => rfl) noL_ask (fun i1 x t H1 s1 ht dt Q' q' => ?_) (fun H1 ps s1 hD dps => tup_new hD dps fun v H2 s2 dv => q v H2 (s1.trans s2) dv)
    have mt' := List.mem_of_getElem? ht
    have t5 := o.five t mt'
    obtain ⟨c, cs, rfl, hC, dcs⟩ := tupD_of dt
    refine ⟨_, rfl, c, rfl, ⟨_, hC⟩, fun G nG => ?_⟩
    refine lc_tupD (S := t) (f := wayD) (h := wayD) (w := List.map (· * m)) hC dcs nG (by omega) (fun _ => rfl) noL_way (fun i2 x l H2 s2 hl dl Q2 q2 => ?_) (fun H2 ps s2 hG dps => tup_new hG dps fun v H3 s3 dv => q' v H3 (s2.trans s3) dv)
    obtain ⟨la, rfl, hL⟩ := way_of dl
    have l4 := o.w4 mt' (List.mem_of_getElem? hl)
    refine ⟨_, rfl, la, rfl, ⟨_, hL⟩, fun G3 nG3 => ?_⟩
    refine lc_tupD (S := l) (f := PyData.int) (h := PyData.int) (w := (· * m)) hL (dpAll_ints l) nG3 (by omega) (fun _ => rfl) noL_int (fun i3 x z H3 s3 hz dz Q3 q3 => ?_) (fun H3 ps s3 hG dps => tup_new hG dps fun v H4 s4 dv => q2 v H4 (s3.trans s4) dv)
    cases dz
    exact ⟨_, rfl, _, rfl, _, _, rfl, rfl, .inr ⟨by omega, by omega⟩, q3 _ H3 (Same.refl _) (.int _)⟩
end
/-! ### k45: the law's own houses, wide and many times -/
def sWideL : Stmt := topS 21
def sManyL : Stmt := topS 22
def wideH (a b : Nat) (h : Asks) : Asks := h.map (List.map (wideW a b))
def spWideL (K : PySem.W.Frag) : Sp := fun vs H Q _ => ∃ (x : V) (h : Asks) (kd a b : Nat), vs = [x, .int (a : Int), .int (b : Int)] ∧ Dp K H x (houseD h) ∧ HsOk h kd ∧ a ≤ 10 ∧ b ≤ 10 ∧ ∀ v H', Same H H' → Dp K H' v (houseD (wideH a b h)) → Q v H'
def spManyL (K : PySem.W.Frag) : Sp := fun vs H Q _ => ∃ (x : V) (h : Asks) (kd : Nat) (m : Int), vs = [x, .int m] ∧ Dp K H x (houseD h) ∧ HsOk h kd ∧ 0 ≤ m ∧ m ≤ 1000 ∧ ∀ v H', Same H H' → Dp K H' v (houseD (timesH m h)) → Q v H'
section
variable {P : Program} {w : World} {K : PySem.W.Frag} {mg : Str → Option Value} {base : Heap}
theorem scWideL : FnScope ["house", "ahead", "behind", "found", "ask", "way"] ["house", "ahead", "behind"] (defScope sWideL) := ⟨rfl, rfl, rfl, by decide +kernel, rfl, by decide +kernel, by decide +kernel⟩
theorem ok_wideL {f : Addr} {fd : FuncData} {k : Nat} (F : Fun K "_law_wide" "_law_wide" sWideL f fd) (mt : mg "tuple" = none) : FnOk P w K mg base CX0 (k + 1) f fd ["house", "ahead", "behind"] (spWideL K) := by
  refine F.ok scWideL (fun vs H Q E h => ?_) (fun cdv A outer s H vs Q E hr h => ?_)
  · obtain ⟨x, h, kd, a, b, rfl, _⟩ := h
    rfl
  · obtain ⟨x, h, kd, a, b, rfl, dx, o, a10, b10, q⟩ := h
    refine ⟨_, pss_cons (ps_set (i := 3) scWideL.nd rfl (.inl rfl) (pe_lst pa_nil))
      (pss_cons (ps_for PassesOwn.never rfl (pi_tup (pv 0)) (pg_name (i := 4) scWideL.nd rfl (.inl rfl)) (pss_one (ps_expr (pe_bm PySem.F.plainAttrs_list PySem.F.slot_list_append PySem.F.type_list_append mt_append (pv 3) (pa_cons (pe_callTy call_tuple_of (by rfl) mt (by decide +kernel) (pa_cons (pe_lc (own := [("way", 5)]) (g := gName 5) (tt := tYes) (te := (tOp (rCatN K) (tOp (rCatN K) (tOp (rRepZ K) (tTup (tCons (tC (.int 0)) tNil)) (tVar 1)) (tVar 5)) (tOp (rRepZ K) (tTup (tCons (tC (.int 0)) tNil)) (tVar 2)))) rfl scWideL.nd (pi_tup (pv 4))
        (blkOk_by (N := ["house", "ahead", "behind", "found", "ask", "way"]) (sc := defScope sWideL) (by decide +kernel)) (fun _ _ _ _ _ => by exact (pg_name (i := 5) scWideL.nd rfl (.inl rfl))) (fun _ _ _ _ _ => pts_nil)
        (fun _ _ _ _ _ => by exact (pe_op op_catN (pe_op op_catN (pe_op op_repZ (pe_tup (pa_cons pe_int pa_nil)) (pv 1)) (pv 5)) (pe_op op_repZ (pe_tup (pa_cons pe_int pa_nil)) (pv 2))))) pa_nil)) pa_nil)))))
      (pss_one (ps_ret (pe_callTy call_tuple_of (by rfl) mt (by decide +kernel) (pa_cons (pv 3) pa_nil))))), ?_⟩
    -- sem
    have few := o.few
    obtain ⟨ha, xs, rfl, hT, dxs⟩ := tupD_of dx
    have lxs := dpAll_len dxs
    rw [List.length_map] at lxs
    refine ⟨by show 0 ≤ sizeLine; decide, fun F0 nF => ?_⟩
    have sF := same_upd (o := .lst []) nF
    refine ⟨_, rfl, ha, rfl, ⟨_, sF.seqT hT⟩, ?_⟩
    refine for_tup (K := K) (a := ha) (xs := xs) (fun i σ H1 => ∃ (y4 : Option V) (ps : List V), σ = [some (.ref ha), some (.int (a : Int)), some (.int (b : Int)), some (.ref F0), y4, none] ∧ Same H H1 ∧ H1 F0 = some (.lst ps) ∧ DpAll K H1 ps (((h.take i).map (List.map (wideW a b))).map askD))
      ⟨none, [], rfl, sF, upd_same, .nil⟩ (fun i σ H1 _ ⟨_, _, _, s1, _⟩ => s1.seqT hT) ?_ ?_
    · rintro i v σ H1 hi ⟨y4, ps, rfl, s1, hF, dps⟩
      obtain ⟨d, hd, dv⟩ := dpAll_get (dpAll_same s1 dxs) hi
      rw [List.getElem?_map] at hd
      obtain ⟨t, ht, rfl⟩ := Option.map_eq_some_iff.mp hd
      have mt' := List.mem_of_getElem? ht
      have ilt := (List.getElem?_eq_some_iff.mp ht).1
      have t5 := o.five t mt'
      have lps := dpAll_len dps
      simp only [List.length_map, List.length_take] at lps
      obtain ⟨c, cs, rfl, hC, dcs⟩ := tupD_of dv
      refine ⟨_, rfl, .inl ⟨rfl, _, SqL.of hF⟩, _, rfl, c, rfl, ⟨_, hC⟩, fun G nG => ?_⟩
      refine lc_tupD (S := t) (f := wayD) (h := wayD) (w := wideW a b) hC dcs nG (by omega) (fun _ => rfl) noL_way (fun m2 x2 l H2 s2 hl dl Q2 q2 => ?_) (fun H2 ps2 s2 hG dps2 => ⟨G, ps2, rfl, .inl ⟨SqL.of hG, fun u nu => ?_⟩⟩)
      · obtain ⟨la, rfl, hL⟩ := way_of dl
        have l4 := o.w4 mt' (List.mem_of_getElem? hl)
        refine ⟨by show 1 ≤ sizeLine; decide, fun z1 n1 => ?_⟩
        have s3 := same_upd (o := .tup [V.int 0]) n1
        refine ⟨_, rfl, z1, (a : Int), V.int 0, rfl, rfl, SqT.of upd_same, by omega, by omega, fun p1 H3 s4 h1 => ?_⟩
        rw [Int.toNat_natCast] at h1
        refine ⟨_, rfl, p1, la, _, _, rfl, rfl, h1, (s3.trans s4).seqT hL, by rw [List.length_map, List.length_replicate, sizeLine_eq]; omega, fun p2 H4 s5 h2 => ?_⟩
        refine ⟨by show 1 ≤ sizeLine; decide, fun z2 n2 => ?_⟩
        have s6 := same_upd (o := .tup [V.int 0]) n2
        refine ⟨_, rfl, z2, (b : Int), V.int 0, rfl, rfl, SqT.of upd_same, by omega, by omega, fun p3 H5 s7 h3 => ?_⟩
        rw [Int.toNat_natCast] at h3
        refine ⟨p2, p3, _, _, rfl, rfl, (s6.trans s7).seqT h2, h3, by rw [List.length_append, List.length_map, List.length_replicate, List.length_replicate, sizeLine_eq]; omega, fun p4 H6 s8 h4 => ?_⟩
        refine q2 _ H6 ((((s3.trans s4).trans s5).trans (s6.trans s7)).trans s8) (of_way ?_)
        unfold wideW
        rw [List.map_append, List.map_append, List.map_replicate, List.map_replicate]
        exact h4
      · have s3 := same_upd (o := .tup ps2) nu
        have dv := dp_tup nu dps2
        have hF3 := s3 _ _ (s2 _ _ hF)
        refine ⟨F0, ps, _, rfl, rfl, hF3, small_line (by omega), ?_⟩
        refine ⟨_, ps ++ [.ref u], rfl, fun b' o' e' => ?_, upd_same, ?_⟩
        · rw [upd_ne (ne_of_none e' nF)]
          exact s3 _ _ (s2 _ _ (s1 _ _ e'))
        · rw [take_snoc ht, List.map_append]
          exact dpAll_put hF3 (dpAll_app1 (dpAll_same (s2.trans s3) dps) dv) (noLAll_map noL_ask _)
    · rintro σ H1 ⟨y4, ps, rfl, s1, hF, dps⟩
      rw [lxs, List.take_length] at dps
      exact ⟨_, rfl, tup_new hF dps fun v H2 s2 dv => q v H2 (s1.trans s2) dv⟩
theorem scManyL : FnScope ["house", "many", "found", "ask", "way", "one"] ["house", "many"] (defScope sManyL) := ⟨rfl, rfl, rfl, by decide +kernel, rfl, by decide +kernel, by decide +kernel⟩
theorem ok_manyL {f : Addr} {fd : FuncData} {k : Nat} (F : Fun K "_law_many_times" "_law_many_times" sManyL f fd) (mt : mg "tuple" = none) : FnOk P w K mg base CX0 (k + 1) f fd ["house", "many"] (spManyL K) := by
  refine F.ok scManyL (fun vs H Q E h => ?_) (fun cdv A outer s H vs Q E hr h => ?_)
  · obtain ⟨x, h, kd, m, rfl, _⟩ := h
    rfl
  · obtain ⟨x, h, kd, m, rfl, dx, o, m0, m1, q⟩ := h
    refine ⟨_, pss_cons (ps_set (i := 2) scManyL.nd rfl (.inl rfl) (pe_lst pa_nil))
      (pss_cons (ps_for PassesOwn.never rfl (pi_tup (pv 0)) (pg_name (i := 3) scManyL.nd rfl (.inl rfl)) (pss_one (ps_expr (pe_bm PySem.F.plainAttrs_list PySem.F.slot_list_append PySem.F.type_list_append mt_append (pv 2) (pa_cons (pe_callTy call_tuple_of (by rfl) mt (by decide +kernel) (pa_cons (pe_lc (own := [("way", 4)]) (g := gName 4) (tt := tYes) (te := (tCB (rTupOf K) (tCons (tLc (iTup K (tVar 4)) (gName 5) tYes (tOp (rI CMul fun i j => .int (i * j)) (tVar 1) (tVar 5)) [5]) tNil))) rfl scManyL.nd (pi_tup (pv 3))
        (blkOk_by (N := ["house", "many", "found", "ask", "way", "one"]) (sc := defScope sManyL) (by decide +kernel)) (fun _ _ _ _ _ => by exact (pg_name (i := 4) scManyL.nd rfl (.inl rfl))) (fun _ _ _ _ _ => pts_nil)
        (fun _ _ _ _ _ => by exact (by
          refine pe_callTy call_tuple_of (by rfl) mt (by decide +kernel) (pa_cons ?_ pa_nil)
          refine pe_lc (wi := iTup K (tVar 4)) (own := [("one", 5)]) (g := gName 5) (tt := tYes) (te := tOp (rI CMul fun i j => .int (i * j)) (tVar 1) (tVar 5)) ?_ ?_ ?_ ?_ ?_ ?_ ?_
          · rfl
          · exact scManyL.nd
          · exact (pi_tup (pv 4))
          · exact blkOk_by (N := ["house", "many", "found", "ask", "way", "one"]) (sc := lcSc [(".0", .local), ("way", .local), ("tuple", .globalImplicit), ("many", .cell)]) (by decide +kernel)
          · exact fun _ _ _ _ _ => by exact (pg_name (i := 5) scManyL.nd rfl (.inl rfl))
          · exact fun _ _ _ _ _ => pts_nil
          · exact fun _ _ _ _ _ => by exact pe_op op_mul (pv 1) (pv 5)))) pa_nil)) pa_nil)))))
      (pss_one (ps_ret (pe_callTy call_tuple_of (by rfl) mt (by decide +kernel) (pa_cons (pv 2) pa_nil))))), ?_⟩
    -- sem
    have few := o.few
    obtain ⟨ha, xs, rfl, hT, dxs⟩ := tupD_of dx
    have lxs := dpAll_len dxs
    rw [List.length_map] at lxs
    refine ⟨by show 0 ≤ sizeLine; decide, fun F0 nF => ?_⟩
    have sF := same_upd (o := .lst []) nF
    refine ⟨_, rfl, ha, rfl, ⟨_, sF.seqT hT⟩, ?_⟩
    refine for_tup (K := K) (a := ha) (xs := xs) (fun i σ H1 => ∃ (y3 : Option V) (ps : List V), σ = [some (.ref ha), some (.int m), some (.ref F0), y3, none, none] ∧ Same H H1 ∧ H1 F0 = some (.lst ps) ∧ DpAll K H1 ps (((h.take i).map (List.map (List.map (· * m)))).map askD))
      ⟨none, [], rfl, sF, upd_same, .nil⟩ (fun i σ H1 _ ⟨_, _, _, s1, _⟩ => s1.seqT hT) ?_ ?_
    · rintro i v σ H1 hi ⟨y3, ps, rfl, s1, hF, dps⟩
      obtain ⟨d, hd, dv⟩ := dpAll_get (dpAll_same s1 dxs) hi
      rw [List.getElem?_map] at hd
      obtain ⟨t, ht, rfl⟩ := Option.map_eq_some_iff.mp hd
      have mt' := List.mem_of_getElem? ht
      have ilt := (List.getElem?_eq_some_iff.mp ht).1
      have t5 := o.five t mt'
      have lps := dpAll_len dps
      simp only [List.length_map, List.length_take] at lps
      obtain ⟨c, cs, rfl, hC, dcs⟩ := tupD_of dv
      refine ⟨_, rfl, .inl ⟨rfl, _, SqL.of hF⟩, _, rfl, c, rfl, ⟨_, hC⟩, fun G nG => ?_⟩
      refine lc_tupD (S := t) (f := wayD) (h := wayD) (w := List.map (· * m)) hC dcs nG (by omega) (fun _ => rfl) noL_way (fun m2 x2 l H2 s2 hl dl Q2 q2 => ?_) (fun H2 ps2 s2 hG dps2 => ⟨G, ps2, rfl, .inl ⟨SqL.of hG, fun u nu => ?_⟩⟩)
      · obtain ⟨la, rfl, hL⟩ := way_of dl
        have l4 := o.w4 mt' (List.mem_of_getElem? hl)
        refine ⟨_, rfl, la, rfl, ⟨_, hL⟩, fun G3 nG3 => ?_⟩
        refine lc_tupD (S := l) (f := PyData.int) (h := PyData.int) (w := (· * m)) hL (dpAll_ints l) nG3 (by omega) (fun _ => rfl) noL_int (fun i3 x z H3 s3 hz dz Q3 q3 => ?_) (fun H3 ps s3 hG dps => tup_new hG dps fun v H4 s4 dv => q2 v H4 (s3.trans s4) dv)
        cases dz
        refine ⟨_, rfl, _, rfl, _, _, rfl, rfl, .inl ⟨by omega, by omega⟩, q3 _ H3 (Same.refl _) ?_⟩
        rw [Int.mul_comm]
        exact .int _
      · have s3 := same_upd (o := .tup ps2) nu
        have dv := dp_tup nu dps2
        have hF3 := s3 _ _ (s2 _ _ hF)
        refine ⟨F0, ps, _, rfl, rfl, hF3, small_line (by omega), ?_⟩
        refine ⟨_, ps ++ [.ref u], rfl, fun b' o' e' => ?_, upd_same, ?_⟩
        · rw [upd_ne (ne_of_none e' nF)]
          exact s3 _ _ (s2 _ _ (s1 _ _ e'))
        · rw [take_snoc ht, List.map_append]
          exact dpAll_put hF3 (dpAll_app1 (dpAll_same (s2.trans s3) dps) dv) (noLAll_map noL_ask _)
    · rintro σ H1 ⟨y3, ps, rfl, s1, hF, dps⟩
      rw [lxs, List.take_length] at dps
      exact ⟨_, rfl, tup_new hF dps fun v H2 s2 dv => q v H2 (s1.trans s2) dv⟩
end
/-! ### what is shown (repr) asks that no showing is under way: a def's promise where the guards are known to be none -/
def Around.calmG (A : Around) : Prop := A.guards = some []
structure FnG (P : Program) (w : World) (K : PySem.W.Frag) (mg : Str → Option Value) (base : Heap) (k : Nat) (f : Addr) (fd : FuncData) (ps : List Str) (sp : Sp) : Prop where
  len : ∀ vs H Q E, sp vs H Q E → vs.length = ps.length
  run : ∀ (A : Around), Around.calmG A → Room k A → ∀ (outer : List Env) (s : Shared) (H : Hp) (args : Args) (us : List Value) (vs : List V) (Q : VK) (E : XK),
    Env0 P w K mg base A outer s H → BindsTo s fd args (ps.zip us) → Vals vs us → sp vs H Q E → codeAny (model P w) A (.call (.ref f) args) (CR CX0 outer P w H s Q E) s
section
variable {P : Program} {w : World} {K : PySem.W.Frag} {mg : Str → Option Value} {base : Heap}
theorem fnG_of_ok {k : Nat} {f : Addr} {fd : FuncData} {ps : List Str} {sp : Sp} (F : FnOk P w K mg base CX0 k f fd ps sp) : FnG P w K mg base k f fd ps sp :=
  ⟨F.len, fun A _ r outer s H args us vs Q E => F.run A outer s H args us vs Q E r⟩
theorem FnG.mono {j k : Nat} {f : Addr} {fd : FuncData} {ps : List Str} {sp : Sp} (F : FnG P w K mg base j f fd ps sp) (h : j ≤ k) : FnG P w K mg base k f fd ps sp :=
  ⟨F.len, fun A g r => F.run A g (r.mono h)⟩
/-- a body walked where no showing is under way -/
theorem fnG_body {x qual : Str} {st : Stmt} {f : Addr} {fd : FuncData} {N ps : List Str} {k : Nat} {sp : Sp} (F : Fun K x qual st f fd) (S : FnScope N ps (defScope st)) (len : ∀ vs H Q E, sp vs H Q E → vs.length = ps.length)
    (walk : ∀ (cdv : Value) (A : Around), Around.calmG A → ∀ (outer : List Env) (s : Shared) (H : Hp) (vs : List V) (Q : VK) (E : XK), Room k (A.deeper (envOfC qual (defScope st) s.heap.objs.size f cdv)) → sp vs H Q E →
      ∃ t, PSs (cxOf CX0 P w K mg base N qual (defScope st) f cdv A outer s H E).nox (defBody st) t ∧ t { nx := fun _ H' => Q .non H', rt := Q } (start N vs) H) :
    FnG P w K mg base (k + 1) f fd ps sp := by
  refine ⟨len, fun A g room outer s H args us vs Q E at0 bnd vals wants => ?_⟩
  obtain ⟨oc, od, kV, doc, pm, an, cdv, ct, osl, rfl, there, code⟩ := F.ex
  have sizes := len _ _ _ _ wants
  have inK : K.In s.heap := at0.mod.kin.keeps fun b o q => (at0.bs b o q).1
  have noLim : s.heap.NoLimit := at0.mod.nolimit.keeps fun b o q => (at0.bs b o q).1
  have params : ∀ y ∈ ps.zip us, (defScope st).names.lookup y.1 = some .local ∨ ((defScope st).names.lookup y.1 = some .cell ∧ ((cellsFrom (s.heap.objs.size + 1) (defScope st).names []).lookup y.1).isSome = true) := by
    rintro ⟨n, v⟩ hy
    have hn : n ∈ ps := (List.of_mem_zip hy).1
    exact (S.par n hn).imp id fun q => ⟨q, PySem.W.cellsFrom_some _ _ _ (.inl q)⟩
  refine codeAny_call_function room.depth (inK _ _ there) rfl S.co S.gen rfl (PySem.W.codeRec_of inK code) (bnd _ _ _ _ (wpAny_newFunctionEnv_cells S.kind params fun env eqv s1 inside => ?_))
  subst eqv
  obtain ⟨t, good, reads⟩ := walk cdv A g outer s H vs Q E (room.deeper _) wants
  have inv : Inv (cxOf CX0 P w K mg base N qual (defScope st) f cdv A outer s H E) [] (start N vs) H s1 := inv_start S room.hd at0 sizes vals inside
  refine ⟨noLim.keeps inside.toInCall.keep, codeAny_func (wpAny_mono (good.nox.run [] s1 (start N vs) H _ inv reads) (fun ends s' after => ?_) fun _ _ bad => bad)⟩
  cases ends with
  | ret u =>
    obtain ⟨v, σ', H', J, rv, q⟩ := after
    exact ⟨v, H', J.os, J.bare, J.base, J.hok, rv, q⟩
  | next =>
    obtain ⟨σ', H', J, q⟩ := after
    exact ⟨.non, H', J.os, J.bare, J.base, J.hok, rfl, q⟩
  | brk => exact (after.elim fun _ z => z.elim fun _ z => z.2).elim
  | cont => exact (after.elim fun _ z => z.elim fun _ z => z.2).elim
end
theorem calmG_deeper {A : Around} (g : Around.calmG A) (env : Env) : Around.calmG (A.deeper env) := g
section
variable {X : Cx}
/-- a call, made where no showing is under way, of a def that may show -/
theorem pe_callG {k : Nat} {f : Addr} {fd : FuncData} {ps : List Str} {sp : Sp} {x : Str} {p pos : Pos} {e : Expr} {es : List Expr} {t : TA} (F : FnG X.prog X.w X.K X.mg X.base k f fd ps sp) (g : Around.calmG X.A) (room : Room k X.A) (hg : Gl X x) (hm : X.mg x = some (.ref f))
    (hk : PySem.W.keepIn X.K (.ref f) = true) (hb : Binds X.K fd ps []) (ha : PA X (e :: es) t) (hdb : (x == ("__debug__" : Str)) = false := by decide)
    (he : starEach (e :: es) X.env = (false, eval e X.env) :: starEach es X.env := by rfl) (hpl : (backTo pos (starEach es X.env)).any (·.1) = false := by rfl) : PE X (.Call (.Name x p) (e :: es) [] pos) (tCall sp [] E0 t) := by
  refine ⟨fun pins s σ H Q I h => wpAny_Call_Name_kw (ld_glob I hg hm ?_ hdb)⟩
  refine PySem.W.callWith_K (h₀ := X.base) I.ok.mod.kin hk (thn (ha.run pos pins s σ H _ I h) fun us s1 ⟨vs, H1, I1, r, q⟩ => ⟨I1.kIn, ?_⟩) he hpl
  have r2 : Vals (vs ++ []) (us ++ []) := r.append .nil
  have sizes : (us ++ []).length = ps.length := by rw [← r2.length]; exact F.len _ _ _ _ q
  refine wpAny_call (codeAny_mono (F.run X.A g room X.stack s1 H1 ⟨us, []⟩ (us ++ []) (vs ++ []) Q E0 I1.env0 (hb s1 us I1.kIn sizes) r2 q) fun r s' after => ?_)
  match r, after with
  | .error e, bad => exact bad.elim
  | .ok (.ret u), good => exact I1.after good
  | .ok .next, bad => exact bad.elim
  | .ok .brk, bad => exact bad.elim
  | .ok .cont, bad => exact bad.elim
/-- repr of data -/
def rShow (K : PySem.W.Frag) : List V → Hp → VK → Prop := fun xs H Q => ∃ (a : Addr) (d : PyData), xs = [V.ref a] ∧ Dp K H (.ref a) d ∧ d.showable = true ∧ d.hasDict = false ∧ d.depth ≤ 20 ∧ d.shown.length ≤ sizeLine ∧ Q (.str d.shown) H
theorem call_show {k : Nat} (g : Around.calmG X.A) (room : Room k X.A) : CallR X (.builtin "repr") (rShow X.K) := by
  intro pins s σ H xs us Q I r h
  obtain ⟨a, d, rfl, hd, h1, h2, h3, h4, q⟩ := h
  obtain ⟨u, rfl, ru⟩ := vals1 r
  obtain ⟨as, reads⟩ := Dp.reads I d _ _ hd ru
  cases ru
  have hu := room.un
  exact repr_of_reads' reads h1 (PyData.noDict_hsm h2) g (by omega) (fun _ _ e => e) (fun h' u tk keeps => ⟨.str d.shown, H, I.kept keeps, ⟨u, rfl⟩, q⟩) h4
end
/-! ### the law's own call, by a promise where no showing is under way -/
theorem law_calledG {P : Program} {w : World} {K : PySem.W.Frag} {mg mb : Str → Option Value} {k : Nat} {fa a : Addr} {fd : FuncData} {x : Str} {sp : Sp} {s : Shared} {vs : List Value} {ns : List Int}
    (inK : K.In s.heap) (nsG : s.heap.Ns mainGlobals mg) (nsB : s.heap.Ns builtinsNs mb) (boot : ∀ x : Str, x ≠ "__name__" → mb x = bootBuiltins x) (noLim : s.heap.NoLimit) (gens : s.gens = #[])
    (obj : s.heap.get? a = some { cls := .type "list", data := .seq vs.toArray }) (areI : IntsAre vs ns) (short : ns.length ≤ sizeLine) (room : Room k callerA)
    (F : ∀ base : Heap, K.In base → base.Ns mainGlobals mg → FnG P w K mg base k fa fd [x] sp) (bnd : ∀ (s : Shared) (u : Value), BindsTo s fd ⟨[u], []⟩ [(x, u)])
    (wants : ∀ H : Hp, Only H → SqL K H a (ns.map V.int) → sp [.ref a] H (fun v _ => v = .bl true) E0) :
    codeAny (model P w) callerA (.call (.ref fa) ⟨[.ref a], []⟩) (fun r s' => r = .ok (.ret (.bool true)) ∧ OldK s.heap s'.heap ∧ s'.os = s.os ∧ AllBare s'.gens) s := by
  have vals := vals_ints areI
  -- either nothing is tracked, or the script alone, known to the object
  have go : ∀ H : Hp, Only H → SqL K H a (ns.map V.int) → HOk P w H s.heap → (∀ b, H b = none ∨ (b = a ∧ K.lookup a = none)) →
      codeAny (model P w) callerA (.call (.ref fa) ⟨[.ref a], []⟩) (fun r s' => r = .ok (.ret (.bool true)) ∧ OldK s.heap s'.heap ∧ s'.os = s.os ∧ AllBare s'.gens) s := by
    intro H only seq hok few
    have dictFree : ∀ {b : Addr} {o : Obj} {es : Array DictEntry} {ep : Nat}, s.heap.get? b = some o → o.data = .dict es ep → H b = none := by
      intro b o es ep e d
      refine (few b).elim id fun ⟨hb, _⟩ => ?_
      subst hb
      rw [obj] at e
      cases e
      exact nomatch d
    have nsH : ∀ {b : Addr} {m : Str → Option Value}, s.heap.Ns b m → (hidT s.heap H).Ns b m := by
      rintro b m ⟨o, es, ep, e, d, r⟩
      exact ⟨o, es, ep, hidT_get e (dictFree e d), d, r⟩
    have kH : K.In (hidT s.heap H) := fun b o e => hidT_get (inK b o e) ((few b).elim id fun ⟨hb, noK⟩ => by rw [hb, noK] at e; cases e)
    have modH : Mod K mg (hidT s.heap H) := ⟨kH, nsH nsG, ⟨mb, nsH nsB, boot⟩, noLim.elim fun mc h => ⟨mc, nsH h.1, h.2⟩⟩
    have start0 : Env0 P w K mg (hidT s.heap H) callerA [] s H :=
      { frames := rfl, mod := modH, bs := fun b o e => of_hidT e, bsz := Nat.le_of_eq (hidT_size _ _), funs := trivial, frf := fun b hb => (List.not_mem_nil hb).elim, hok := hok, bare := .of_eq gens }
    refine codeAny_mono ((F _ kH (nsH nsG)).run callerA rfl room [] s H ⟨[.ref a], []⟩ [.ref a] [.ref a] _ _ start0 (bnd s (.ref a)) (.cons rfl .nil) (wants H only seq)) fun r s' after => ?_
    match r, after with
    | .error e, bad => exact bad.elim
    | .ok .next, bad => exact bad.elim
    | .ok .brk, bad => exact bad.elim
    | .ok .cont, bad => exact bad.elim
    | .ok (.ret u), ⟨v, H', os, bare, un, hok', rv, isT⟩ =>
      obtain rfl : v = .bl true := isT
      obtain rfl : u = Value.bool true := rv
      refine ⟨rfl, OldK.of_keep fun b o e => ?_, os, bare⟩
      cases q : H b with
      | none => exact un.keep b o e q (fun z => (List.not_mem_nil (show b ∈ ([] : List Addr) from z)).elim) (by simp)
      | some u =>
        obtain ⟨ob, xs, z⟩ := (only b).resolve_left (by rw [q]; simp)
        obtain ⟨e1, _⟩ := hok b _ z
        obtain ⟨e2, _⟩ := hok' b _ (un.frzs b ob _ z)
        exact (e.symm.trans e1) ▸ e2
  have lenV := areI.length
  by_cases there : ∃ o, K.lookup a = some o
  · obtain ⟨o, ho⟩ := there
    obtain rfl : o = _ := Option.some.inj ((inK a o ho).symm.trans obj)
    exact go (fun _ => none) (fun _ => .inl rfl) (.inr ⟨_, vs.toArray, _, ho, rfl, rfl, rfl, by rw [List.size_toArray, lenV]; exact short, by simpa using vals⟩) (fun b u z => nomatch z) fun _ => .inl rfl
  · have noK : K.lookup a = Option.none := by
      cases e : K.lookup a with
      | none => rfl
      | some o => exact (there ⟨o, e⟩).elim
    refine go (fun b => if b = a then some (.frz { cls := .type "list", data := .seq vs.toArray } (.lst (ns.map V.int))) else Option.none) (fun b => ?_) (.inl (.inr ⟨_, if_pos rfl⟩)) (fun b u z => ?_) fun b => ?_
    all_goals by_cases hb : b = a
    · exact .inr ⟨_, _, if_pos hb⟩
    · exact .inl (if_neg hb)
    · obtain rfl := Option.some.inj (z.symm.trans (if_pos hb))
      subst hb
      exact ⟨obj, by rw [List.length_map]; exact short, vs, _, vals, obj⟩
    · exact nomatch z.symm.trans (if_neg hb)
    · exact .inr ⟨hb, noK⟩
    · exact .inl (if_neg hb)
theorem walkG {l : PySem.W.OpenLaw} {k : Nat} {q : Program} {loose : List Str} {XP : (Str → Option Value) → Heap → Prop} {YP : World → Heap → Prop} {d : DefRec} {K : Params → PySem.W.Frag} {sp : PySem.W.Frag → Sp} {x : Str}
    (most : l.most = some 63) (noDef : d.params.defaults = []) (room : Room k callerA) (hY : ∀ (w : World) (h : Heap), YP w h → (K w.params).In h)
    (F : ∀ (w : World) (mg : Str → Option Value) (fa : Addr) (h : Heap), (K w.params).In h → h.Ns mainGlobals mg → mg d.name = some (.ref fa) → ∃ fd : FuncData, (∀ (s : Shared) (u : Value), BindsTo s fd ⟨[u], []⟩ [(x, u)]) ∧
      ∀ base : Heap, (K w.params).In base → base.Ns mainGlobals mg → FnG l.prog w (K w.params) mg base k fa fd [x] (sp (K w.params)))
    (wants : ∀ (K : PySem.W.Frag) (H : Hp) (a : Addr) (ns : List Int), ns.length ≤ 63 → Only H → SqL K H a (ns.map V.int) → sp K [.ref a] H (fun v _ => v = .bl true) E0) :
    PySem.W.WalkO q loose XP YP l.row.toRowW d [] (fun f vs => PySem.call f vs) := by
  refine Att.attach_call most noDef fun w s₀ s₁ mg mb fa o pm cd doc a vs ns G Y ho hd hcd hmg hobj hints hlen hg => ?_
  obtain ⟨fd, hb, hF⟩ := F w mg fa _ (hY w _ Y) G.T.g hmg
  exact law_calledG (hY w _ Y) G.T.g G.T.b G.T.builtins G.T.nolimit hg hobj hints (Nat.le_trans hlen (by decide)) room hF hb (fun H only seq => wants _ H a ns hlen only seq)
/-! ### what is shown of a house -/
theorem shown_small : ∀ n : Nat, n < 199 → (PyData.shown (.int ((n : Int) - 99))).length ≤ 3 := by decide +kernel
theorem log_small : ∀ n : Nat, n < 199 → ((n : Int) - 99).natAbs.log2 < 1920 := by decide +kernel
theorem shown_int {i : Int} (h : -99 ≤ i ∧ i ≤ 99) : (PyData.shown (.int i)).length ≤ 3 := by
  have := shown_small (i + 99).toNat (by omega)
  rw [show (((i + 99).toNat : Nat) : Int) - 99 = i by omega] at this
  exact this
theorem log_int {i : Int} (h : -99 ≤ i ∧ i ≤ 99) : i.natAbs.log2 < 1920 := by
  have := log_small (i + 99).toNat (by omega)
  rw [show (((i + 99).toNat : Nat) : Int) - 99 = i by omega] at this
  exact this
theorem tupleText_len (ts : List Str) : (tupleText ts).length ≤ piled ts + 3 := by
  cases ts with
  | nil => decide +kernel
  | cons t r =>
    have h := join_length_add (t :: r) (by simp)
    unfold tupleText
    rw [Str.length_append, Str.length_append]
    have e1 : (("(" : Str)).length = 1 := by decide +kernel
    have e2 : ((if (t :: r).length == 1 then ",)" else ")" : String) : Str).length ≤ 2 := by
      split <;> decide +kernel
    omega
theorem piled_le {ts : List Str} {m : Nat} (h : ∀ t ∈ ts, t.length ≤ m) : piled ts ≤ ts.length * (m + 2) := by
  induction ts with
  | nil => simp [piled]
  | cons t r ih =>
    rw [piled_cons, List.length_cons, Nat.add_mul, Nat.one_mul]
    have := h t List.mem_cons_self
    have := ih fun x hx => h x (List.mem_cons_of_mem _ hx)
    omega
theorem shownAll_map {α : Type} {f : α → PyData} {m : Nat} : ∀ {l : List α}, (∀ x ∈ l, (f x).shown.length ≤ m) → (∀ t ∈ PyData.shownAll (l.map f), t.length ≤ m) ∧ (PyData.shownAll (l.map f)).length = l.length
  | [], _ => ⟨fun t ht => by simp [PyData.shownAll] at ht, rfl⟩
  | x :: r, h => by
    obtain ⟨h1, h2⟩ := shownAll_map (l := r) fun y hy => h y (List.mem_cons_of_mem _ hy)
    rw [List.map_cons]
    refine ⟨fun t ht => ?_, ?_⟩
    · have ht' : t = (f x).shown ∨ t ∈ PyData.shownAll (r.map f) := by simpa [PyData.shownAll] using ht
      rcases ht' with rfl | ht'
      · exact h x List.mem_cons_self
      · exact h1 t ht'
    · show (PyData.shownAll (r.map f)).length + 1 = _
      rw [h2] <;> rfl
theorem tuple_shown {α : Type} {f : α → PyData} {m k : Nat} {l : List α} (h : ∀ x ∈ l, (f x).shown.length ≤ m) (hk : l.length ≤ k) : (PyData.shown (.tuple (l.map f))).length ≤ k * (m + 2) + 3 := by
  obtain ⟨h1, h2⟩ := shownAll_map h
  have e : PyData.shown (.tuple (l.map f)) = tupleText (PyData.shownAll (l.map f)) := by simp [PyData.shown]
  rw [e]
  have := tupleText_len (PyData.shownAll (l.map f))
  have p := piled_le h1
  have q := Nat.mul_le_mul_right (m + 2) (h2 ▸ hk : (PyData.shownAll (l.map f)).length ≤ k)
  omega
theorem showAll_map {α : Type} {f : α → PyData} : ∀ {l : List α}, (∀ x ∈ l, (f x).showable = true) → PyData.showableAll (l.map f) = true
  | [], _ => by simp [PyData.showableAll]
  | x :: r, h => by
    rw [List.map_cons]
    simp only [PyData.showableAll, Bool.and_eq_true]
    exact ⟨h x List.mem_cons_self, showAll_map fun y hy => h y (List.mem_cons_of_mem _ hy)⟩
theorem noDictAll_map {α : Type} {f : α → PyData} : ∀ {l : List α}, (∀ x ∈ l, (f x).hasDict = false) → PyData.hasDictAll (l.map f) = false
  | [], _ => by simp [PyData.hasDictAll]
  | x :: r, h => by
    rw [List.map_cons]
    simp only [PyData.hasDictAll, Bool.or_eq_false_iff]
    exact ⟨h x List.mem_cons_self, noDictAll_map fun y hy => h y (List.mem_cons_of_mem _ hy)⟩
theorem depthAll_map {α : Type} {f : α → PyData} {m : Nat} : ∀ {l : List α}, (∀ x ∈ l, (f x).depth ≤ m) → PyData.depthAll (l.map f) ≤ m
  | [], _ => by simp [PyData.depthAll]
  | x :: r, h => by
    rw [List.map_cons]
    simp only [PyData.depthAll]
    have h1 := h x List.mem_cons_self
    have h2 := depthAll_map (m := m) fun y hy => h y (List.mem_cons_of_mem _ hy)
    omega
structure Shows (d : PyData) (m : Nat) (k : Nat) : Prop where
  show_ : d.showable = true
  dict : d.hasDict = false
  depth : d.depth ≤ k
  len : d.shown.length ≤ m
theorem shows_tuple {α : Type} {f : α → PyData} {l : List α} {m k n : Nat} (h : ∀ x ∈ l, Shows (f x) m k) (hn : l.length ≤ n) : Shows (.tuple (l.map f)) (n * (m + 2) + 3) (k + 1) where
  show_ := by simp only [PyData.showable]; exact showAll_map fun x hx => (h x hx).show_
  dict := by simp only [PyData.hasDict]; exact noDictAll_map fun x hx => (h x hx).dict
  depth := by
    simp only [PyData.depth]
    have := depthAll_map fun x hx => (h x hx).depth
    omega
  len := tuple_shown (fun x hx => (h x hx).len) hn
theorem shows_int {i : Int} (h : -99 ≤ i ∧ i ≤ 99) : Shows (.int i) 3 0 where
  show_ := by simp only [PyData.showable]; exact decide_eq_true (log_int h)
  dict := by simp only [PyData.hasDict]
  depth := by simp [PyData.depth]
  len := shown_int h
theorem shows_house {kinds asks ways size : Int} {h : List (List (List Int))} (ok : HouseOk kinds asks ways size h) (k4 : kinds ≤ 4) (a8 : asks ≤ 8) (s99 : size ≤ 99) : Shows (houseD h) 10000 3 := by
  have w : ∀ a ∈ h, ∀ l ∈ a, Shows (wayD l) 23 1 := fun a ha l hl => by
    have okl := (ok.all a ha).all l hl
    have := okl.len
    exact shows_tuple (n := 4) (m := 3) (k := 0) (fun x hx => shows_int (by have := okl.all x hx; omega)) (by omega)
  have s := shows_tuple (f := askD) (n := 8) (m := 128) (k := 2) (fun a ha => shows_tuple (f := wayD) (n := 5) (m := 23) (k := 1) (w a ha) (ok.all a ha).five) (by have := ok.most; omega : h.length ≤ 8)
  exact ⟨s.show_, s.dict, s.depth, Nat.le_trans s.len (by decide)⟩
/-! ### houses as data: alike, laid, of so many levels -/
theorem eqvAll_self {α : Type} {f : α → PyData} (h : ∀ x, PyData.eqv (f x) (f x) = true) : ∀ l : List α, PyData.eqvAll (l.map f) (l.map f) = true
  | [] => rfl
  | a :: l => by
    simp only [List.map_cons, PyData.eqvAll, Bool.and_eq_true]
    exact ⟨h a, eqvAll_self h l⟩
theorem eqv_int_self (i : Int) : PyData.eqv (.int i) (.int i) = true := by simp only [PyData.eqv, beq_self_eq_true]
theorem eqv_house_self (h : Asks) : PyData.eqv (houseD h) (houseD h) = true := by
  unfold houseD
  simp only [PyData.eqv]
  refine eqvAll_self (fun a => ?_) h
  unfold askD
  simp only [PyData.eqv]
  refine eqvAll_self (fun l => ?_) a
  unfold wayD
  simp only [PyData.eqv]
  exact eqvAll_self eqv_int_self l
theorem canLayAll_map {α : Type} {f : α → PyData} (h : ∀ x, (f x).canLay0 = true) : ∀ l : List α, PyData.canLayAll0 (l.map f) = true
  | [] => rfl
  | a :: l => by
    simp only [List.map_cons, PyData.canLayAll0, Bool.and_eq_true]
    exact ⟨h a, canLayAll_map h l⟩
theorem house_lay (h : Asks) : (houseD h).canLay0 = true := by
  unfold houseD
  simp only [PyData.canLay0]
  refine canLayAll_map (fun a => ?_) h
  unfold askD
  simp only [PyData.canLay0]
  refine canLayAll_map (fun l => ?_) a
  unfold wayD
  simp only [PyData.canLay0]
  exact canLayAll_map (fun i => by simp only [PyData.canLay0]) l
theorem way_depth (l : List Int) : (wayD l).depth ≤ 2 := by
  unfold wayD
  simp only [PyData.depth]
  have := depthAll_map (f := PyData.int) (m := 0) (l := l) fun x _ => by simp [PyData.depth]
  omega
theorem ask_depth (a : List (List Int)) : (askD a).depth ≤ 3 := by
  unfold askD
  simp only [PyData.depth]
  have := depthAll_map (f := wayD) (m := 2) (l := a) fun x _ => way_depth x
  omega
theorem house_depth (h : Asks) : (houseD h).depth ≤ 4 := by
  unfold houseD
  simp only [PyData.depth]
  have := depthAll_map (f := askD) (m := 3) (l := h) fun x _ => ask_depth x
  omega
theorem house_shaped (h : Asks) : SeqAt.shaped (houseD h) = true := by
  unfold SeqAt.shaped
  rw [Bool.and_eq_true, decide_eq_true_iff]
  exact ⟨house_lay h, Nat.le_trans (house_depth h) (by decide)⟩
theorem houses_shaped (L : List Asks) : SeqAt.shaped (.list (L.map houseD)) = true := by
  unfold SeqAt.shaped
  rw [Bool.and_eq_true, decide_eq_true_iff]
  refine ⟨by simp only [PyData.canLay0]; exact canLayAll_map house_lay L, ?_⟩
  simp only [PyData.depth]
  have := depthAll_map (f := houseD) (m := 4) (l := L) fun x _ => house_depth x
  omega
theorem okD_house {h : Asks} {kd : Nat} (o : HsOk h kd) (n : Nat) : okD (n + 4) (houseD h) = true := by
  have := o.few
  unfold houseD
  simp only [okD, Bool.and_eq_true, decide_eq_true_eq, List.length_map]
  refine ⟨by omega, okAll_of fun d hd => ?_⟩
  obtain ⟨a, ha, rfl⟩ := List.mem_map.mp hd
  have := o.five a ha
  unfold askD
  simp only [okD, Bool.and_eq_true, decide_eq_true_eq, List.length_map]
  refine ⟨by omega, okAll_of fun d hd => ?_⟩
  obtain ⟨l, hl, rfl⟩ := List.mem_map.mp hd
  have := o.w4 ha hl
  unfold wayD
  simp only [okD, Bool.and_eq_true, decide_eq_true_eq, List.length_map]
  refine ⟨by omega, okAll_of fun d hd => ?_⟩
  obtain ⟨z, _, rfl⟩ := List.mem_map.mp hd
  rfl
theorem okD_houses {L : List Asks} (h : L.length ≤ 1000) (ok : ∀ e ∈ L, ∃ kd, HsOk e kd) (n : Nat) : okD (n + 5) (.list (L.map houseD)) = true := by
  simp only [okD, Bool.and_eq_true, decide_eq_true_eq, List.length_map]
  refine ⟨by omega, okAll_of fun d hd => ?_⟩
  obtain ⟨e, he, rfl⟩ := List.mem_map.mp hd
  obtain ⟨kd, o⟩ := ok e he
  exact okD_house o n
/-- a house by its numbers -/
structure GoodH (h : Asks) (kd : Nat) (s : Int) : Prop where
  one : 1 ≤ h.length
  eight : h.length ≤ 8
  k1 : 1 ≤ kd
  k4 : kd ≤ 4
  all : ∀ a ∈ h, 1 ≤ a.length ∧ a.length ≤ 5 ∧ ∀ l ∈ a, l.length = kd ∧ ∀ z ∈ l, -s ≤ z ∧ z ≤ s
theorem GoodH.ok {h : Asks} {kd : Nat} {s : Int} (g : GoodH h kd s) : HsOk h kd := by
  have o1 := g.one
  have h0 : h[0]? = some (h[0]'(by omega)) := List.getElem?_eq_getElem (by omega)
  have g0 := (g.all _ (List.mem_of_getElem? h0)).1
  refine ⟨⟨_, _, h0, List.getElem?_eq_getElem (by omega)⟩, g.k1, g.k4, fun a ha l hl => ((g.all a ha).2.2 l hl).1, fun a ha => (g.all a ha).2.1, by have := g.eight; omega⟩
theorem GoodH.up {h : Asks} {kd : Nat} {s t : Int} (g : GoodH h kd s) (le : s ≤ t) : GoodH h kd t :=
  ⟨g.one, g.eight, g.k1, g.k4, fun a ha => ⟨(g.all a ha).1, (g.all a ha).2.1, fun l hl => ⟨((g.all a ha).2.2 l hl).1, fun z hz => by have := ((g.all a ha).2.2 l hl).2 z hz; omega⟩⟩⟩
theorem GoodH.app {h g : Asks} {kd : Nat} {s : Int} (a : GoodH h kd s) (b : GoodH g kd s) (e : h.length + g.length ≤ 8) : GoodH (h ++ g) kd s :=
  ⟨by rw [List.length_append]; have := a.one; omega, by rw [List.length_append]; exact e, a.k1, a.k4, fun x hx => (List.mem_append.mp hx).elim (a.all x) (b.all x)⟩
theorem GoodH.wide {h : Asks} {kd a b : Nat} {s : Int} (g : GoodH h kd s) (s0 : 0 ≤ s) (e : a + kd + b ≤ 4) : GoodH (h.map (List.map (wideW a b))) (a + kd + b) s := by
  have := g.k1
  refine ⟨by rw [List.length_map]; exact g.one, by rw [List.length_map]; exact g.eight, by omega, e, fun x hx => ?_⟩
  obtain ⟨y, hy, rfl⟩ := List.mem_map.mp hx
  obtain ⟨h1, h2, h3⟩ := g.all y hy
  refine ⟨by rw [List.length_map]; exact h1, by rw [List.length_map]; exact h2, fun l hl => ?_⟩
  obtain ⟨m, hm, rfl⟩ := List.mem_map.mp hl
  obtain ⟨h4, h5⟩ := h3 m hm
  unfold wideW
  refine ⟨by simp only [List.length_append, List.length_replicate, h4], fun z hz => ?_⟩
  rcases List.mem_append.mp hz with hz | hz
  · rcases List.mem_append.mp hz with hz | hz
    · rw [List.eq_of_mem_replicate hz]
      omega
    · exact h5 z hz
  · rw [List.eq_of_mem_replicate hz]
    omega
theorem wide_beh (b : Nat) : behW b = wideW 0 b := by
  funext l
  unfold behW wideW
  rfl
theorem wide_ahe (a : Nat) : aheW a = wideW a 0 := by
  funext l
  unfold aheW wideW
  rw [List.replicate_zero, List.append_nil]
theorem beside_wide (kd kg : Nat) (h g : Asks) : besideH kd kg h g = h.map (List.map (wideW 0 kg)) ++ g.map (List.map (wideW kd 0)) := by
  unfold besideH
  rw [wide_beh, wide_ahe]
theorem GoodH.beside {h g : Asks} {kd kg : Nat} {s : Int} (a : GoodH h kd s) (b : GoodH g kg s) (s0 : 0 ≤ s) (k : kd + kg ≤ 4) (e : h.length + g.length ≤ 8) : GoodH (besideH kd kg h g) (kd + kg) s := by
  rw [beside_wide]
  have h1 := a.wide (a := 0) (b := kg) s0 (by omega)
  have h2 := b.wide (a := kd) (b := 0) s0 (by omega)
  rw [Nat.zero_add] at h1
  exact h1.app h2 (by rw [List.length_map, List.length_map]; exact e)
theorem mul_rng {z s m : Int} (m0 : 0 ≤ m) (h : -s ≤ z ∧ z ≤ s) : -(s * m) ≤ z * m ∧ z * m ≤ s * m := by
  have h1 := Int.mul_le_mul_of_nonneg_right h.2 m0
  have h2 := Int.mul_le_mul_of_nonneg_right h.1 m0
  rw [Int.neg_mul] at h2
  exact ⟨h2, h1⟩
theorem GoodH.times {h : Asks} {kd : Nat} {s m t : Int} (g : GoodH h kd s) (m0 : 0 ≤ m) (e : s * m ≤ t) : GoodH (timesH m h) kd t := by
  refine ⟨by unfold timesH; rw [List.length_map]; exact g.one, by unfold timesH; rw [List.length_map]; exact g.eight, g.k1, g.k4, fun x hx => ?_⟩
  obtain ⟨y, hy, rfl⟩ := List.mem_map.mp hx
  obtain ⟨h1, h2, h3⟩ := g.all y hy
  refine ⟨by rw [List.length_map]; exact h1, by rw [List.length_map]; exact h2, fun l hl => ?_⟩
  obtain ⟨u, hu, rfl⟩ := List.mem_map.mp hl
  obtain ⟨h4, h5⟩ := h3 u hu
  refine ⟨by rw [List.length_map]; exact h4, fun z hz => ?_⟩
  obtain ⟨v, hv, rfl⟩ := List.mem_map.mp hz
  have := mul_rng m0 (h5 v hv)
  omega
theorem timesH_one (h : Asks) : timesH 1 h = h := by
  have e : (fun z : Int => z * 1) = id := by
    funext z
    exact Int.mul_one z
  unfold timesH
  rw [e, List.map_id_fun, List.map_id_fun]
  exact List.map_id h
theorem timesH_timesH (a b : Int) (h : Asks) : timesH a (timesH b h) = timesH (b * a) h := by
  unfold timesH
  rw [List.map_map]
  refine List.map_congr_left fun x _ => ?_
  show List.map (List.map (· * a)) (List.map (List.map (· * b)) x) = _
  rw [List.map_map]
  refine List.map_congr_left fun l _ => ?_
  show List.map (· * a) (List.map (· * b) l) = _
  rw [List.map_map]
  refine List.map_congr_left fun z _ => ?_
  show z * b * a = z * (b * a)
  exact Int.mul_assoc ..
theorem HouseOk.good {kinds asks ways size : Int} {h : Asks} {kd : Nat} (o : HouseOk kinds asks ways size h) (e : kinds = kd) (k1 : 1 ≤ kd) (k4 : kd ≤ 4) (a8 : asks ≤ 8) : GoodH h kd size := by
  have := o.most
  refine ⟨o.one, by omega, k1, k4, fun a ha => ⟨(o.all a ha).one, (o.all a ha).five, fun l hl => ?_⟩⟩
  have z := (o.all a ha).all l hl
  have := z.len
  exact ⟨by omega, z.all⟩
theorem GoodH.isH {h : Asks} {kd : Nat} (g : GoodH h kd 99) : isHouseD (houseD h) = true := by
  have one := g.one
  have eight := g.eight
  have wy : ∀ a ∈ h, ∀ l ∈ a, isWayD (wayD l) = true := fun a ha l hl => by
    obtain ⟨e, al⟩ := (g.all a ha).2.2 l hl
    have := g.k1
    have := g.k4
    unfold isWayD
    rw [Bool.and_eq_true]
    refine ⟨tupOf_and.mpr ⟨rfl, ?_, ?_⟩, ?_⟩
    · show 1 ≤ (l.map PyData.int).length
      rw [List.length_map]
      omega
    · show (l.map PyData.int).length ≤ 4
      rw [List.length_map]
      omega
    · show (l.map PyData.int).all numD = true
      rw [List.all_map, List.all_eq_true]
      intro z hz
      have := al z hz
      show decide ((if z < 0 then -z else z) ≤ 99) = true
      refine decide_eq_true ?_
      split <;> omega
  have ak : ∀ a ∈ h, isAskD (askD a) = true := fun a ha => by
    obtain ⟨h1, h2, _⟩ := g.all a ha
    unfold isAskD
    rw [Bool.and_eq_true]
    refine ⟨tupOf_and.mpr ⟨rfl, ?_, ?_⟩, ?_⟩
    · show 1 ≤ (a.map wayD).length
      rw [List.length_map]
      exact h1
    · show (a.map wayD).length ≤ 5
      rw [List.length_map]
      exact h2
    · show (a.map wayD).all isWayD = true
      rw [List.all_map, List.all_eq_true]
      exact fun l hl => wy a ha l hl
  unfold isHouseD
  rw [Bool.and_eq_true, Bool.and_eq_true]
  refine ⟨⟨tupOf_and.mpr ⟨rfl, ?_, ?_⟩, ?_⟩, ?_⟩
  · show 1 ≤ (h.map askD).length
    rw [List.length_map]
    exact one
  · show (h.map askD).length ≤ 8
    rw [List.length_map]
    exact eight
  · show (h.map askD).all isAskD = true
    rw [List.all_map, List.all_eq_true]
    exact fun a ha => ak a ha
  · obtain ⟨a0, l0, h0, hl0⟩ := g.ok.ne
    have e0 : (kidsD ((kidsD ((kidsD (houseD h)).headD .none)).headD .none)).length = kd := by
      obtain ⟨r0, rfl⟩ : ∃ r, h = a0 :: r := by
        cases h with
        | nil => cases h0
        | cons x r => exact ⟨r, by rw [Option.some.inj h0]⟩
      obtain ⟨r1, rfl⟩ : ∃ r, a0 = l0 :: r := by
        cases a0 with
        | nil => cases hl0
        | cons x r => exact ⟨r, by rw [Option.some.inj hl0]⟩
      show (l0.map PyData.int).length = kd
      rw [List.length_map]
      exact ((g.all _ List.mem_cons_self).2.2 _ List.mem_cons_self).1
    rw [e0]
    show (h.map askD).all _ = true
    rw [List.all_map, List.all_eq_true]
    intro a ha
    show (a.map wayD).all _ = true
    rw [List.all_map, List.all_eq_true]
    intro l hl
    refine decide_eq_true ?_
    show (l.map PyData.int).length = kd
    rw [List.length_map]
    exact ((g.all a ha).2.2 l hl).1
/- data of tuples stays while two lists change -/
mutual
theorem dp_two {K : PySem.W.Frag} {F G : Addr} {H H' : Hp} {l m : List V} (hF : H F = some (.lst l)) (hG : H G = some (.lst m)) (st : ∀ b o, H b = some o → b ≠ F → b ≠ G → H' b = some o) : ∀ {v : V} {d : PyData}, Dp K H v d → noL d = true → Dp K H' v d
  | _, _, .non, _ => .non
  | _, _, .bl b, _ => .bl b
  | _, _, .int i, _ => .int i
  | _, _, .str x, _ => .str x
  | _, _, .lst q r, h => by simp [noL] at h
  | _, _, .tup q r, h => .tup (by
      rcases q with (q | ⟨o, q⟩) | q
      · exact .inl (.inl (st _ _ q (fun z => by rw [z, hF] at q; cases q) (fun z => by rw [z, hG] at q; cases q)))
      · exact .inl (.inr ⟨o, st _ _ q (fun z => by rw [z, hF] at q; cases q) (fun z => by rw [z, hG] at q; cases q)⟩)
      · exact .inr q) (dpAll_two hF hG st r (by simpa [noL] using h))
theorem dpAll_two {K : PySem.W.Frag} {F G : Addr} {H H' : Hp} {l m : List V} (hF : H F = some (.lst l)) (hG : H G = some (.lst m)) (st : ∀ b o, H b = some o → b ≠ F → b ≠ G → H' b = some o) : ∀ {v : List V} {d : List PyData}, DpAll K H v d → noLAll d = true → DpAll K H' v d
  | _, _, .nil, _ => .nil
  | _, _, .cons q r, h => by
    simp only [noLAll, Bool.and_eq_true] at h
    exact .cons (dp_two hF hG st q h.1) (dpAll_two hF hG st r h.2)
end
/-! ### the law of k45 -/
def sLongR : Stmt := topS 23
def sLaw45 : Stmt := topS 24
def spLongR (K : PySem.W.Frag) : Sp := fun vs H Q _ => ∃ (p c : Addr) (ns : List Int) (n kd : Nat), vs = [.ref p, .int (kd : Int)] ∧ Pen H p c ns n ∧ n + 3000 < penMost ∧ 1 ≤ kd ∧ kd ≤ 3 ∧ ∀ H', Kp p H H' → Pen H' p c ns (n + 1200) → Q (.bl true) H'
def spLaw45 (K : PySem.W.Frag) : Sp := fun vs H Q _ => ∃ (a : Addr) (ns : List Int), vs = [.ref a] ∧ SqL K H a (ns.map V.int) ∧ ns.length ≤ 63 ∧ ∀ H', Q (.bl true) H'
abbrev ttNot (K : PySem.W.Frag) (i : Nat) : TT := tTest (tOp (fun x y H Q => ∃ a b, x = .bl a ∧ y = .bl b ∧ Q (.bl (!decide (a = b))) H) (tCall (spLook K isHouseD) [] E0 (tCons (tVar i) tNil)) (tC (.bl true)))
/-- none of them is no house -/
theorem none_left {K : PySem.W.Frag} {a : Addr} {xs : List V} {L : List Asks} {i : Nat} {vs : List Nat} {σ : L2.St} {H1 : Hp} {D : Addr} {Qd : Hp → Prop} (hL : SqL K H1 a xs) (dx : DpAll K H1 xs (L.map houseD)) (good : ∀ e ∈ L, isHouseD (houseD e) = true) (nD : H1 D = none)
    (hw : ∀ x, wipe ((wipe σ vs).set i (some x)) vs = wipe σ vs) (hi : ∀ x, ((wipe σ vs).set i (some x))[i]? = some (some x)) (hd : ∀ H2, Same H1 H2 → H2 D = some (.lst []) → Qd H2) :
    ∃ W : Nat → Nat → Hp → Prop, (∃ m, W 0 m (upd H1 D (.lst []))) ∧ ∀ i' m H, W i' m H →
      ((Itl K a).stop i' H ∧ Qd H) ∨ ((Itl K a).go i' H ∧ ∃ Nx : Hp → Prop, (∀ H', Nx H' → ∃ m', m' < m ∧ W (i' + 1) m' H') ∧ ∀ x H', (Itl K a).yld i' H x H' → gName i x (wipe σ vs) H' fun σ2 H2 => wipe σ2 vs = wipe σ vs ∧ ttNot K i σ2 H2 fun b H3 =>
        if b = true then tVar i σ2 H3 fun y H4 => ∃ acc, H4 D = some (.lst acc) ∧ acc.length < sizeLine ∧ Nx (upd H4 D (.lst (acc ++ [y]))) else Nx H3) := by
  refine lc_list (K := K) (a := a) (xs := xs) (fun m H2 => Same H1 H2 ∧ H2 D = some (.lst [])) ⟨same_upd nD, upd_same⟩ (fun m H2 _ ⟨s2, _⟩ => s2.seq hL) ?_ ?_
  · rintro m x H2 hx ⟨s2, hD⟩
    obtain ⟨d, hd0, dd⟩ := dpAll_get (dpAll_same s2 dx) hx
    rw [List.getElem?_map] at hd0
    obtain ⟨e, he, rfl⟩ := Option.map_eq_some_iff.mp hd0
    refine ⟨hw x, ?_⟩
    refine ⟨x, hi x, x, houseD e, rfl, dd, fun H3 s3 => ?_⟩
    refine ⟨_, _, rfl, rfl, _, rfl, ?_⟩
    rw [good e (List.mem_of_getElem? he)]
    refine ifF rfl ⟨fun b o e' => s3 _ _ (s2 _ _ e'), s3 _ _ hD⟩
  · rintro H2 ⟨s2, hD⟩
    exact hd H2 s2 hD
theorem empty_eqv : PyData.eqv (.list []) (.list []) = true := by simp only [PyData.eqv, PyData.eqvAll]
theorem empty_shaped : SeqAt.shaped (.list []) = true := houses_shaped []
section
variable {P : Program} {w : World} {K : PySem.W.Frag} {mg : Str → Option Value} {base : Heap}
structure Txt45 (mg : Str → Option Value) (fH fG fB fW fQ fI : Addr) : Prop where
  gH : mg "_law_house" = some (.ref fH)
  gG : mg "together" = some (.ref fG)
  gB : mg "beside" = some (.ref fB)
  gW : mg "_law_wide" = some (.ref fW)
  gQ : mg "_law_same" = some (.ref fQ)
  gI : mg "is_house" = some (.ref fI)
  len : mg "len" = none
structure Fns45 (P : Program) (w : World) (K : PySem.W.Frag) (mg : Str → Option Value) (base : Heap) (fH fG fB fW fQ fI : Addr) (fdH fdG fdB fdW fdQ fdI : FuncData) (k : Nat) : Prop where
  GH : FnOk P w K mg base CX0 k fH fdH ["pen", "kinds", "asks", "ways", "size"] (spHouse K)
  kH : PySem.W.keepIn K (.ref fH) = true
  bH : Binds K fdH ["pen", "kinds", "asks", "ways", "size"] []
  GG : FnOk P w K mg base CX0 k fG fdG ["house", "other"] (spTogether K)
  kG : PySem.W.keepIn K (.ref fG) = true
  bG : Binds K fdG ["house", "other"] []
  GB : FnOk P w K mg base CX0 k fB fdB ["house", "other"] (spBeside K)
  kB : PySem.W.keepIn K (.ref fB) = true
  bB : Binds K fdB ["house", "other"] []
  GW : FnOk P w K mg base CX0 k fW fdW ["house", "ahead", "behind"] (spWideL K)
  kW : PySem.W.keepIn K (.ref fW) = true
  bW : Binds K fdW ["house", "ahead", "behind"] []
  GQ : FnOk P w K mg base CX0 k fQ fdQ ["found", "due"] (spSame K 5)
  kQ : PySem.W.keepIn K (.ref fQ) = true
  bQ : Binds K fdQ ["found", "due"] []
  GI : FnOk P w K mg base CX0 k fI fdI ["thing"] (spLook K isHouseD)
  kI : PySem.W.keepIn K (.ref fI) = true
  bI : Binds K fdI ["thing"] []
theorem scLongR : FnScope ["pen", "kinds", "found", "due", "long", "short", "one", "other"] ["pen", "kinds"] (defScope sLongR) := ⟨rfl, rfl, rfl, by decide +kernel, rfl, by decide +kernel, by decide +kernel⟩
theorem ok_longR {f fH fG fB fW fQ fI : Addr} {fd fdH fdG fdB fdW fdQ fdI : FuncData} {k : Nat} (F : Fun K "_law_long_right" "_law_long_right" sLongR f fd) (T : Txt45 mg fH fG fB fW fQ fI) (c : Fns45 P w K mg base fH fG fB fW fQ fI fdH fdG fdB fdW fdQ fdI k) : FnOk P w K mg base CX0 (k + 1) f fd ["pen", "kinds"] (spLongR K) := by
  refine F.ok scLongR (fun vs H Q E h => ?_) (fun cdv A outer s H vs Q E hr h => ?_)
  · obtain ⟨p, c, ns, n, kd, rfl, _⟩ := h
    rfl
  · obtain ⟨p, cc, ns, n, kd, rfl, hP, hn, k1, k3, q⟩ := h
    refine ⟨_, pss_cons (ps_par (i := 2) (j := 3) rfl scLongR.nd rfl rfl (by decide) rfl rfl (pa_cons (pe_lst pa_nil) (pa_cons (pe_lst pa_nil) pa_nil)) (by rfl))
      (pss_cons (ps_set (i := 4) scLongR.nd rfl (.inl rfl) (pe_call c.GH hr (by rfl) T.gH c.kH c.bH .nil pass0 (pa_cons (pv 0) (pa_cons (pv 1) (pa_cons pe_int (pa_cons pe_int (pa_cons pe_int pa_nil)))))))
      (pss_cons (ps_set (i := 5) scLongR.nd rfl (.inl rfl) (pe_call c.GH hr (by rfl) T.gH c.kH c.bH .nil pass0 (pa_cons (pv 0) (pa_cons (pv 1) (pa_cons (pe_op op_sub pe_int (pe_callB call_len_seq (by rfl) T.len PySem.boot_len (pa_cons (pv 4) pa_nil))) (pa_cons pe_int (pa_cons pe_int pa_nil)))))))
      (pss_cons (ps_for PassesOwn.never rfl (pi_list (pe_lst (pa_cons (pe_tup (pa_cons (pv 4) (pa_cons (pv 5) pa_nil))) (pa_cons (pe_tup (pa_cons (pv 5) (pa_cons (pv 4) pa_nil))) pa_nil)))) (pg_tup rfl (pgs_cons (pg_name (i := 6) scLongR.nd rfl (.inl rfl)) (pgs_cons (pg_name (i := 7) scLongR.nd rfl (.inl rfl)) pgs_nil))) (pss_cons (ps_expr (pe_bm PySem.F.plainAttrs_list PySem.F.slot_list_append PySem.F.type_list_append mt_append (pv 2) (pa_cons (pe_call c.GG hr (by rfl) T.gG c.kG c.bG .nil pass0 (pa_cons (pv 6) (pa_cons (pv 7) pa_nil))) pa_nil)))
      (pss_cons (ps_expr (pe_bm PySem.F.plainAttrs_list PySem.F.slot_list_append PySem.F.type_list_append mt_append (pv 3) (pa_cons (pe_op op_catN (pv 6) (pv 7)) pa_nil)))
      (pss_one (ps_if (pt_cmpR op_lt (pv 1) pe_int (nomark _)) (pss_cons (ps_expr (pe_bm PySem.F.plainAttrs_list PySem.F.slot_list_append PySem.F.type_list_append mt_append (pv 2) (pa_cons (pe_call c.GB hr (by rfl) T.gB c.kB c.bB .nil pass0 (pa_cons (pv 6) (pa_cons (pv 7) pa_nil))) pa_nil)))
      (pss_one (ps_expr (pe_bm PySem.F.plainAttrs_list PySem.F.slot_list_append PySem.F.type_list_append mt_append (pv 3) (pa_cons (pe_op op_catN (pe_call c.GW hr (by rfl) T.gW c.kW c.bW .nil pass0 (pa_cons (pv 6) (pa_cons pe_int (pa_cons (pv 1) pa_nil)))) (pe_call c.GW hr (by rfl) T.gW c.kW c.bW .nil pass0 (pa_cons (pv 7) (pa_cons (pv 1) (pa_cons pe_int pa_nil))))) pa_nil))))) pss_nil)))))
      (pss_one (ps_ret (pe_and (pe_call c.GQ hr (by rfl) T.gQ c.kQ c.bQ .nil pass0 (pa_cons (pv 2) (pa_cons (pv 3) pa_nil))) (pe_one (pe_cmpR (op_eqD hr.units) (pe_lc (own := [("one", 6)]) (g := gName 6) (tt := (ttNot K 6)) rfl scLongR.nd (pi_list (pv 2))
        (blkOk_by (N := ["pen", "kinds", "found", "due", "long", "short", "one", "other"]) (sc := defScope sLongR) (by decide +kernel)) (fun _ _ _ _ _ => by exact (pg_name (i := 6) scLongR.nd rfl (.inl rfl))) (fun _ _ _ _ _ => by exact pts_one (pt_cmpR op_isnot_bl (pe_call c.GI hr (by rfl) T.gI c.kI c.bI .nil pass0 (pa_cons (pv 6) pa_nil)) pe_bl (nomark _)))
        (fun _ _ _ _ _ => by exact (pv 6))) (pe_lst pa_nil) (nomark _))))))))), ?_⟩
    -- sem
    unfold penMost at hn
    refine ⟨by show 0 ≤ sizeLine; decide, fun F0 nF => ?_⟩
    have sF := same_upd (o := .lst []) nF
    refine ⟨by show 0 ≤ sizeLine; decide, fun G0 nG => ?_⟩
    have sG := same_upd (o := .lst []) nG
    have sFG := sF.trans sG
    have nHG : H G0 = none := sF.free nG
    have nFG : F0 ≠ G0 := ne_of_none upd_same nG
    refine ⟨_, _, rfl, ?_⟩
    have hF := sG _ _ (upd_same (H := H) (a := F0) (o := .lst []))
    have hG := upd_same (H := upd H F0 (.lst [])) (a := G0) (o := .lst [])
    have P1 := hP.same sFG
    have npF := (hP.nep nF).1
    have npG := ((hP.same sF).nep nG).1
    generalize upd (upd H F0 (.lst [])) G0 (.lst []) = H1 at sFG hF hG P1
    refine ⟨_, rfl, _, rfl, p, cc, ns, n, (kd : Int), 7, 2, 9, rfl, P1, by unfold penMost; omega, ⟨by omega, by omega⟩, ⟨by decide, by decide⟩, ⟨by decide, by decide⟩, ⟨by decide, by decide⟩, fun ha H2 h kp2 P2 dh oh => ?_⟩
    have gh := oh.good rfl k1 (by omega) (by decide)
    have lh := oh.most
    have lh1 := oh.one
    obtain ⟨hb, xs, eh, hT, dxs⟩ := tupD_of dh
    cases eh
    have lx := dpAll_len dxs
    rw [List.length_map] at lx
    refine ⟨_, rfl, _, rfl, _, rfl, ha, xs, rfl, .inr hT, _, _, rfl, rfl, p, cc, ns, _, (kd : Int), 8 - (xs.length : Int), 2, 9, rfl, P2, by unfold penMost; omega, ⟨by omega, by omega⟩, ⟨by omega, by omega⟩, ⟨by decide, by decide⟩, ⟨by decide, by decide⟩, fun ga H3 g kp3 P3 dg og => ?_⟩
    have gg := og.good rfl k1 (by omega) (by omega)
    have lg := og.most
    have kp13 := kp2.trans kp3
    have dh3 := P2.dp kp3 dh (noL_house h)
    have hF3 := kp13 _ _ hF npF.symm
    have hG3 := kp13 _ _ hG npG.symm
    -- the list of both orders
    refine ⟨_, rfl, _, rfl, by show 2 ≤ sizeLine; decide, fun A1 n1 => ?_⟩
    have s1 := same_upd (o := .tup [V.ref ha, V.ref ga]) n1
    refine ⟨_, rfl, _, rfl, by show 2 ≤ sizeLine; decide, fun A2 n2 => ?_⟩
    have s2 := same_upd (o := .tup [V.ref ga, V.ref ha]) n2
    have hA1 := s2 _ _ (upd_same (H := H3) (a := A1) (o := .tup [V.ref ha, V.ref ga]))
    have hA2 := upd_same (H := upd H3 A1 (.tup [V.ref ha, V.ref ga])) (a := A2) (o := .tup [V.ref ga, V.ref ha])
    have s12 := s1.trans s2
    generalize upd (upd H3 A1 (.tup [V.ref ha, V.ref ga])) A2 (.tup [V.ref ga, V.ref ha]) = H4 at s12 hA1 hA2
    refine ⟨by show 2 ≤ sizeLine; decide, fun L nL => ?_⟩
    have sL := same_upd (o := .lst [V.ref A1, V.ref A2]) nL
    have hL := upd_same (H := H4) (a := L) (o := .lst [V.ref A1, V.ref A2])
    have hA1' := sL _ _ hA1
    have hA2' := sL _ _ hA2
    have s34 := s12.trans sL
    have nLF : F0 ≠ L := ne_of_none (s12 _ _ hF3) nL
    have nLG : G0 ≠ L := ne_of_none (s12 _ _ hG3) nL
    generalize upd H4 L (.lst [V.ref A1, V.ref A2]) = H5 at hL hA1' hA2' s34
    have P5 := P3.same s34
    have dh5 := dp_same s34 dh3
    have dg5 := dp_same s34 dg
    have hF5 := s34 _ _ hF3
    have hG5 := s34 _ _ hG3
    have kp05 : Kp p H H5 := fun b o e nb => s34 _ _ (kp13 _ _ (sFG _ _ e) nb)
    refine ⟨_, rfl, ⟨_, SqL.of hL⟩, ?_⟩
    have pair : ∀ (i : Nat) (v : V), [V.ref A1, V.ref A2][i]? = some v → ∃ (A : Addr) (x y : Addr) (a b : Asks), v = .ref A ∧ H5 A = some (.tup [.ref x, .ref y]) ∧ A ≠ F0 ∧ A ≠ G0 ∧ Dp K H5 (.ref x) (houseD a) ∧ Dp K H5 (.ref y) (houseD b) ∧ GoodH a kd 9 ∧ GoodH b kd 9 ∧ a.length + b.length ≤ 8 := by
      have nA : ∀ {A : Addr} {o : HO} {F : Addr} {l : List V}, H5 A = some o → (∀ l, o ≠ .lst l) → H5 F = some (.lst l) → A ≠ F := fun h1 h2 h3 e => by
        rw [e, h3] at h1
        exact h2 _ (Option.some.inj h1).symm
      intro i v hv
      match i, hv with
      | 0, hv =>
        cases hv
        exact ⟨A1, ha, ga, h, g, rfl, hA1', nA hA1' (fun l z => nomatch z) hF5, nA hA1' (fun l z => nomatch z) hG5, dh5, dg5, gh, gg, by omega⟩
      | 1, hv =>
        cases hv
        exact ⟨A2, ga, ha, g, h, rfl, hA2', nA hA2' (fun l z => nomatch z) hF5, nA hA2' (fun l z => nomatch z) hG5, dg5, dh5, gg, gh, by omega⟩
      | (j + 2), hv => simp at hv
    -- all but the two lists stays
    refine for_list (K := K) (a := L) (xs := [V.ref A1, V.ref A2]) (fun i σ H6 => ∃ (y6 y7 : Option V) (fs gs : List V) (M : List Asks), σ = [some (.ref p), some (.int (kd : Int)), some (.ref F0), some (.ref G0), some (.ref ha), some (.ref ga), y6, y7] ∧
      (∀ b o, H5 b = some o → b ≠ F0 → b ≠ G0 → H6 b = some o) ∧ H6 F0 = some (.lst fs) ∧ H6 G0 = some (.lst gs) ∧ DpAll K H6 fs (M.map houseD) ∧ DpAll K H6 gs (M.map houseD) ∧ M.length ≤ 2 * i ∧ ∀ e ∈ M, ∃ kd, GoodH e kd 99)
      ⟨none, none, [], [], [], rfl, fun b o e _ _ => e, hF5, hG5, .nil, .nil, Nat.zero_le _, fun e he => nomatch he⟩
      (fun i σ H6 _ ⟨_, _, _, _, _, _, st, _⟩ => SqL.of (st _ _ hL nLF.symm nLG.symm)) ?_ ?_
    · rintro i v σ H6 hv ⟨y6, y7, fs, gs, M, rfl, st, hF6, hG6, dfs, dgs, lM, gM⟩
      obtain ⟨A, x, y, a, b, rfl, hA, nAF, nAG, dx, dy, ga', gb', le8⟩ := pair i v hv
      have i2 : i < 2 := (List.getElem?_eq_some_iff.mp hv).1
      -- data of tuples stays while the lists change
      have keep : ∀ {H7 : Hp} {v : V} {d : PyData}, (∀ b o, H5 b = some o → b ≠ F0 → b ≠ G0 → H7 b = some o) → Dp K H5 v d → noL d = true → Dp K H7 v d := fun st dv nl => dp_two hF5 hG5 st dv nl
      have dx6 := keep st dx (noL_house a)
      have dy6 := keep st dy (noL_house b)
      refine ⟨A, _, rfl, SqT.of (st _ _ hA nAF nAG), rfl, _, _, rfl, _, _, rfl, rfl, ?_⟩
      have lfs := dpAll_len dfs
      have lgs := dpAll_len dgs
      rw [List.length_map] at lfs lgs
      -- found.append(together(one, other))
      refine ⟨_, rfl, .inl ⟨rfl, _, SqL.of hF6⟩, _, rfl, _, rfl, .ref x, .ref y, a, b, rfl, dx6, dy6, by omega, fun v1 H7 s7 d1 => ?_⟩
      refine ⟨F0, fs, v1, rfl, rfl, s7 _ _ hF6, small_line (by omega), ?_⟩
      -- due.append(one + other)
      have g1 := ga'.app gb' le8
      have hF7 := s7 _ _ hF6
      have hG7 := s7 _ _ hG6
      have hF8 : upd H7 F0 (.lst (fs ++ [v1])) F0 = some (.lst (fs ++ [v1])) := upd_same
      have hG8 : upd H7 F0 (.lst (fs ++ [v1])) G0 = some (.lst gs) := by rw [upd_ne nFG.symm]; exact hG7
      have dfs8 : DpAll K (upd H7 F0 (.lst (fs ++ [v1]))) (fs ++ [v1]) ((M ++ [a ++ b]).map houseD) := dpAll_put hF7 (dpAll_app1 (dpAll_same s7 dfs) d1) (noLAll_map noL_house _)
      have dgs8 : DpAll K (upd H7 F0 (.lst (fs ++ [v1]))) gs (M.map houseD) := dpAll_put hF7 (dpAll_same s7 dgs) (noLAll_map noL_house _)
      have st8 : ∀ b o, H5 b = some o → b ≠ F0 → b ≠ G0 → upd H7 F0 (.lst (fs ++ [v1])) b = some o := fun b o e n1 n2 => by
        rw [upd_ne n1]
        exact s7 _ _ (st _ _ e n1 n2)
      generalize upd H7 F0 (.lst (fs ++ [v1])) = H8 at hF8 hG8 dfs8 dgs8 st8
      have dx8 := keep st8 dx (noL_house a)
      have dy8 := keep st8 dy (noL_house b)
      obtain ⟨_, us, e1, hX, dus⟩ := tupD_of dx8
      cases e1
      obtain ⟨_, ws, e2, hY, dws⟩ := tupD_of dy8
      cases e2
      have lus := dpAll_len dus
      have lws := dpAll_len dws
      rw [List.length_map] at lus lws
      refine ⟨_, rfl, .inl ⟨rfl, _, SqL.of hG8⟩, _, rfl, _, rfl, x, y, us, ws, rfl, rfl, hX, hY, by rw [sizeLine_eq]; omega, fun cv H9 s9 hc => ?_⟩
      have d2 : Dp K H9 (.ref cv) (houseD (a ++ b)) := .tup hc (by rw [List.map_append]; exact dpAll_same s9 (dpAll_app dus dws))
      have hF9 := s9 _ _ hF8
      have hG9 := s9 _ _ hG8
      refine ⟨G0, gs, _, rfl, rfl, hG9, small_line (by omega), ?_⟩
      have hG10 : upd H9 G0 (.lst (gs ++ [.ref cv])) G0 = some (.lst (gs ++ [.ref cv])) := upd_same
      have hF10 : upd H9 G0 (.lst (gs ++ [.ref cv])) F0 = some (.lst (fs ++ [v1])) := by rw [upd_ne nFG]; exact hF9
      have dfs10 : DpAll K (upd H9 G0 (.lst (gs ++ [.ref cv]))) (fs ++ [v1]) ((M ++ [a ++ b]).map houseD) := dpAll_put hG9 (dpAll_same s9 dfs8) (noLAll_map noL_house _)
      have dgs10 : DpAll K (upd H9 G0 (.lst (gs ++ [.ref cv]))) (gs ++ [.ref cv]) ((M ++ [a ++ b]).map houseD) := dpAll_put hG9 (dpAll_app1 (dpAll_same s9 dgs8) d2) (noLAll_map noL_house _)
      have st10 : ∀ b o, H5 b = some o → b ≠ F0 → b ≠ G0 → upd H9 G0 (.lst (gs ++ [.ref cv])) b = some o := fun b o e n1 n2 => by
        rw [upd_ne n2]
        exact s9 _ _ (st8 _ _ e n1 n2)
      generalize upd H9 G0 (.lst (gs ++ [.ref cv])) = H10 at hF10 hG10 dfs10 dgs10 st10
      have gM1 : ∀ e ∈ M ++ [a ++ b], ∃ kd, GoodH e kd 99 := fun e he => by
        rcases List.mem_append.mp he with he | he
        · exact gM e he
        · rw [List.mem_singleton.mp he]
          exact ⟨kd, g1.up (by decide)⟩
      -- if kinds < 3
      refine ⟨_, rfl, _, _, rfl, rfl, _, rfl, ite2 (fun lt => ?_) fun ge => ?_⟩
      · have lt : (kd : Int) < 3 := of_decide_eq_true lt
        have dx10 := keep st10 dx (noL_house a)
        have dy10 := keep st10 dy (noL_house b)
        refine ⟨_, rfl, .inl ⟨rfl, _, SqL.of hF10⟩, _, rfl, _, rfl, .ref x, .ref y, a, b, kd, kd, rfl, dx10, dy10, ga'.ok, gb'.ok, fun v3 H11 s11 d3 => ?_⟩
        have hF11 := s11 _ _ hF10
        have hG11 := s11 _ _ hG10
        refine ⟨F0, fs ++ [v1], v3, rfl, rfl, hF11, small_line (by rw [List.length_append]; show fs.length + 1 ≤ 100000; omega), ?_⟩
        have g3 := ga'.beside gb' (by decide) (by omega) le8
        have hF12 : upd H11 F0 (.lst (fs ++ [v1] ++ [v3])) F0 = some (.lst (fs ++ [v1] ++ [v3])) := upd_same
        have hG12 : upd H11 F0 (.lst (fs ++ [v1] ++ [v3])) G0 = some (.lst (gs ++ [.ref cv])) := by rw [upd_ne nFG.symm]; exact hG11
        have dfs12 : DpAll K (upd H11 F0 (.lst (fs ++ [v1] ++ [v3]))) (fs ++ [v1] ++ [v3]) ((M ++ [a ++ b] ++ [besideH kd kd a b]).map houseD) := dpAll_put hF11 (dpAll_app1 (dpAll_same s11 dfs10) d3) (noLAll_map noL_house _)
        have dgs12 : DpAll K (upd H11 F0 (.lst (fs ++ [v1] ++ [v3]))) (gs ++ [.ref cv]) ((M ++ [a ++ b]).map houseD) := dpAll_put hF11 (dpAll_same s11 dgs10) (noLAll_map noL_house _)
        have st12 : ∀ b o, H5 b = some o → b ≠ F0 → b ≠ G0 → upd H11 F0 (.lst (fs ++ [v1] ++ [v3])) b = some o := fun b o e n1 n2 => by
          rw [upd_ne n1]
          exact s11 _ _ (st10 _ _ e n1 n2)
        generalize upd H11 F0 (.lst (fs ++ [v1] ++ [v3])) = H12 at hF12 hG12 dfs12 dgs12 st12
        have dx12 := keep st12 dx (noL_house a)
        have dy12 := keep st12 dy (noL_house b)
        refine ⟨_, rfl, .inl ⟨rfl, _, SqL.of hG12⟩, _, rfl, _, rfl, .ref x, a, kd, 0, kd, rfl, dx12, ga'.ok, by decide, by omega, fun v4 H13 s13 d4 => ?_⟩
        refine ⟨_, rfl, _, rfl, .ref y, b, kd, kd, 0, rfl, dp_same s13 dy12, gb'.ok, by omega, by decide, fun v5 H14 s14 d5 => ?_⟩
        obtain ⟨a4, us4, rfl, h4, du4⟩ := tupD_of (dp_same s14 d4)
        obtain ⟨a5, us5, rfl, h5, du5⟩ := tupD_of d5
        have l4 := dpAll_len du4
        have l5 := dpAll_len du5
        simp only [wideH, List.length_map] at l4 l5
        refine ⟨a4, a5, us4, us5, rfl, rfl, h4, h5, by rw [sizeLine_eq]; omega, fun cw H15 s15 hc5 => ?_⟩
        have d6 : Dp K H15 (.ref cw) (houseD (besideH kd kd a b)) := .tup hc5 (by rw [beside_wide, List.map_append]; exact dpAll_same s15 (dpAll_app du4 du5))
        have s1215 := (s13.trans s14).trans s15
        have hF15 := s1215 _ _ hF12
        have hG15 := s1215 _ _ hG12
        refine ⟨G0, gs ++ [.ref cv], _, rfl, rfl, hG15, small_line (by rw [List.length_append]; show gs.length + 1 ≤ 100000; omega), ?_⟩
        refine ⟨_, _, fs ++ [v1] ++ [v3], gs ++ [.ref cv] ++ [.ref cw], M ++ [a ++ b] ++ [besideH kd kd a b], rfl, fun b o e n1 n2 => ?_, ?_, upd_same, dpAll_put hG15 (dpAll_same s1215 dfs12) (noLAll_map noL_house _), dpAll_put hG15 (dpAll_app1 (dpAll_same s1215 dgs12) d6) (noLAll_map noL_house _), ?_, fun e he => ?_⟩
        · rw [upd_ne n2]
          exact s1215 _ _ (st12 _ _ e n1 n2)
        · rw [upd_ne nFG]
          exact hF15
        · simp only [List.length_append, List.length_cons, List.length_nil]
          omega
        · rcases List.mem_append.mp he with he | he
          · exact gM1 e he
          · rw [List.mem_singleton.mp he]
            exact ⟨_, g3.up (by decide)⟩
      · refine ⟨_, _, fs ++ [v1], gs ++ [.ref cv], M ++ [a ++ b], rfl, st10, hF10, hG10, dfs10, dgs10, ?_, gM1⟩
        simp only [List.length_append, List.length_cons, List.length_nil]
        omega
    · rintro σ H6 ⟨y6, y7, fs, gs, M, rfl, st, hF6, hG6, dfs, dgs, lM, gM⟩
      have l4 : M.length ≤ 4 := lM
      have P6 : Pen H6 p cc ns (n + 1200) := by
        have P6 := P5
        obtain ⟨⟨a', l', h1, h3⟩, h2⟩ := P6
        have nG0 : G0 ≠ cc := fun e => by
          have h := P1.ce
          rw [← e, hG] at h
          exact (((hP.same sF).nep nG).2 e.symm).elim
        have nF0 : F0 ≠ cc := fun e => ((hP.nep nF).2 e.symm).elim
        exact ⟨⟨a', l', st _ _ h1 npF npG, h3⟩, st _ _ h2 nF0.symm nG0.symm⟩
      refine ⟨_, rfl, _, rfl, .ref F0, .ref G0, .list (M.map houseD), rfl, .lst (SqL.of hF6) dfs, .lst (SqL.of hG6) dgs, okD_houses (by omega) (fun e he => let ⟨kd, g⟩ := gM e he; ⟨kd, g.ok⟩) 0, fun H7 s7 => ?_⟩
      refine ⟨_, rfl, ifT rfl ?_⟩
      refine ⟨_, rfl, F0, rfl, ⟨_, SqL.of (s7 _ _ hF6)⟩, fun D nD => ?_⟩
      refine none_left (SqL.of (s7 _ _ hF6)) (dpAll_same s7 dfs) (fun e he => let ⟨kd, g⟩ := gM e he; g.isH) nD (fun _ => rfl) (fun _ => rfl) fun H8 s8 hD => ?_
      refine ⟨by show 0 ≤ sizeLine; decide, fun Z nZ => ?_⟩
      have sZ := same_upd (o := .lst []) nZ
      refine ⟨.list [], .list [], .lst (SqL.of (sZ _ _ hD)) .nil, .lst (SqL.of upd_same) .nil, empty_shaped, empty_shaped, ?_⟩
      rw [empty_eqv]
      have s68 := (s7.trans s8).trans sZ
      refine q _ (fun b o e nb => s68 _ _ (st _ _ (kp05 _ _ e nb) (ne_of_none e nF) (ne_of_none e nHG))) ((P6.same s68))
end
theorem at4h {r : Int} (h0 : 0 ≤ r) (h1 : r < 4) : ∃ z, atI [V.int 1, V.int 9, V.int 33, V.int 99] r = some (.int z) ∧ (z = 1 ∨ z = 9 ∨ z = 33 ∨ z = 99) := by
  have : r = 0 ∨ r = 1 ∨ r = 2 ∨ r = 3 := by omega
  rcases this with rfl | rfl | rfl | rfl
  · exact ⟨1, atI_nat (j := 0) rfl, by omega⟩
  · exact ⟨9, atI_nat (j := 1) rfl, by omega⟩
  · exact ⟨33, atI_nat (j := 2) rfl, by omega⟩
  · exact ⟨99, atI_nat (j := 3) rfl, by omega⟩
theorem size_div {z : Int} (h : z = 1 ∨ z = 9 ∨ z = 33 ∨ z = 99) : (0 < z ∧ z < 1073741824) ∧ 1 ≤ z ∧ z ≤ 99 ∧ 1 ≤ 99 / z ∧ 99 / z ≤ 99 ∧ z * (99 / z) = 99 := by
  rcases h with rfl | rfl | rfl | rfl <;> decide
/-- a tuple of three houses is shown -/
theorem shows3 {a b c : Asks} (ha : Shows (houseD a) 10000 3) (hb : Shows (houseD b) 10000 3) (hc : Shows (houseD c) 10000 3) : Shows (.tuple [houseD a, houseD b, houseD c]) 40000 4 := by
  have s := shows_tuple (f := houseD) (l := [a, b, c]) (m := 10000) (k := 3) (n := 3) (fun x hx => by
    simp only [List.mem_cons, List.not_mem_nil, or_false] at hx
    rcases hx with rfl | rfl | rfl
    · exact ha
    · exact hb
    · exact hc) (by show 3 ≤ 3; decide)
  exact ⟨s.show_, s.dict, s.depth, Nat.le_trans s.len (by decide)⟩
section
variable {P : Program} {w : World} {K : PySem.W.Frag} {mg : Str → Option Value} {base : Heap}
structure TxtB (mg : Str → Option Value) (fO fT fM fN fX : Addr) : Prop where
  gO : mg "_law_open" = some (.ref fO)
  gT : mg "_law_take" = some (.ref fT)
  gM : mg "times" = some (.ref fM)
  gN : mg "_law_many_times" = some (.ref fN)
  gX : mg "_law_long_right" = some (.ref fX)
  range : mg "range" = none
  repr : mg "repr" = none
  min : mg "min" = none
theorem scLaw45 : FnScope ["script", "pen", "turn", "kinds", "others", "size", "house", "other", "far", "kept", "found", "wide", "due", "many", "one"] ["script"] (defScope sLaw45) := ⟨rfl, rfl, rfl, by decide +kernel, rfl, by decide +kernel, by decide +kernel⟩
set_option maxHeartbeats 0 in
theorem ok_law45 {f fO fT fM fN fX fH fG fB fW fQ fI : Addr} {fd fdO fdT fdM fdN fdX fdH fdG fdB fdW fdQ fdI : FuncData} {k : Nat} (F : Fun K "law" "law" sLaw45 f fd) (B : TxtB mg fO fT fM fN fX) (T : Txt45 mg fH fG fB fW fQ fI) (c : Fns45 P w K mg base fH fG fB fW fQ fI fdH fdG fdB fdW fdQ fdI k)
    (GO : FnOk P w K mg base CX0 k fO fdO ["script"] (spOpen K)) (kO : PySem.W.keepIn K (.ref fO) = true) (bO : Binds K fdO ["script"] [])
    (GT : FnOk P w K mg base CX0 k fT fdT ["pen", "amount"] spTake) (kT : PySem.W.keepIn K (.ref fT) = true) (bT : Binds K fdT ["pen", "amount"] [])
    (GM : FnOk P w K mg base CX0 k fM fdM ["house", "m"] (spTimes K)) (kM : PySem.W.keepIn K (.ref fM) = true) (bM : Binds K fdM ["house", "m"] [])
    (GN : FnOk P w K mg base CX0 k fN fdN ["house", "many"] (spManyL K)) (kN : PySem.W.keepIn K (.ref fN) = true) (bN : Binds K fdN ["house", "many"] [])
    (GX : FnOk P w K mg base CX0 k fX fdX ["pen", "kinds"] (spLongR K)) (kX : PySem.W.keepIn K (.ref fX) = true) (bX : Binds K fdX ["pen", "kinds"] []) :
    FnG P w K mg base (k + 1) f fd ["script"] (spLaw45 K) := by
  refine fnG_body F scLaw45 (fun vs H Q E h => ?_) (fun cdv A g outer s0 H vs Q E hr h => ?_)
  · obtain ⟨a, ns, rfl, _⟩ := h
    rfl
  · obtain ⟨a, ns, rfl, hS, hlen, q⟩ := h
    have g' := calmG_deeper g (envOfC "law" (defScope sLaw45) s0.heap.objs.size f cdv)
    refine ⟨_, pss_cons (ps_set (i := 1) scLaw45.nd rfl (.inl rfl) (pe_call GO hr (by rfl) B.gO kO bO .nil pass0 (pa_cons (pv 0) pa_nil)))
      (pss_cons (ps_for PassesOwn.never rfl (pi_range1 (by rfl) B.range (pa_cons pe_int pa_nil)) (pg_name (i := 2) scLaw45.nd rfl (.inl rfl)) (pss_cons (ps_par (i := 3) (j := 4) rfl scLaw45.nd rfl rfl (by decide) rfl rfl (pa_cons (pe_op op_add pe_int (pe_call GT hr (by rfl) B.gT kT bT .nil pass0 (pa_cons (pv 1) (pa_cons pe_int pa_nil)))) (pa_cons (pe_op op_add pe_int (pe_call GT hr (by rfl) B.gT kT bT .nil pass0 (pa_cons (pv 1) (pa_cons pe_int pa_nil)))) pa_nil)) (by rfl))
      (pss_cons (ps_set (i := 5) scLaw45.nd rfl (.inl rfl) (pe_ix ix_list (pe_lst (pa_cons pe_int (pa_cons pe_int (pa_cons pe_int (pa_cons pe_int pa_nil))))) (pe_call GT hr (by rfl) B.gT kT bT .nil pass0 (pa_cons (pv 1) (pa_cons pe_int pa_nil))) (fun _ _ => rfl)))
      (pss_cons (ps_par (i := 6) (j := 7) rfl scLaw45.nd rfl rfl (by decide) rfl rfl (pa_cons (pe_call c.GH hr (by rfl) T.gH c.kH c.bH .nil pass0 (pa_cons (pv 1) (pa_cons (pv 3) (pa_cons pe_int (pa_cons pe_int (pa_cons (pv 5) pa_nil)))))) (pa_cons (pe_call c.GH hr (by rfl) T.gH c.kH c.bH .nil pass0 (pa_cons (pv 1) (pa_cons (pv 3) (pa_cons pe_int (pa_cons pe_int (pa_cons pe_int pa_nil)))))) pa_nil)) (by rfl))
      (pss_cons (ps_set (i := 8) scLaw45.nd rfl (.inl rfl) (pe_call c.GH hr (by rfl) T.gH c.kH c.bH .nil pass0 (pa_cons (pv 1) (pa_cons (pe_callB (call_min2 rfl) (by rfl) B.min (by decide +kernel) (pa_cons (pv 4) (pa_cons (pe_op op_sub pe_int (pv 3)) pa_nil))) (pa_cons pe_int (pa_cons pe_int (pa_cons pe_int pa_nil)))))))
      (pss_cons (ps_set (i := 9) scLaw45.nd rfl (.inl rfl) (pe_callB (call_show g' hr) (by rfl) B.repr (by decide +kernel) (pa_cons (pe_tup (pa_cons (pv 6) (pa_cons (pv 7) (pa_cons (pv 8) pa_nil)))) pa_nil)))
      (pss_cons (ps_set (i := 10) scLaw45.nd rfl (.inl rfl) (pe_lst (pa_cons (pe_call c.GG hr (by rfl) T.gG c.kG c.bG .nil pass0 (pa_cons (pv 6) (pa_cons (pv 7) pa_nil))) (pa_cons (pe_call c.GG hr (by rfl) T.gG c.kG c.bG .nil pass0 (pa_cons (pv 7) (pa_cons (pv 6) pa_nil))) (pa_cons (pe_call c.GB hr (by rfl) T.gB c.kB c.bB .nil pass0 (pa_cons (pv 6) (pa_cons (pv 8) pa_nil))) (pa_cons (pe_call c.GB hr (by rfl) T.gB c.kB c.bB .nil pass0 (pa_cons (pv 8) (pa_cons (pv 6) pa_nil))) pa_nil))))))
      (pss_cons (ps_set (i := 11) scLaw45.nd rfl (.inl rfl) (pe_callB call_len_seq (by rfl) T.len PySem.boot_len (pa_cons (pe_ix ix_tup (pe_ix ix_tup (pv 8) pe_int (fun _ _ => rfl)) pe_int (fun _ _ => rfl)) pa_nil)))
      (pss_cons (ps_set (i := 12) scLaw45.nd rfl (.inl rfl) (pe_lst (pa_cons (pe_op op_catN (pv 6) (pv 7)) (pa_cons (pe_op op_catN (pv 7) (pv 6)) (pa_cons (pe_op op_catN (pe_call c.GW hr (by rfl) T.gW c.kW c.bW .nil pass0 (pa_cons (pv 6) (pa_cons pe_int (pa_cons (pv 11) pa_nil)))) (pe_call c.GW hr (by rfl) T.gW c.kW c.bW .nil pass0 (pa_cons (pv 8) (pa_cons (pv 3) (pa_cons pe_int pa_nil))))) pa_nil)))))
      (pss_cons (ps_expr (pe_bm PySem.F.plainAttrs_list PySem.F.slot_list_append PySem.F.type_list_append mt_append (pv 12) (pa_cons (pe_op op_catN (pe_call c.GW hr (by rfl) T.gW c.kW c.bW .nil pass0 (pa_cons (pv 8) (pa_cons pe_int (pa_cons (pv 3) pa_nil)))) (pe_call c.GW hr (by rfl) T.gW c.kW c.bW .nil pass0 (pa_cons (pv 6) (pa_cons (pv 11) (pa_cons pe_int pa_nil))))) pa_nil)))
      (pss_cons (ps_set (i := 13) scLaw45.nd rfl (.inl rfl) (pe_op op_add pe_int (pe_call GT hr (by rfl) B.gT kT bT .nil pass0 (pa_cons (pv 1) (pa_cons (pe_op op_fdiv pe_int (pv 5)) pa_nil)))))
      (pss_cons (ps_set (i := 10) scLaw45.nd rfl (.inl rfl) (pe_op op_cat (pv 10) (pe_lst (pa_cons (pe_call GM hr (by rfl) B.gM kM bM .nil pass0 (pa_cons (pv 6) (pa_cons (pv 13) pa_nil))) (pa_cons (pe_call GM hr (by rfl) B.gM kM bM .nil pass0 (pa_cons (pv 6) (pa_cons pe_int pa_nil))) (pa_cons (pe_call GM hr (by rfl) B.gM kM bM .nil pass0 (pa_cons (pv 7) (pa_cons pe_int pa_nil))) pa_nil))))))
      (pss_cons (ps_set (i := 12) scLaw45.nd rfl (.inl rfl) (pe_op op_cat (pv 12) (pe_lst (pa_cons (pe_call GN hr (by rfl) B.gN kN bN .nil pass0 (pa_cons (pv 6) (pa_cons (pv 13) pa_nil))) (pa_cons (pv 6) (pa_cons (pe_call GN hr (by rfl) B.gN kN bN .nil pass0 (pa_cons (pv 7) (pa_cons pe_int pa_nil))) pa_nil))))))
      (pss_cons (ps_if (PW.pt (pw_or (pt_not (pt_val (pe_call c.GQ hr (by rfl) T.gQ c.kQ c.bQ .nil pass0 (pa_cons (pv 10) (pa_cons (pv 12) pa_nil))))) (pw_or1 (pt_cmpR (op_neD hr.units) (pe_lc (own := [("one", 14)]) (g := gName 14) (tt := (ttNot K 14)) rfl scLaw45.nd (pi_list (pv 10))
        (blkOk_by (N := ["script", "pen", "turn", "kinds", "others", "size", "house", "other", "far", "kept", "found", "wide", "due", "many", "one"]) (sc := defScope sLaw45) (by decide +kernel)) (fun _ _ _ _ _ => by exact (pg_name (i := 14) scLaw45.nd rfl (.inl rfl))) (fun _ _ _ _ _ => by exact pts_one (pt_cmpR op_isnot_bl (pe_call c.GI hr (by rfl) T.gI c.kI c.bI .nil pass0 (pa_cons (pv 14) pa_nil)) pe_bl (nomark _)))
        (fun _ _ _ _ _ => by exact (pv 14))) (pe_lst pa_nil) (nomark _))))) (pss_one (ps_ret pe_bl)) pss_nil)
      (pss_cons (ps_if (PW.pt (pw_or (pt_cmpR (op_neD hr.units) (pe_call GM hr (by rfl) B.gM kM bM .nil pass0 (pa_cons (pe_call GM hr (by rfl) B.gM kM bM .nil pass0 (pa_cons (pv 7) (pa_cons pe_int pa_nil))) (pa_cons pe_int pa_nil))) (pe_call GM hr (by rfl) B.gM kM bM .nil pass0 (pa_cons (pv 7) (pa_cons pe_int pa_nil))) (nomark _)) (pw_or1 (pt_cmpR op_ne (pe_callB (call_show g' hr) (by rfl) B.repr (by decide +kernel) (pa_cons (pe_tup (pa_cons (pv 6) (pa_cons (pv 7) (pa_cons (pv 8) pa_nil)))) pa_nil)) (pv 9) (nomark _))))) (pss_one (ps_ret pe_bl)) pss_nil)
      (pss_one (ps_if (pt_not (pt_val (pe_call GX hr (by rfl) B.gX kX bX .nil pass0 (pa_cons (pv 1) (pa_cons (pv 3) pa_nil))))) (pss_one (ps_ret pe_bl)) pss_nil)))))))))))))))))
      (pss_one (ps_ret pe_bl))), ?_⟩
    -- sem
    refine ⟨_, rfl, a, ns, rfl, hS, hlen, fun H0 p cc ms s0' P0 _ => ?_⟩
    refine ⟨6, rfl, by decide, by decide, ?_⟩
    refine for_range (lo := 0) (n := 6) (fun t σ H1 => ∃ (y2 y3 y4 y5 y6 y7 y8 y9 y10 y11 y12 y13 : Option V), σ = [some (.ref a), some (.ref p), y2, y3, y4, y5, y6, y7, y8, y9, y10, y11, y12, y13, none] ∧ Pen H1 p cc ms (5000 * t))
      ⟨none, none, none, none, none, none, none, none, none, none, none, none, rfl, P0⟩ ?_ ?_
    · rintro t σ H1 ht ⟨y2, y3, y4, y5, y6, y7, y8, y9, y10, y11, y12, y13, rfl, P1⟩
      -- kinds, others
      refine ⟨_, rfl, p, cc, ms, _, 3, rfl, P1, by unfold penMost; omega, by decide, by decide, fun r1 H2 r10 r11 kp2 P2 => ⟨1, r1, rfl, rfl, ?_⟩⟩
      refine ⟨_, rfl, p, cc, ms, _, 3, rfl, P2, by unfold penMost; omega, by decide, by decide, fun r2 H3 r20 r21 kp3 P3 => ⟨1, r2, rfl, rfl, ?_⟩⟩
      refine ⟨_, _, rfl, ?_⟩
      obtain ⟨kd, ekd⟩ : ∃ kd : Nat, 1 + r1 = (kd : Int) := ⟨(1 + r1).toNat, by omega⟩
      simp only [ekd]
      have k1 : 1 ≤ kd := by omega
      have k3 : kd ≤ 3 := by omega
      -- size
      refine ⟨by show 4 ≤ sizeLine; decide, fun L nL => ?_⟩
      have sL := same_upd (o := .lst [V.int 1, V.int 9, V.int 33, V.int 99]) nL
      have npL := (P3.nep nL).1
      refine ⟨_, rfl, p, cc, ms, _, 4, rfl, P3.same sL, by unfold penMost; omega, by decide, by decide, fun r3 H4 r30 r31 kp4 P4 => ?_⟩
      obtain ⟨z, hz4, zc⟩ := at4h r30 r31
      refine ⟨L, _, r3, .int z, rfl, rfl, SqL.of (kp4 _ _ upd_same npL.symm), hz4, ?_⟩
      obtain ⟨zd, z1, z99, m1, m99, me⟩ := size_div zc
      -- house, other
      refine ⟨_, rfl, _, rfl, _, rfl, p, cc, ms, _, (kd : Int), 4, 5, z, rfl, P4, by unfold penMost; omega, ⟨by omega, by omega⟩, ⟨by decide, by decide⟩, ⟨by decide, by decide⟩, ⟨by omega, by omega⟩, fun ha H5 h kp5 P5 dh oh => ?_⟩
      refine ⟨_, rfl, _, rfl, p, cc, ms, _, (kd : Int), 4, 5, 9, rfl, P5, by unfold penMost; omega, ⟨by omega, by omega⟩, ⟨by decide, by decide⟩, ⟨by decide, by decide⟩, ⟨by decide, by decide⟩, fun oa H6 o kp6 P6 dO oo => ?_⟩
      refine ⟨_, _, rfl, ?_⟩
      have dh6 := P5.dp kp6 dh (noL_house h)
      -- far
      obtain ⟨kf, ekf, kf1, kf4⟩ : ∃ kf : Nat, (if 4 - (kd : Int) < 1 + r2 then 4 - (kd : Int) else 1 + r2) = (kf : Int) ∧ 1 ≤ kf ∧ kd + kf ≤ 4 := by
        refine ⟨(if 4 - (kd : Int) < 1 + r2 then 4 - (kd : Int) else 1 + r2).toNat, ?_, ?_, ?_⟩ <;> split <;> omega
      refine ⟨_, rfl, _, rfl, _, rfl, _, _, rfl, rfl, _, _, rfl, ?_⟩
      rw [ekf]
      refine ⟨p, cc, ms, _, (kf : Int), 4, 5, 99, rfl, P6, by unfold penMost; omega, ⟨by omega, by omega⟩, ⟨by decide, by decide⟩, ⟨by decide, by decide⟩, ⟨by decide, by decide⟩, fun fa H7 fh kp7 P7 df of => ?_⟩
      have dh7 := P6.dp kp7 dh6 (noL_house h)
      have do7 := P6.dp kp7 dO (noL_house o)
      have gh := oh.good rfl k1 (by omega) (by decide)
      have go := oo.good rfl k1 (by omega) (by decide)
      have gf := of.good rfl kf1 (by omega) (by decide)
      have lh := oh.most
      have lo := oo.most
      have lf := of.most
      have sh := shows3 (shows_house oh (by omega) (by decide) (by omega)) (shows_house oo (by omega) (by decide) (by decide)) (shows_house of (by omega) (by decide) (by decide))
      -- kept
      refine ⟨_, rfl, _, rfl, _, rfl, by show 3 ≤ sizeLine; decide, fun R1 nR => ?_⟩
      have sR := same_upd (o := .tup [V.ref ha, V.ref oa, V.ref fa]) nR
      have d3 := dp_tup (K := K) nR (.cons dh7 (.cons do7 (.cons df .nil)))
      refine ⟨R1, _, rfl, d3, sh.show_, sh.dict, Nat.le_trans sh.depth (by decide), Nat.le_trans sh.len (by decide), ?_⟩
      have dh8 := dp_same sR dh7
      have do8 := dp_same sR do7
      have df8 := dp_same sR df
      have P8 := P7.same sR
      generalize upd H7 R1 (.tup [V.ref ha, V.ref oa, V.ref fa]) = H8 at sR dh8 do8 df8 P8
      -- found
      refine ⟨_, rfl, _, rfl, .ref ha, .ref oa, h, o, rfl, dh8, do8, by omega, fun v1 G1 s1 e1 => ?_⟩
      refine ⟨_, rfl, _, rfl, .ref oa, .ref ha, o, h, rfl, dp_same s1 do8, dp_same s1 dh8, by omega, fun v2 G2 s2 e2 => ?_⟩
      have s12 := s1.trans s2
      refine ⟨_, rfl, _, rfl, .ref ha, .ref fa, h, fh, kd, kf, rfl, dp_same s12 dh8, dp_same s12 df8, gh.ok, gf.ok, fun v3 G3 s3 e3 => ?_⟩
      have s13 := s12.trans s3
      refine ⟨_, rfl, _, rfl, .ref fa, .ref ha, fh, h, kf, kd, rfl, dp_same s13 df8, dp_same s13 dh8, gf.ok, gh.ok, fun v4 G4 s4 e4 => ?_⟩
      have s14 := s13.trans s4
      refine ⟨by show 4 ≤ sizeLine; decide, fun FL nFL => ?_⟩
      have sFL := same_upd (o := .lst [v1, v2, v3, v4]) nFL
      have hFL := upd_same (H := G4) (a := FL) (o := .lst [v1, v2, v3, v4])
      have fL : DpAll K G4 [v1, v2, v3, v4] ([h ++ o, o ++ h, besideH kd kf h fh, besideH kf kd fh h].map houseD) := .cons (dp_same ((s2.trans s3).trans s4) e1) (.cons (dp_same (s3.trans s4) e2) (.cons (dp_same s4 e3) (.cons e4 .nil)))
      have fL := dpAll_same sFL fL
      have s5 := s14.trans sFL
      generalize upd G4 FL (.lst [v1, v2, v3, v4]) = G5 at hFL fL s5
      -- wide
      have df9 := dp_same s5 df8
      obtain ⟨a0, l0, h0, hl0⟩ := gf.ok.ne
      have ml0 := (gf.all a0 (List.mem_of_getElem? h0)).2.2 l0 (List.mem_of_getElem? hl0)
      obtain ⟨_, fxs, ee, hfT, dfx⟩ := tupD_of df9
      cases ee
      obtain ⟨u0, hu0, du0⟩ := dpAll_getD (i := 0) (d := askD a0) dfx (by rw [List.getElem?_map, h0]; rfl)
      obtain ⟨ya, ws0, rfl, hY, hW0⟩ := tupD_of du0
      obtain ⟨w0, hw0, dw0⟩ := dpAll_getD (i := 0) (d := wayD l0) hW0 (by rw [List.getElem?_map, hl0]; rfl)
      obtain ⟨wa, rfl, hWa⟩ := way_of dw0
      refine ⟨_, rfl, fa, fxs, 0, .ref ya, rfl, rfl, hfT, atI_nat (j := 0) hu0, ya, ws0, 0, .ref wa, rfl, rfl, hY, atI_nat (j := 0) hw0, wa, _, rfl, .inr hWa, ?_⟩
      rw [List.length_map, ml0.1]
      -- due
      have dh9 := dp_same s5 dh8
      have do9 := dp_same s5 do8
      obtain ⟨_, hxs, ee, hhT, dhx⟩ := tupD_of dh9
      cases ee
      obtain ⟨_, oxs, ee, hoT, dox⟩ := tupD_of do9
      cases ee
      have lhx := dpAll_len dhx
      have lox := dpAll_len dox
      rw [List.length_map] at lhx lox
      refine ⟨_, rfl, _, rfl, ha, oa, hxs, oxs, rfl, rfl, hhT, hoT, by rw [sizeLine_eq]; omega, fun w1 G6 s6 c1 => ?_⟩
      refine ⟨_, rfl, _, rfl, oa, ha, oxs, hxs, rfl, rfl, s6.seqT hoT, s6.seqT hhT, by rw [sizeLine_eq]; omega, fun w2 G7 s7 c2 => ?_⟩
      have s67 := s6.trans s7
      refine ⟨_, rfl, _, rfl, .ref ha, h, kd, 0, kf, rfl, dp_same s67 dh9, gh.ok, by decide, by omega, fun x1 G8 s8 q1 => ?_⟩
      have s68 := s67.trans s8
      refine ⟨_, rfl, _, rfl, .ref fa, fh, kf, kd, 0, rfl, dp_same s68 df9, gf.ok, by omega, by decide, fun x2 G9 s9 q2 => ?_⟩
      have s69 := s68.trans s9
      obtain ⟨b1, us1, rfl, hu1, du1⟩ := tupD_of (dp_same s9 q1)
      obtain ⟨b2, us2, rfl, hu2, du2⟩ := tupD_of q2
      have lu1 := dpAll_len du1
      have lu2 := dpAll_len du2
      simp only [wideH, List.length_map] at lu1 lu2
      refine ⟨b1, b2, us1, us2, rfl, rfl, hu1, hu2, by rw [sizeLine_eq]; omega, fun w3 G10 s10 c3 => ?_⟩
      have s610 := s69.trans s10
      have dw1 : Dp K G10 (.ref w1) (houseD (h ++ o)) := .tup ((((s7.trans s8).trans s9).trans s10).seqT c1) (by rw [List.map_append]; exact dpAll_same s610 (dpAll_app dhx dox))
      have dw2 : Dp K G10 (.ref w2) (houseD (o ++ h)) := .tup (((s8.trans s9).trans s10).seqT c2) (by rw [List.map_append]; exact dpAll_same s610 (dpAll_app dox dhx))
      have dw3 : Dp K G10 (.ref w3) (houseD (besideH kd kf h fh)) := .tup c3 (by rw [beside_wide, List.map_append]; exact dpAll_same s10 (dpAll_app du1 du2))
      refine ⟨by show 3 ≤ sizeLine; decide, fun DL nDL => ?_⟩
      have sDL := same_upd (o := .lst [V.ref w1, V.ref w2, V.ref w3]) nDL
      have hDL := upd_same (H := G10) (a := DL) (o := .lst [V.ref w1, V.ref w2, V.ref w3])
      have nFD : FL ≠ DL := ne_of_none (s610 _ _ hFL) nDL
      have s611 := s610.trans sDL
      have dL3 : DpAll K G10 [V.ref w1, V.ref w2, V.ref w3] ([h ++ o, o ++ h, besideH kd kf h fh].map houseD) := .cons dw1 (.cons dw2 (.cons dw3 .nil))
      have dL3 := dpAll_same sDL dL3
      generalize upd G10 DL (.lst [V.ref w1, V.ref w2, V.ref w3]) = G11 at hDL dL3 s611
      -- due.append
      have df11 := dp_same s611 df9
      have dh11 := dp_same s611 dh9
      refine ⟨_, rfl, .inl ⟨rfl, _, SqL.of hDL⟩, _, rfl, _, rfl, .ref fa, fh, kf, 0, kd, rfl, df11, gf.ok, by decide, by omega, fun x3 G12 s12' q3 => ?_⟩
      refine ⟨_, rfl, _, rfl, .ref ha, h, kd, kf, 0, rfl, dp_same s12' dh11, gh.ok, by omega, by decide, fun x4 G13 s13' q4 => ?_⟩
      obtain ⟨b3, us3, rfl, hu3, du3⟩ := tupD_of (dp_same s13' q3)
      obtain ⟨b4, us4, rfl, hu4, du4⟩ := tupD_of q4
      have lu3 := dpAll_len du3
      have lu4 := dpAll_len du4
      simp only [wideH, List.length_map] at lu3 lu4
      refine ⟨b3, b4, us3, us4, rfl, rfl, hu3, hu4, by rw [sizeLine_eq]; omega, fun w4 G14 s14' c4 => ?_⟩
      have s1114 := (s12'.trans s13').trans s14'
      have dw4 : Dp K G14 (.ref w4) (houseD (besideH kf kd fh h)) := .tup c4 (by rw [beside_wide, List.map_append]; exact dpAll_same s14' (dpAll_app du3 du4))
      have hDL14 := s1114 _ _ hDL
      refine ⟨DL, _, _, rfl, rfl, hDL14, by show 3 < sizeLine; decide, ?_⟩
      have dL4 : DpAll K (upd G14 DL (.lst ([V.ref w1, V.ref w2, V.ref w3] ++ [V.ref w4]))) ([V.ref w1, V.ref w2, V.ref w3] ++ [V.ref w4]) (([h ++ o, o ++ h, besideH kd kf h fh] ++ [besideH kf kd fh h]).map houseD) := dpAll_put hDL14 (dpAll_app1 (dpAll_same s1114 dL3) dw4) (noLAll_map noL_house _)
      have fL4 : DpAll K (upd G14 DL (.lst ([V.ref w1, V.ref w2, V.ref w3] ++ [V.ref w4]))) [v1, v2, v3, v4] ([h ++ o, o ++ h, besideH kd kf h fh, besideH kf kd fh h].map houseD) := dpAll_put hDL14 (dpAll_same (s611.trans s1114) fL) (noLAll_map noL_house _)
      have hDL15 : upd G14 DL (.lst ([V.ref w1, V.ref w2, V.ref w3] ++ [V.ref w4])) DL = some (.lst ([V.ref w1, V.ref w2, V.ref w3] ++ [V.ref w4])) := upd_same
      have hFL15 : upd G14 DL (.lst ([V.ref w1, V.ref w2, V.ref w3] ++ [V.ref w4])) FL = some (.lst [v1, v2, v3, v4]) := by rw [upd_ne nFD]; exact s1114 _ _ (s611 _ _ hFL)
      have s814 := (s5.trans s611).trans s1114
      have npD : p ≠ DL := fun e => by
        have h1 := nDL
        have h2 := (P8.same (s5.trans s610)).at
        obtain ⟨l, h2⟩ := h2
        rw [← e, h2] at h1
        cases h1
      have ncD : cc ≠ DL := fun e => by
        have h1 := nDL
        have h2 := (P8.same (s5.trans s610)).ce
        rw [← e, h2] at h1
        cases h1
      have P15 := (P8.same s814).put (o := .lst ([V.ref w1, V.ref w2, V.ref w3] ++ [V.ref w4])) npD ncD
      have dh15 : Dp K (upd G14 DL (.lst ([V.ref w1, V.ref w2, V.ref w3] ++ [V.ref w4]))) (.ref ha) (houseD h) := dp_kp (kp_upd _ _ _) hDL14 (dp_same s814 dh8) (noL_house h)
      have do15 : Dp K (upd G14 DL (.lst ([V.ref w1, V.ref w2, V.ref w3] ++ [V.ref w4]))) (.ref oa) (houseD o) := dp_kp (kp_upd _ _ _) hDL14 (dp_same s814 do8) (noL_house o)
      have df15 : Dp K (upd G14 DL (.lst ([V.ref w1, V.ref w2, V.ref w3] ++ [V.ref w4]))) (.ref fa) (houseD fh) := dp_kp (kp_upd _ _ _) hDL14 (dp_same s814 df8) (noL_house fh)
      have pFL : FL ≠ p := fun e => by
        have h1 := nFL
        have h2 := (P8.same s14).at
        obtain ⟨l, h2⟩ := h2
        rw [e, h2] at h1
        cases h1
      generalize upd G14 DL (.lst ([V.ref w1, V.ref w2, V.ref w3] ++ [V.ref w4])) = G15 at dL4 fL4 hDL15 hFL15 P15 dh15 do15 df15
      -- many
      refine ⟨_, rfl, _, rfl, 99, z, rfl, rfl, zd, p, cc, ms, _, 99 / z, rfl, P15, by unfold penMost; omega, m1, by omega, fun r4 G16 r40 r41 kp16 P16 => ⟨1, r4, rfl, rfl, ?_⟩⟩
      obtain ⟨m, em, mm1, mm99, mze⟩ : ∃ m : Int, 1 + r4 = m ∧ 1 ≤ m ∧ m ≤ 99 ∧ z * m ≤ 99 := ⟨1 + r4, rfl, by omega, by omega, by rw [← me]; exact Int.mul_le_mul_of_nonneg_left (by omega) (by omega)⟩
      simp only [em]
      have dh16 := P15.dp kp16 dh15 (noL_house h)
      have do16 := P15.dp kp16 do15 (noL_house o)
      have df16 := P15.dp kp16 df15 (noL_house fh)
      have hDL16 := kp16 _ _ hDL15 npD.symm
      have hFL16 := kp16 _ _ hFL15 pFL
      have dL16 := P15.dpAll kp16 dL4 (noLAll_map noL_house _)
      have fL16 := P15.dpAll kp16 fL4 (noLAll_map noL_house _)
      -- found again
      refine ⟨_, rfl, _, rfl, _, rfl, .ref ha, h, kd, m, rfl, dh16, gh.ok, by omega, by omega, fun v5 G17 s17 e5 => ?_⟩
      refine ⟨_, rfl, .ref ha, h, kd, 1, rfl, dp_same s17 dh16, gh.ok, by decide, by decide, fun v6 G18 s18 e6 => ?_⟩
      have s1718 := s17.trans s18
      refine ⟨_, rfl, .ref oa, o, kd, 11, rfl, dp_same s1718 do16, go.ok, by decide, by decide, fun v7 G19 s19 e7 => ?_⟩
      have s1719 := s1718.trans s19
      refine ⟨by show 3 ≤ sizeLine; decide, fun L3 nL3 => ?_⟩
      have sL3 := same_upd (o := .lst [v5, v6, v7]) nL3
      refine ⟨FL, L3, _, _, rfl, rfl, sL3 _ _ (s1719 _ _ hFL16), upd_same, by show 7 ≤ sizeLine; decide, fun FF nFF => ?_⟩
      have sFF := same_upd (o := .lst ([v1, v2, v3, v4] ++ [v5, v6, v7])) nFF
      have dFF : DpAll K G19 ([v1, v2, v3, v4] ++ [v5, v6, v7]) (([h ++ o, o ++ h, besideH kd kf h fh, besideH kf kd fh h] ++ [timesH m h, timesH 1 h, timesH 11 o]).map houseD) := by
        rw [List.map_append]
        exact dpAll_app (dpAll_same s1719 fL16) (.cons (dp_same (s18.trans s19) e5) (.cons (dp_same s19 e6) (.cons e7 .nil)))
      have dFF := dpAll_same (sL3.trans sFF) dFF
      have hFF := upd_same (H := upd G19 L3 (.lst [v5, v6, v7])) (a := FF) (o := .lst ([v1, v2, v3, v4] ++ [v5, v6, v7]))
      have s1620 := s1719.trans (sL3.trans sFF)
      generalize upd (upd G19 L3 (.lst [v5, v6, v7])) FF (.lst ([v1, v2, v3, v4] ++ [v5, v6, v7])) = G20 at dFF hFF s1620
      -- due again
      refine ⟨_, rfl, _, rfl, _, rfl, .ref ha, h, kd, m, rfl, dp_same s1620 dh16, gh.ok, by omega, by omega, fun x5 G21 s21 q5 => ?_⟩
      refine ⟨_, rfl, _, rfl, .ref oa, o, kd, 11, rfl, dp_same (s1620.trans s21) do16, go.ok, by decide, by decide, fun x6 G22 s22 q6 => ?_⟩
      have s2022 := s21.trans s22
      have s1622 := s1620.trans s2022
      refine ⟨by show 3 ≤ sizeLine; decide, fun M3 nM3 => ?_⟩
      have sM3 := same_upd (o := .lst [x5, V.ref ha, x6]) nM3
      refine ⟨DL, M3, _, _, rfl, rfl, sM3 _ _ (s1622 _ _ hDL16), upd_same, by show 7 ≤ sizeLine; decide, fun DD nDD => ?_⟩
      have sDD := same_upd (o := .lst ([V.ref w1, V.ref w2, V.ref w3] ++ [V.ref w4] ++ [x5, V.ref ha, x6])) nDD
      have dDD : DpAll K G22 ([V.ref w1, V.ref w2, V.ref w3] ++ [V.ref w4] ++ [x5, V.ref ha, x6]) (([h ++ o, o ++ h, besideH kd kf h fh] ++ [besideH kf kd fh h] ++ [timesH m h, h, timesH 11 o]).map houseD) := by
        rw [List.map_append]
        exact dpAll_app (dpAll_same s1622 dL16) (.cons (dp_same s22 q5) (.cons (dp_same s1622 dh16) (.cons q6 .nil)))
      have dDD := dpAll_same (sM3.trans sDD) dDD
      have hDD := upd_same (H := upd G22 M3 (.lst [x5, V.ref ha, x6])) (a := DD) (o := .lst ([V.ref w1, V.ref w2, V.ref w3] ++ [V.ref w4] ++ [x5, V.ref ha, x6]))
      have hFF23 := (sM3.trans sDD) _ _ (s2022 _ _ hFF)
      have dFF23 := dpAll_same (s2022.trans (sM3.trans sDD)) dFF
      have s1623 := s1622.trans (sM3.trans sDD)
      generalize upd (upd G22 M3 (.lst [x5, V.ref ha, x6])) DD (.lst ([V.ref w1, V.ref w2, V.ref w3] ++ [V.ref w4] ++ [x5, V.ref ha, x6])) = G23 at dDD hDD hFF23 dFF23 s1623
      have e1h : ([h ++ o, o ++ h, besideH kd kf h fh, besideH kf kd fh h] ++ [timesH m h, timesH 1 h, timesH 11 o] : List Asks) = [h ++ o, o ++ h, besideH kd kf h fh] ++ [besideH kf kd fh h] ++ [timesH m h, h, timesH 11 o] := by
        rw [timesH_one]
        rfl
      rw [e1h] at dFF23
      obtain ⟨M, eM⟩ : ∃ M : List Asks, [h ++ o, o ++ h, besideH kd kf h fh] ++ [besideH kf kd fh h] ++ [timesH m h, h, timesH 11 o] = M := ⟨_, rfl⟩
      have goodM : ∀ e ∈ M, ∃ kd, GoodH e kd 99 := fun e he => by
        rw [← eM] at he
        simp only [List.mem_append, List.mem_cons, List.not_mem_nil, or_false] at he
        have g99 := gh.up (t := 99) (by omega)
        have o99 := go.up (t := 99) (by decide)
        rcases he with ((rfl | rfl | rfl) | rfl) | rfl | rfl | rfl
        · exact ⟨_, g99.app o99 (by omega)⟩
        · exact ⟨_, o99.app g99 (by omega)⟩
        · exact ⟨_, g99.beside gf (by decide) kf4 (by omega)⟩
        · exact ⟨_, gf.beside g99 (by decide) (by omega) (by omega)⟩
        · exact ⟨_, gh.times (by omega) mze⟩
        · exact ⟨_, g99⟩
        · exact ⟨_, go.times (by decide) (by decide)⟩
      have lM : M.length = 7 := by rw [← eM]; rfl
      rw [eM] at dDD dFF23
      -- alike
      refine ⟨_, rfl, _, rfl, .ref FF, .ref DD, .list (M.map houseD), rfl, .lst (SqL.of hFF23) dFF23, .lst (SqL.of hDD) dDD, okD_houses (by omega) (fun e he => let ⟨kd, g⟩ := goodM e he; ⟨kd, g.ok⟩) 0, fun G24 s24 => ?_⟩
      refine ⟨_, rfl, ifF rfl ?_⟩
      refine ⟨_, rfl, FF, rfl, ⟨_, SqL.of (s24 _ _ hFF23)⟩, fun E1 nE1 => ?_⟩
      refine none_left (SqL.of (s24 _ _ hFF23)) (dpAll_same s24 dFF23) (fun e he => let ⟨kd, g⟩ := goodM e he; g.isH) nE1 (fun _ => rfl) (fun _ => rfl) fun G25 s25 hE => ?_
      refine ⟨by show 0 ≤ sizeLine; decide, fun Z nZ => ?_⟩
      have sZ := same_upd (o := .lst []) nZ
      refine ⟨.list [], .list [], .lst (SqL.of (sZ _ _ hE)) .nil, .lst (SqL.of upd_same) .nil, empty_shaped, empty_shaped, _, rfl, ?_⟩
      rw [empty_eqv]
      refine ifF rfl ?_
      have s1626 := ((s1623.trans s24).trans s25).trans sZ
      generalize upd G25 Z (.lst []) = G26 at s1626
      have do26 := dp_same s1626 do16
      -- times
      refine ⟨_, rfl, .ref oa, o, kd, 3, rfl, do26, go.ok, by decide, by decide, fun x7 G27 s27 q7 => ?_⟩
      have g3 := go.times (m := 3) (t := 27) (by decide) (by decide)
      refine ⟨x7, timesH 3 o, kd, 3, rfl, q7, g3.ok, by decide, by decide, fun x8 G28 s28 q8 => ?_⟩
      refine ⟨_, rfl, .ref oa, o, kd, 9, rfl, dp_same (s27.trans s28) do26, go.ok, by decide, by decide, fun x9 G29 s29 q9 => ?_⟩
      rw [timesH_timesH] at q8
      refine ⟨_, _, dp_same s29 q8, q9, house_shaped _, house_shaped _, _, rfl, ?_⟩
      rw [show (3 * 3 : Int) = 9 from rfl, eqv_house_self]
      refine ifF rfl ?_
      have s1629 := ((s1626.trans s27).trans s28).trans s29
      have dh29 := dp_same s1629 dh16
      have do29 := dp_same s1629 do16
      have df29 := dp_same s1629 df16
      -- shown again
      refine ⟨_, rfl, _, rfl, _, rfl, by show 3 ≤ sizeLine; decide, fun R2 nR2 => ?_⟩
      have sR2 := same_upd (o := .tup [V.ref ha, V.ref oa, V.ref fa]) nR2
      have d32 := dp_tup (K := K) nR2 (.cons dh29 (.cons do29 (.cons df29 .nil)))
      refine ⟨R2, _, rfl, d32, sh.show_, sh.dict, Nat.le_trans sh.depth (by decide), Nat.le_trans sh.len (by decide), _, rfl, rfl, _, rfl, ?_⟩
      refine iteNS rfl ?_
      -- the long ones
      refine ⟨_, rfl, _, rfl, p, cc, ms, _, kd, rfl, (P16.same (s1629.trans sR2)), by unfold penMost; omega, k1, k3, fun H9 kp9 P9 => ?_⟩
      refine ⟨_, rfl, ifF rfl ?_⟩
      exact ⟨_, _, _, _, _, _, _, _, _, _, _, _, rfl, P9.mono (by omega)⟩
    · rintro σ H1 ⟨y2, y3, y4, y5, y6, y7, y8, y9, y10, y11, y12, y13, rfl, P1⟩
      exact q H1
end
/-! ### what the top has written -/
theorem all_mk {l : PySem.W.OpenLaw} {w : World} {K : PySem.W.Frag} {h : Heap} {mg : Str → Option Value} {fa f1 f2 f3 f4 f5 f6 f7 f8 f9 f10 f11 f12 f13 f14 f15 f16 f17 f18  : Addr} (X : K.In h) (G : h.Ns mainGlobals mg) (hfa : mg "law" = some (.ref fa))
    {od1 an1 od2 an2 od3 an3 od4 an4 od5 an5 od6 an6 od7 an7 od8 an8 od9 an9 od10 an10 od11 an11 od12 an12 od13 an13 od14 an14 od15 an15 od16 an16 od17 an17 od18 an18 : Option Addr} {sl1 sl2 sl3 sl4 sl5 sl6 sl7 sl8 sl9 sl10 sl11 sl12 sl13 sl14 sl15 sl16 sl17 sl18 : Array (Option Value)} {oc1 kV1 dc1 pm1 cd1 ct1 oc2 kV2 dc2 pm2 cd2 ct2 oc3 kV3 dc3 pm3 cd3 ct3 oc4 kV4 dc4 pm4 cd4 ct4 oc5 kV5 dc5 pm5 cd5 ct5 oc6 kV6 dc6 pm6 cd6 ct6 oc7 kV7 dc7 pm7 cd7 ct7 oc8 kV8 dc8 pm8 cd8 ct8 oc9 kV9 dc9 pm9 cd9 ct9 oc10 kV10 dc10 pm10 cd10 ct10 oc11 kV11 dc11 pm11 cd11 ct11 oc12 kV12 dc12 pm12 cd12 ct12 oc13 kV13 dc13 pm13 cd13 ct13 oc14 kV14 dc14 pm14 cd14 ct14 oc15 kV15 dc15 pm15 cd15 ct15 oc16 kV16 dc16 pm16 cd16 ct16 oc17 kV17 dc17 pm17 cd17 ct17 oc18 kV18 dc18 pm18 cd18 ct18 : Value}
    (a1 : PySem.W.nsIn K mainGlobals "is_whole" = some (some (.ref f1)))
    (l1 : K.lookup f1 = some ⟨oc1, od1, .func (PySem.W.fnOf "is_whole" "is_whole" (defArgs sIsWhole) (defBody sIsWhole) (defScope sIsWhole) .none kV1 dc1 pm1 an1 cd1 ct1), sl1⟩) (c1 : PySem.W.codeIn K cd1 "is_whole" = true) (k1 : PySem.W.keepIn K (.ref f1) = true)
    (a2 : PySem.W.nsIn K mainGlobals "is_tuple_of" = some (some (.ref f2)))
    (l2 : K.lookup f2 = some ⟨oc2, od2, .func (PySem.W.fnOf "is_tuple_of" "is_tuple_of" (defArgs sTupleOf) (defBody sTupleOf) (defScope sTupleOf) .none kV2 dc2 pm2 an2 cd2 ct2), sl2⟩) (c2 : PySem.W.codeIn K cd2 "is_tuple_of" = true) (k2 : PySem.W.keepIn K (.ref f2) = true)
    (a3 : PySem.W.nsIn K mainGlobals "is_way" = some (some (.ref f3)))
    (l3 : K.lookup f3 = some ⟨oc3, od3, .func (PySem.W.fnOf "is_way" "is_way" (defArgs sIsWay) (defBody sIsWay) (defScope sIsWay) .none kV3 dc3 pm3 an3 cd3 ct3), sl3⟩) (c3 : PySem.W.codeIn K cd3 "is_way" = true) (k3 : PySem.W.keepIn K (.ref f3) = true)
    (a4 : PySem.W.nsIn K mainGlobals "is_ask" = some (some (.ref f4)))
    (l4 : K.lookup f4 = some ⟨oc4, od4, .func (PySem.W.fnOf "is_ask" "is_ask" (defArgs sIsAsk) (defBody sIsAsk) (defScope sIsAsk) .none kV4 dc4 pm4 an4 cd4 ct4), sl4⟩) (c4 : PySem.W.codeIn K cd4 "is_ask" = true) (k4 : PySem.W.keepIn K (.ref f4) = true)
    (a5 : PySem.W.nsIn K mainGlobals "is_house" = some (some (.ref f5)))
    (l5 : K.lookup f5 = some ⟨oc5, od5, .func (PySem.W.fnOf "is_house" "is_house" (defArgs sIsHouse) (defBody sIsHouse) (defScope sIsHouse) .none kV5 dc5 pm5 an5 cd5 ct5), sl5⟩) (c5 : PySem.W.codeIn K cd5 "is_house" = true) (k5 : PySem.W.keepIn K (.ref f5) = true)
    (a6 : PySem.W.nsIn K mainGlobals "kinds_of" = some (some (.ref f6)))
    (l6 : K.lookup f6 = some ⟨oc6, od6, .func (PySem.W.fnOf "kinds_of" "kinds_of" (defArgs sKindsOf) (defBody sKindsOf) (defScope sKindsOf) .none kV6 dc6 pm6 an6 cd6 ct6), sl6⟩) (c6 : PySem.W.codeIn K cd6 "kinds_of" = true) (k6 : PySem.W.keepIn K (.ref f6) = true)
    (a7 : PySem.W.nsIn K mainGlobals "together" = some (some (.ref f7)))
    (l7 : K.lookup f7 = some ⟨oc7, od7, .func (PySem.W.fnOf "together" "together" (defArgs sTogether) (defBody sTogether) (defScope sTogether) .none kV7 dc7 pm7 an7 cd7 ct7), sl7⟩) (c7 : PySem.W.codeIn K cd7 "together" = true) (k7 : PySem.W.keepIn K (.ref f7) = true)
    (a8 : PySem.W.nsIn K mainGlobals "beside" = some (some (.ref f8)))
    (l8 : K.lookup f8 = some ⟨oc8, od8, .func (PySem.W.fnOf "beside" "beside" (defArgs sBeside) (defBody sBeside) (defScope sBeside) .none kV8 dc8 pm8 an8 cd8 ct8), sl8⟩) (c8 : PySem.W.codeIn K cd8 "beside" = true) (k8 : PySem.W.keepIn K (.ref f8) = true)
    (a9 : PySem.W.nsIn K mainGlobals "times" = some (some (.ref f9)))
    (l9 : K.lookup f9 = some ⟨oc9, od9, .func (PySem.W.fnOf "times" "times" (defArgs sTimes) (defBody sTimes) (defScope sTimes) .none kV9 dc9 pm9 an9 cd9 ct9), sl9⟩) (c9 : PySem.W.codeIn K cd9 "times" = true) (k9 : PySem.W.keepIn K (.ref f9) = true)
    (a10 : PySem.W.nsIn K mainGlobals "_law_open" = some (some (.ref f10)))
    (l10 : K.lookup f10 = some ⟨oc10, od10, .func (PySem.W.fnOf "_law_open" "_law_open" (defArgs sOpen) (defBody sOpen) (defScope sOpen) .none kV10 dc10 pm10 an10 cd10 ct10), sl10⟩) (c10 : PySem.W.codeIn K cd10 "_law_open" = true) (k10 : PySem.W.keepIn K (.ref f10) = true)
    (a11 : PySem.W.nsIn K mainGlobals "_law_spread" = some (some (.ref f11)))
    (l11 : K.lookup f11 = some ⟨oc11, od11, .func (PySem.W.fnOf "_law_spread" "_law_spread" (defArgs sSpread) (defBody sSpread) (defScope sSpread) .none kV11 dc11 pm11 an11 cd11 ct11), sl11⟩) (c11 : PySem.W.codeIn K cd11 "_law_spread" = true) (k11 : PySem.W.keepIn K (.ref f11) = true)
    (a12 : PySem.W.nsIn K mainGlobals "_law_take" = some (some (.ref f12)))
    (l12 : K.lookup f12 = some ⟨oc12, od12, .func (PySem.W.fnOf "_law_take" "_law_take" (defArgs sTake) (defBody sTake) (defScope sTake) .none kV12 dc12 pm12 an12 cd12 ct12), sl12⟩) (c12 : PySem.W.codeIn K cd12 "_law_take" = true) (k12 : PySem.W.keepIn K (.ref f12) = true)
    (a13 : PySem.W.nsIn K mainGlobals "_law_same" = some (some (.ref f13)))
    (l13 : K.lookup f13 = some ⟨oc13, od13, .func (PySem.W.fnOf "_law_same" "_law_same" (defArgs sSame) (defBody sSame) (defScope sSame) .none kV13 dc13 pm13 an13 cd13 ct13), sl13⟩) (c13 : PySem.W.codeIn K cd13 "_law_same" = true) (k13 : PySem.W.keepIn K (.ref f13) = true)
    (a14 : PySem.W.nsIn K mainGlobals "_law_house" = some (some (.ref f14)))
    (l14 : K.lookup f14 = some ⟨oc14, od14, .func (PySem.W.fnOf "_law_house" "_law_house" (defArgs sHouse) (defBody sHouse) (defScope sHouse) .none kV14 dc14 pm14 an14 cd14 ct14), sl14⟩) (c14 : PySem.W.codeIn K cd14 "_law_house" = true) (k14 : PySem.W.keepIn K (.ref f14) = true)
    (a15 : PySem.W.nsIn K mainGlobals "_law_wide" = some (some (.ref f15)))
    (l15 : K.lookup f15 = some ⟨oc15, od15, .func (PySem.W.fnOf "_law_wide" "_law_wide" (defArgs sWideL) (defBody sWideL) (defScope sWideL) .none kV15 dc15 pm15 an15 cd15 ct15), sl15⟩) (c15 : PySem.W.codeIn K cd15 "_law_wide" = true) (k15 : PySem.W.keepIn K (.ref f15) = true)
    (a16 : PySem.W.nsIn K mainGlobals "_law_many_times" = some (some (.ref f16)))
    (l16 : K.lookup f16 = some ⟨oc16, od16, .func (PySem.W.fnOf "_law_many_times" "_law_many_times" (defArgs sManyL) (defBody sManyL) (defScope sManyL) .none kV16 dc16 pm16 an16 cd16 ct16), sl16⟩) (c16 : PySem.W.codeIn K cd16 "_law_many_times" = true) (k16 : PySem.W.keepIn K (.ref f16) = true)
    (a17 : PySem.W.nsIn K mainGlobals "_law_long_right" = some (some (.ref f17)))
    (l17 : K.lookup f17 = some ⟨oc17, od17, .func (PySem.W.fnOf "_law_long_right" "_law_long_right" (defArgs sLongR) (defBody sLongR) (defScope sLongR) .none kV17 dc17 pm17 an17 cd17 ct17), sl17⟩) (c17 : PySem.W.codeIn K cd17 "_law_long_right" = true) (k17 : PySem.W.keepIn K (.ref f17) = true)
    (a18 : PySem.W.nsIn K mainGlobals "law" = some (some (.ref f18)))
    (l18 : K.lookup f18 = some ⟨oc18, od18, .func (PySem.W.fnOf "law" "law" (defArgs sLaw45) (defBody sLaw45) (defScope sLaw45) .none kV18 dc18 pm18 an18 cd18 ct18), sl18⟩) (c18 : PySem.W.codeIn K cd18 "law" = true) (k18 : PySem.W.keepIn K (.ref f18) = true)
    (z1 : PySem.W.nsIn K mainGlobals "isinstance" = some none)
    (z2 : PySem.W.nsIn K mainGlobals "int" = some none)
    (z3 : PySem.W.nsIn K mainGlobals "bool" = some none)
    (z4 : PySem.W.nsIn K mainGlobals "tuple" = some none)
    (z5 : PySem.W.nsIn K mainGlobals "str" = some none)
    (z6 : PySem.W.nsIn K mainGlobals "list" = some none)
    (z7 : PySem.W.nsIn K mainGlobals "len" = some none)
    (z8 : PySem.W.nsIn K mainGlobals "zip" = some none)
    (z9 : PySem.W.nsIn K mainGlobals "all" = some none)
    (z10 : PySem.W.nsIn K mainGlobals "abs" = some none)
    (z11 : PySem.W.nsIn K mainGlobals "range" = some none)
    (z12 : PySem.W.nsIn K mainGlobals "enumerate" = some none)
    (z13 : PySem.W.nsIn K mainGlobals "repr" = some none)
    (z14 : PySem.W.nsIn K mainGlobals "min" = some none)
    {taK taW taA taN : Tok}
    (aK : PySem.W.nsIn K mainGlobals "MOST_KINDS" = some (some (.int 4 taK)))
    (aW : PySem.W.nsIn K mainGlobals "MOST_WAYS" = some (some (.int 5 taW)))
    (aA : PySem.W.nsIn K mainGlobals "MOST_ASKS" = some (some (.int 8 taA)))
    (aN : PySem.W.nsIn K mainGlobals "MOST_IN_A_WAY" = some (some (.int 99 taN)))
    : ∃ fd : FuncData, (∀ (s : Shared) (v : Value), BindsTo s fd ⟨[v], []⟩ [("script", v)]) ∧ ∀ base : Heap, K.In base → base.Ns mainGlobals mg → FnG l.prog w K mg base 8 fa fd ["script"] (spLaw45 K) := by
  have e := hfa.symm.trans (PySem.W.mg_of X G a18)
  cases e
  have F1 := fun_mk (st := sIsWhole) l1 c1 k1
  have g1 := PySem.W.mg_of X G a1
  have b1 := F1.binds (ps := ["thing"]) fun _ _ _ _ _ _ us hl => match us, hl with | [_], _ => rfl
  have F2 := fun_mk (st := sTupleOf) l2 c2 k2
  have g2 := PySem.W.mg_of X G a2
  have b2 := F2.binds (ps := ["thing", "most"]) fun _ _ _ _ _ _ us hl => match us, hl with | [_, _], _ => rfl
  have F3 := fun_mk (st := sIsWay) l3 c3 k3
  have g3 := PySem.W.mg_of X G a3
  have b3 := F3.binds (ps := ["thing"]) fun _ _ _ _ _ _ us hl => match us, hl with | [_], _ => rfl
  have F4 := fun_mk (st := sIsAsk) l4 c4 k4
  have g4 := PySem.W.mg_of X G a4
  have b4 := F4.binds (ps := ["thing"]) fun _ _ _ _ _ _ us hl => match us, hl with | [_], _ => rfl
  have F5 := fun_mk (st := sIsHouse) l5 c5 k5
  have g5 := PySem.W.mg_of X G a5
  have b5 := F5.binds (ps := ["thing"]) fun _ _ _ _ _ _ us hl => match us, hl with | [_], _ => rfl
  have F6 := fun_mk (st := sKindsOf) l6 c6 k6
  have g6 := PySem.W.mg_of X G a6
  have b6 := F6.binds (ps := ["house"]) fun _ _ _ _ _ _ us hl => match us, hl with | [_], _ => rfl
  have F7 := fun_mk (st := sTogether) l7 c7 k7
  have g7 := PySem.W.mg_of X G a7
  have b7 := F7.binds (ps := ["house", "other"]) fun _ _ _ _ _ _ us hl => match us, hl with | [_, _], _ => rfl
  have F8 := fun_mk (st := sBeside) l8 c8 k8
  have g8 := PySem.W.mg_of X G a8
  have b8 := F8.binds (ps := ["house", "other"]) fun _ _ _ _ _ _ us hl => match us, hl with | [_, _], _ => rfl
  have F9 := fun_mk (st := sTimes) l9 c9 k9
  have g9 := PySem.W.mg_of X G a9
  have b9 := F9.binds (ps := ["house", "m"]) fun _ _ _ _ _ _ us hl => match us, hl with | [_, _], _ => rfl
  have F10 := fun_mk (st := sOpen) l10 c10 k10
  have g10 := PySem.W.mg_of X G a10
  have b10 := F10.binds (ps := ["script"]) fun _ _ _ _ _ _ us hl => match us, hl with | [_], _ => rfl
  have F11 := fun_mk (st := sSpread) l11 c11 k11
  have g11 := PySem.W.mg_of X G a11
  have b11 := F11.binds (ps := ["cell", "at"]) fun _ _ _ _ _ _ us hl => match us, hl with | [_, _], _ => rfl
  have F12 := fun_mk (st := sTake) l12 c12 k12
  have g12 := PySem.W.mg_of X G a12
  have b12 := F12.binds (ps := ["pen", "amount"]) fun _ _ _ _ _ _ us hl => match us, hl with | [_, _], _ => rfl
  have F13 := fun_mk (st := sSame) l13 c13 k13
  have g13 := PySem.W.mg_of X G a13
  have b13 := F13.binds (ps := ["found", "due"]) fun _ _ _ _ _ _ us hl => match us, hl with | [_, _], _ => rfl
  have F14 := fun_mk (st := sHouse) l14 c14 k14
  have g14 := PySem.W.mg_of X G a14
  have b14 := F14.binds (ps := ["pen", "kinds", "asks", "ways", "size"]) fun _ _ _ _ _ _ us hl => match us, hl with | [_, _, _, _, _], _ => rfl
  have F15 := fun_mk (st := sWideL) l15 c15 k15
  have g15 := PySem.W.mg_of X G a15
  have b15 := F15.binds (ps := ["house", "ahead", "behind"]) fun _ _ _ _ _ _ us hl => match us, hl with | [_, _, _], _ => rfl
  have F16 := fun_mk (st := sManyL) l16 c16 k16
  have g16 := PySem.W.mg_of X G a16
  have b16 := F16.binds (ps := ["house", "many"]) fun _ _ _ _ _ _ us hl => match us, hl with | [_, _], _ => rfl
  have F17 := fun_mk (st := sLongR) l17 c17 k17
  have g17 := PySem.W.mg_of X G a17
  have b17 := F17.binds (ps := ["pen", "kinds"]) fun _ _ _ _ _ _ us hl => match us, hl with | [_, _], _ => rfl
  have F18 := fun_mk (st := sLaw45) l18 c18 k18
  have g18 := PySem.W.mg_of X G a18
  have m_isinstance := PySem.W.mg_none_of X G z1
  have m_int := PySem.W.mg_none_of X G z2
  have m_bool := PySem.W.mg_none_of X G z3
  have m_tuple := PySem.W.mg_none_of X G z4
  have m_str := PySem.W.mg_none_of X G z5
  have m_list := PySem.W.mg_none_of X G z6
  have m_len := PySem.W.mg_none_of X G z7
  have m_zip := PySem.W.mg_none_of X G z8
  have m_all := PySem.W.mg_none_of X G z9
  have m_abs := PySem.W.mg_none_of X G z10
  have m_range := PySem.W.mg_none_of X G z11
  have m_enumerate := PySem.W.mg_none_of X G z12
  have m_repr := PySem.W.mg_none_of X G z13
  have m_min := PySem.W.mg_none_of X G z14
  refine ⟨PySem.W.fnOf "law" "law" (defArgs sLaw45) (defBody sLaw45) (defScope sLaw45) .none kV18 dc18 pm18 an18 cd18 ct18, fun s v => .of_eq rfl, fun base _ _ => ?_⟩
  have B : Blt mg := ⟨m_isinstance, m_bool, m_int, m_str, m_tuple, m_list, m_len, m_zip⟩
  have gK := PySem.W.mg_of X G aK
  have gW := PySem.W.mg_of X G aW
  have gA := PySem.W.mg_of X G aA
  have gN := PySem.W.mg_of X G aN
  have I1 := ok_isWhole (P := l.prog) (w := w) (base := base) (k := 0) F1 m_isinstance m_int m_bool
  have I2 := ok_tupleOf (P := l.prog) (w := w) (base := base) (k := 0) F2 m_isinstance m_tuple m_len
  have I3 := ok_isWay (k := 0) F3 I2 F2.kp b2 g2 I1 F1.kp b1 g1 gK gN m_all m_abs
  have I4 := ok_isAsk (k := 0) F4 (I2.mono (by decide)) F2.kp b2 g2 I3 F3.kp b3 g3 gW m_all
  have I5 := ok_kindsLen (P := l.prog) (w := w) (base := base) (k := 0) F6 m_len
  have I6 := ok_isHouse (k := 0) F5 (I2.mono (by decide)) F2.kp b2 g2 I4 F4.kp b4 g4 (I5.mono (by decide)) F6.kp b6 g6 gA m_all m_len
  have P7 := ok_kindsOf (P := l.prog) (w := w) (base := base) (k := 0) F6 m_len
  have J1 := ok_together (P := l.prog) (w := w) (mg := mg) (base := base) (K := K) (k := 0) F7
  have J2 := ok_beside (k := 0) F8 P7 F6.kp b6 g6 m_tuple
  have J3 := ok_times (P := l.prog) (w := w) (base := base) (k := 0) F9 m_tuple
  have GO : FnOk l.prog w K mg base CX0 1 f10 _ ["script"] (spOpen K) := ok_open (k := 0) F10 m_list m_enumerate
  have GT : FnOk l.prog w K mg base CX0 2 f12 _ ["pen", "amount"] spTake := ok_take (k := 0) F12 F11 b11 g11 m_len
  have GQ : FnOk l.prog w K mg base CX0 6 f13 _ ["found", "due"] (spSame K 5) := ok_same F13 b13 g13 B 5
  have GH := ok_house (k := 0) (base := base) (P := l.prog) (w := w) F14 GT F12.kp b12 g12 m_range m_tuple m_len
  have GW := ok_wideL (P := l.prog) (w := w) (base := base) (k := 0) F15 m_tuple
  have GN := ok_manyL (P := l.prog) (w := w) (base := base) (k := 0) F16 m_tuple
  have T : Txt45 mg f14 f7 f8 f15 f13 f5 := ⟨g14, g7, g8, g15, g13, g5, m_len⟩
  have C6 : Fns45 l.prog w K mg base f14 f7 f8 f15 f13 f5 _ _ _ _ _ _ 6 := ⟨GH.mono (by decide), F14.kp, b14, J1.mono (by decide), F7.kp, b7, J2.mono (by decide), F8.kp, b8, GW.mono (by decide), F15.kp, b15, GQ, F13.kp, b13, I6.mono (by decide), F5.kp, b5⟩
  have C7 : Fns45 l.prog w K mg base f14 f7 f8 f15 f13 f5 _ _ _ _ _ _ 7 := ⟨GH.mono (by decide), F14.kp, b14, J1.mono (by decide), F7.kp, b7, J2.mono (by decide), F8.kp, b8, GW.mono (by decide), F15.kp, b15, GQ.mono (by decide), F13.kp, b13, I6.mono (by decide), F5.kp, b5⟩
  have GX := ok_longR F17 T C6
  exact ok_law45 F18 ⟨g10, g12, g9, g16, g17, m_range, m_repr, m_min⟩ T C7 (GO.mono (by decide)) F10.kp b10 (GT.mono (by decide)) F12.kp b12 (J3.mono (by decide)) F9.kp b9 (GN.mono (by decide)) F16.kp b16 GX F17.kp b17
end My
open PySem PySem.W PyProof.Rows
set_option maxRecDepth 100000 in
set_option maxHeartbeats 0 in
theorem PySem.Challenge.cw_everstock_k45_houses_put_together_holds : PySem.Challenge.rw_everstock_k45_houses_put_together.Holds := by
  w_on; o_law; k_head; (case hw => w_witness2)
  k_fill
  refine My.walkG (l := PySem.Challenge.rw_everstock_k45_houses_put_together) (k := 8) (x := "script") (sp := My.spLaw45) rfl rfl ⟨rfl, by decide, by decide⟩ (fun w h Y => PySem.W.kIn_of Y) ?F (fun K H a ns hl _ hS => ⟨a, ns, rfl, hS, hl, fun _ => rfl⟩)
  case F =>
    intro w mg fa h KX G hmg
    refine' My.all_mk KX G hmg ?a1 ?l1 ?c1 ?k1 ?a2 ?l2 ?c2 ?k2 ?a3 ?l3 ?c3 ?k3 ?a4 ?l4 ?c4 ?k4 ?a5 ?l5 ?c5 ?k5 ?a6 ?l6 ?c6 ?k6 ?a7 ?l7 ?c7 ?k7 ?a8 ?l8 ?c8 ?k8 ?a9 ?l9 ?c9 ?k9 ?a10 ?l10 ?c10 ?k10 ?a11 ?l11 ?c11 ?k11 ?a12 ?l12 ?c12 ?k12 ?a13 ?l13 ?c13 ?k13 ?a14 ?l14 ?c14 ?k14 ?a15 ?l15 ?c15 ?k15 ?a16 ?l16 ?c16 ?k16 ?a17 ?l17 ?c17 ?k17 ?a18 ?l18 ?c18 ?k18 ?z1 ?z2 ?z3 ?z4 ?z5 ?z6 ?z7 ?z8 ?z9 ?z10 ?z11 ?z12 ?z13 ?z14 ?aK ?aW ?aA ?aN
    (case a1 => k_is); (case l1 => k_is); (case c1 => k_is); (case k1 => k_is); (case a2 => k_is); (case l2 => k_is); (case c2 => k_is); (case k2 => k_is); (case a3 => k_is); (case l3 => k_is); (case c3 => k_is); (case k3 => k_is); (case a4 => k_is); (case l4 => k_is); (case c4 => k_is); (case k4 => k_is); (case a5 => k_is); (case l5 => k_is); (case c5 => k_is); (case k5 => k_is); (case a6 => k_is); (case l6 => k_is); (case c6 => k_is); (case k6 => k_is); (case a7 => k_is); (case l7 => k_is); (case c7 => k_is); (case k7 => k_is); (case a8 => k_is); (case l8 => k_is); (case c8 => k_is); (case k8 => k_is); (case a9 => k_is); (case l9 => k_is); (case c9 => k_is); (case k9 => k_is); (case a10 => k_is); (case l10 => k_is); (case c10 => k_is); (case k10 => k_is); (case a11 => k_is); (case l11 => k_is); (case c11 => k_is); (case k11 => k_is); (case a12 => k_is); (case l12 => k_is); (case c12 => k_is); (case k12 => k_is); (case a13 => k_is); (case l13 => k_is); (case c13 => k_is); (case k13 => k_is); (case a14 => k_is); (case l14 => k_is); (case c14 => k_is); (case k14 => k_is); (case a15 => k_is); (case l15 => k_is); (case c15 => k_is); (case k15 => k_is); (case a16 => k_is); (case l16 => k_is); (case c16 => k_is); (case k16 => k_is); (case a17 => k_is); (case l17 => k_is); (case c17 => k_is); (case k17 => k_is); (case a18 => k_is); (case l18 => k_is); (case c18 => k_is); (case k18 => k_is); (case z1 => k_is); (case z2 => k_is); (case z3 => k_is); (case z4 => k_is); (case z5 => k_is); (case z6 => k_is); (case z7 => k_is); (case z8 => k_is); (case z9 => k_is); (case z10 => k_is); (case z11 => k_is); (case z12 => k_is); (case z13 => k_is); (case z14 => k_is); (case aK => k_is); (case aW => k_is); (case aA => k_is); (case aN => k_is)
#print axioms PySem.Challenge.cw_everstock_k45_houses_put_together_holds
