import PyProof.Rows.All
import Wide.All
import OpenK.AllK
import Wide.FinOn
import HandS.ForMost
import HandS.Codes
import HandS.IsInst
import HandS.Walk
import HandS.Zip
import HandS.TupSets
import HandS.SortOrd
import HandS.NamedTupSort
import HandS.TupMul
import HandS.TupAny
import KE.DataMinMax
import HandS.Zip0
import HandS.Flt
import HandS.TryOnly
import KE.GoesZip
import KE.KTupSum
import PySem.Challenge.RW_everstock_k46_whole_lasting_in_both
set_option Elab.async false
set_option linter.all false
set_option maxRecDepth 100000
set_option maxHeartbeats 4000000
namespace My
open PySem PySem.Spec PyProof.Rows L2
/-! ### the tables of sets of tuples, up to 4914 of them -/
/-- each slot begins a run early enough -/
structure MOk (m : Nat) : Prop where
  full : ∀ (h : Int) (j : Nat), j ≤ m → ∃ n, n ≤ m + 12 ∧ runI m (SetTable.bits h) n = j
  odd : m % 2 = 1
  few : m ≤ 9000
theorem mok_of {m : Nat} (q : MaskOk m) : MOk m := ⟨fun h _ hj => run_meets q h hj, mask_odd q, by rcases q with rfl | rfl | rfl <;> decide⟩
/-- the slots that are met, as bits -/
def orb (m : Nat) : Nat → Nat → Nat → Nat
  | 0, _, acc => acc
  | n + 1, x, acc => orb m n ((x * 5 + 1) % (m + 1)) (acc ||| 2 ^ x)
theorem lcgI_front (m : Nat) : ∀ k x, lcgI m x (k + 1) = lcgI m ((x * 5 + 1) % (m + 1)) k
  | 0, _ => rfl
  | k + 1, x => by
    show (lcgI m x (k + 1) * 5 + 1) % (m + 1) = (lcgI m ((x * 5 + 1) % (m + 1)) k * 5 + 1) % (m + 1)
    rw [lcgI_front m k x]
theorem orb_bit (m : Nat) : ∀ n x acc j, (orb m n x acc).testBit j = true → acc.testBit j = true ∨ ∃ k, k < n ∧ lcgI m x k = j
  | 0, _, _, _, h => .inl h
  | n + 1, x, acc, j, h => by
    rcases orb_bit m n _ _ j h with z | ⟨k, hk, e⟩
    · rw [Nat.testBit_or, Bool.or_eq_true, Nat.testBit_two_pow, decide_eq_true_eq] at z
      rcases z with z | z
      · exact .inl z
      · exact .inr ⟨0, Nat.succ_pos n, z⟩
    · exact .inr ⟨k + 1, Nat.succ_lt_succ hk, (lcgI_front m k x).trans e⟩
theorem lcgI_plus (m x a : Nat) : ∀ k, lcgI m (lcgI m x a) k = lcgI m x (a + k)
  | 0 => rfl
  | k + 1 => by
    show (lcgI m (lcgI m x a) k * 5 + 1) % (m + 1) = (lcgI m x (a + k) * 5 + 1) % (m + 1)
    rw [lcgI_plus m x a k]
theorem mok_by {m : Nat} (c : orb m (m + 1) 0 0 = 2 ^ (m + 1) - 1) (r : lcgI m 0 (m + 1) = 0) (o : m % 2 = 1) (f : m ≤ 9000) : MOk m := by
  have hit : ∀ j, j ≤ m → ∃ b, b ≤ m ∧ lcgI m 0 b = j := fun j hj => by
    have z : (orb m (m + 1) 0 0).testBit j = true := by
      rw [c, Nat.testBit_two_pow_sub_one, decide_eq_true_eq]
      omega
    rcases orb_bit m _ _ _ j z with z | ⟨k, hk, e⟩
    · rw [Nat.zero_testBit] at z
      cases z
    · exact ⟨k, by omega, e⟩
  have again : ∀ k, lcgI m 0 (m + 1 + k) = lcgI m 0 k := fun k => by rw [← lcgI_plus, r]
  refine ⟨fun h j hj => ?_, o, f⟩
  obtain ⟨a, ha, ea⟩ := hit _ (runI_le m (SetTable.bits h) 12)
  obtain ⟨b, hb, eb⟩ := hit j hj
  have reach : ∃ k, k ≤ m ∧ lcgI m (runI m (SetTable.bits h) 12) k = j := by
    rw [← ea]
    by_cases lt : b < a
    · refine ⟨b + (m + 1) - a, by omega, ?_⟩
      rw [lcgI_plus, show a + (b + (m + 1) - a) = m + 1 + b by omega, again, eb]
    · exact ⟨b - a, by omega, by rw [lcgI_plus, show a + (b - a) = b by omega, eb]⟩
  obtain ⟨k, hk, e⟩ := reach
  exact ⟨12 + k, by omega, (runI_tail (bits_lt h) k).trans e⟩
theorem mok_2047 : MOk 2047 := mok_by (by decide +kernel) (by decide +kernel) rfl (by decide)
theorem mok_8191 : MOk 8191 := mok_by (by decide +kernel) (by decide +kernel) rfl (by decide)
theorem mok_511 : MOk 511 := mok_by (by decide +kernel) (by decide +kernel) rfl (by decide)
theorem way_in {m : Nat} (h : Int) (k : Nat) : way m h k ≤ m := by
  have hi : SetTable.bits h % (m + 1) ≤ m := by have := Nat.mod_lt (SetTable.bits h) (show 0 < m + 1 by omega); omega
  have hr := runEnd_bd hi
  have z := nth_in k (runAt m (SetTable.bits h % (m + 1)) (SetTable.bits h)) (show SetTable.bits h % (m + 1) + (SetTable.runEnd m (SetTable.bits h % (m + 1)) - SetTable.bits h % (m + 1)) ≤ m by omega)
  exact Nat.le_trans (Nat.le_add_right _ _) z
theorem MOk.meets {m : Nat} (q : MOk m) (h : Int) {j : Nat} (hj : j ≤ m) : ∃ k, k < 10 * SetTable.turns m ∧ way m h k = j := by
  obtain ⟨n, hn, e⟩ := q.full h j hj
  obtain ⟨k, hk, z⟩ := run_nth m (SetTable.bits h) n
  exact ⟨k, by unfold SetTable.turns; omega, (congrArg SetTable.Probe.j z).trans e⟩

/-! ### a table that is found through -/
structure TabG (t : SetTable) (hs : List Int) : Prop where
  up : Ris t.place.toList
  nod : t.dummies = #[]
  cnt : t.place.size = hs.length
  mok : MOk t.mask
  le : ∀ x ∈ t.place.toList, x ≤ t.mask
  met : ∀ (i : Nat) (h : Int) (j : Nat), hs[i]? = some h → t.place.toList[i]? = some j → ∃ k, way t.mask h k = j ∧ ∀ c, c < k → way t.mask h c ∈ t.place.toList
theorem TabG.first {t : SetTable} {hs : List Int} (T : TabG t hs) (hl : hs.length ≤ t.mask) (h : Int) : ∃ K, K < 10 * SetTable.turns t.mask ∧ way t.mask h K ∉ t.place.toList ∧ ∀ c, c < K → way t.mask h c ∈ t.place.toList := by
  obtain ⟨j, hj, hn⟩ := st_missing t.place.toList (t.mask + 1) (by rw [Array.length_toList, T.cnt]; omega)
  obtain ⟨k, hk, e⟩ := T.mok.meets h (j := j) (by omega)
  subst e
  obtain ⟨K, h1, h2, h3⟩ := st_least (p := fun c => way t.mask h c ∉ t.place.toList) k hn
  exact ⟨K, by omega, h2, fun c hc => Classical.byContradiction fun z => h3 c hc z⟩
theorem TabG.ahead {t : SetTable} {hs : List Int} (T : TabG t hs) {h : Int} {K i j : Nat} (hK : way t.mask h K ∉ t.place.toList) (hi : hs[i]? = some h) (hj : t.place.toList[i]? = some j) : ∃ k, k < K ∧ way t.mask h k = j := by
  obtain ⟨k, e, hb⟩ := T.met i h j hi hj
  refine ⟨k, Nat.lt_of_not_le fun c => ?_, e⟩
  rcases Nat.lt_or_eq_of_le c with c | c
  · exact hK (hb K c)
  · rw [c, e] at hK
    exact hK (List.mem_of_getElem? hj)
theorem TabG.put {t : SetTable} {hs : List Int} (T : TabG t hs) {h : Int} {K : Nat} (hK : way t.mask h K ∉ t.place.toList) (hb : ∀ c, c < K → way t.mask h c ∈ t.place.toList) {p : Nat} (hp : p = SetTable.below t.place (way t.mask h K)) :
    (t.put (way t.mask h K)).2 = p ∧ p ≤ hs.length ∧ TabG (t.put (way t.mask h K)).1 (hs.take p ++ h :: hs.drop p) ∧ (t.put (way t.mask h K)).1.fill = hs.length + 1 := by
  subst hp
  have wl := way_in (m := t.mask) h K
  obtain ⟨cut, _, _⟩ := below_cut T.up (way t.mask h K)
  have l1 : SetTable.below t.place (way t.mask h K) ≤ t.place.toList.length := by rw [Array.length_toList]; exact cut
  have l2 : SetTable.below t.place (way t.mask h K) ≤ hs.length := by rw [← T.cnt]; exact cut
  have l3 : t.place.toList.length = hs.length := by rw [Array.length_toList, T.cnt]
  have pl := put_place t (way t.mask h K)
  have sz : (t.put (way t.mask h K)).1.place.size = hs.length + 1 := by rw [← Array.length_toList, pl, len_ins _ l1, l3]
  have more : ∀ {x : Nat}, x ∈ t.place.toList → x ∈ (t.put (way t.mask h K)).1.place.toList := fun m => by rw [pl]; exact mem_ins.2 (.inr m)
  have fr : t.place[SetTable.below t.place (way t.mask h K)]? ≠ some (way t.mask h K) := fun e => hK (List.mem_of_getElem? (by rw [Array.getElem?_toList]; exact e))
  refine ⟨rfl, l2, ⟨ris_insert T.up fr, put_dm T.nod _, by rw [len_ins _ l2]; exact sz, T.mok, fun x hx => ?_, fun i g j a b => ?_⟩, ?_⟩
  · rw [pl] at hx
    rcases mem_ins.1 hx with rfl | z
    · exact wl
    · exact T.le x z
  · rw [pl, tins_get _ l1] at b
    rw [tins_get hs l2] at a
    show ∃ k, way t.mask g k = j ∧ ∀ c, c < k → way t.mask g c ∈ (t.put (way t.mask h K)).1.place.toList
    rcases Nat.lt_trichotomy i (SetTable.below t.place (way t.mask h K)) with c | c | c
    · rw [if_pos c] at a b
      obtain ⟨k, e, z⟩ := T.met i g j a b
      exact ⟨k, e, fun c hc => more (z c hc)⟩
    · rw [if_neg (by omega), if_pos c] at a b
      cases a
      cases b
      exact ⟨K, rfl, fun c hc => more (hb c hc)⟩
    · rw [if_neg (by omega), if_neg (by omega)] at a b
      obtain ⟨k, e, z⟩ := T.met _ g j a b
      exact ⟨k, e, fun c hc => more (z c hc)⟩
  · unfold SetTable.fill
    rw [sz, put_dm T.nod]
    rfl

/-! ### laid anew -/
theorem free_at {m : Nat} (q : MOk m) (owner : Array (Option Nat)) (h : Int) {j : Nat} (hj : j ≤ m) (hf : oAt owner j = none) :
    ∃ K, SetTable.layClean.free m owner (SetTable.turns m) (SetTable.bits h % (m + 1)) (SetTable.bits h) = some (way m h K) ∧ oAt owner (way m h K) = none ∧ ∀ c, c < K → oAt owner (way m h c) ≠ none := by
  obtain ⟨n, hn, e⟩ := q.full h j hj
  have hw : way m h (off m (SetTable.bits h % (m + 1)) (SetTable.bits h) n) = j := by
    unfold way
    rw [nth_off, itL_run]
    exact e
  obtain ⟨K, k1, k2, k3⟩ := st_least (p := fun c => oAt owner (way m h c) = none) (off m (SetTable.bits h % (m + 1)) (SetTable.bits h) n) (hw.symm ▸ hf)
  refine ⟨K, free_spec m owner _ n _ _ K (by unfold SetTable.turns; omega) k1 (fun c hc => ?_) (Option.isNone_iff_eq_none.mpr k2), k2, k3⟩
  cases z : oAt owner (way m h c) with
  | none => exact absurd z (k3 c hc)
  | some v => rfl
theorem own_more {m : Nat} (q : MOk m) {done : List Int} {owner : Array (Option Nat)} (W : Own m done owner) (hl : done.length ≤ m) (h : Int) :
    ∃ j, SetTable.layClean.free m owner (SetTable.turns m) (SetTable.bits h % (m + 1)) (SetTable.bits h) = some j ∧ Own m (done ++ [h]) (owner.setIfInBounds j (some done.length)) := by
  obtain ⟨ps, hps, hin⟩ := W.ps
  obtain ⟨j0, h0, hn0⟩ := st_missing ps (m + 1) (by omega)
  have hj0 : oAt owner j0 = none := Classical.byContradiction fun z => hn0 (hin j0 (by omega) z)
  obtain ⟨K, e1, e2, e3⟩ := free_at q owner h (by omega) hj0
  have wl := way_in (m := m) h K
  have at0 := oAt_set_self (owner := owner) (some done.length) (show way m h K < owner.size by rw [W.sz]; omega)
  have oth : ∀ {i}, i ≠ way m h K → oAt (owner.setIfInBounds (way m h K) (some done.length)) i = oAt owner i := fun c => oAt_set_ne _ c
  have stays : ∀ {i : Nat}, oAt owner i ≠ none → oAt (owner.setIfInBounds (way m h K) (some done.length)) i ≠ none := fun {i} hi => by
    by_cases c : i = way m h K
    · rw [c, at0]
      simp
    · rw [oth c]
      exact hi
  refine ⟨_, e1, by rw [Array.size_setIfInBounds, W.sz], fun j k hj e => ?_, fun k hk => ?_, way m h K :: ps, by simp [hps], fun j hj e => ?_⟩
  · by_cases c : j = way m h K
    · rw [c, at0] at e
      cases e
      exact ⟨h, K, by simp, c.symm, fun c hc => stays (e3 c hc)⟩
    · rw [oth c] at e
      obtain ⟨g, G, a1, a2, a3⟩ := W.at_ j k hj e
      exact ⟨g, G, by rw [List.getElem?_append_left (List.getElem?_eq_some_iff.mp a1).1, a1], a2, fun c hc => stays (a3 c hc)⟩
  · rcases Nat.lt_or_eq_of_le (show k ≤ done.length by simp at hk; omega) with c | rfl
    · obtain ⟨j, hj, e⟩ := W.all k c
      exact ⟨j, hj, by rw [oth fun z => by rw [z, e2] at e; cases e]; exact e⟩
    · exact ⟨_, wl, at0⟩
  · by_cases c : j = way m h K
    · simp [c]
    · rw [oth c] at e
      exact List.mem_cons_of_mem _ (hin j hj e)
theorem own_all {m : Nat} (q : MOk m) : ∀ (rest done : List Int) (owner : Array (Option Nat)), Own m done owner → done.length + rest.length ≤ m →
    ∃ o', rest.foldl (stepF m) (some (owner, done.length)) = some (o', (done ++ rest).length) ∧ Own m (done ++ rest) o'
  | [], done, owner, W, _ => ⟨owner, by simp, by simpa using W⟩
  | h :: rest, done, owner, W, hl => by
    simp only [List.length_cons] at hl
    obtain ⟨j, e, W'⟩ := own_more q W (by omega) h
    obtain ⟨o', f, W2⟩ := own_all q rest (done ++ [h]) _ W' (by simp; omega)
    refine ⟨o', ?_, by simpa using W2⟩
    rw [List.foldl_cons, stepF_some e]
    simpa using f
theorem laid_all {m : Nat} (q : MOk m) {hs : Array Int} (hn : hs.size ≤ m) : ∃ owner, SetTable.layClean m hs = some owner ∧ Own m hs.toList owner := by
  obtain ⟨o', f, W⟩ := own_all q hs.toList [] _ (Own.init m) (by simpa using hn)
  exact ⟨o', by rw [layClean_eq, show (0 : Nat) = ([] : List Int).length from rfl, f]; rfl, by simpa using W⟩
theorem relaid_all (t : SetTable) {hs : Array Int} {wanted M : Nat} (hw : SetTable.sizeAbove wanted - 1 = M) (q : MOk M) (hn : hs.size ≤ M) :
    ∃ t' order, t.relaid hs wanted = some (t', order) ∧ order.toList.Perm (List.range hs.size) ∧ TabG t' (order.toList.map fun i => hs.getD i 0) ∧ t'.mask = M ∧ t'.led = t.led ∧ t'.plain = t.plain ∧ t'.dummies = #[] := by
  obtain ⟨owner, e, W⟩ := laid_all q hn
  have ris := ris_live (fun j => owner.getD j none) (List.range (M + 1)) (by unfold Ris; exact List.pairwise_lt_range)
  have r1 : Ris ((liveOf M owner).map (·.1)) := ris.1
  have nd : ((liveOf M owner).map (·.1)).Nodup := r1.imp Nat.ne_of_lt
  have cnt : (liveOf M owner).length = hs.size := by
    obtain ⟨ps, p1, p2⟩ := W.ps
    refine Nat.le_antisymm ?_ ?_
    · have z := nat_nodup_len ((liveOf M owner).map (·.1)) ps nd fun x hx => by
        obtain ⟨⟨y, k⟩, hq, rfl⟩ := List.mem_map.mp hx
        obtain ⟨b1, b2⟩ := (mem_live W.sz).1 hq
        exact p2 y b1 (by rw [b2]; simp)
      rwa [List.length_map, p1, Array.length_toList] at z
    · have z := nat_nodup_len (List.range hs.size) ((liveOf M owner).map (·.2)) List.nodup_range fun k hk => by
        obtain ⟨j, b1, b2⟩ := W.all k (by simpa using hk)
        exact List.mem_map.mpr ⟨(j, k), (mem_live W.sz).2 ⟨b1, b2⟩, rfl⟩
      rwa [List.length_map, List.length_range] at z
  refine ⟨tabOf t M owner, ((liveOf M owner).map (·.2)).toArray, by rw [relaid_eq, hw, e]; rfl, ?_, ⟨r1, rfl, ?_, q, fun x hx => ?_, fun i g j a b => ?_⟩, rfl, rfl, rfl, rfl⟩
  · refine perm_range _ _ (by show ((liveOf M owner).map (·.2)).length = _; rw [List.length_map, cnt]) fun k hk => ?_
    obtain ⟨j, b1, b2⟩ := W.all k (by simpa using hk)
    exact List.mem_map.mpr ⟨(j, k), (mem_live W.sz).2 ⟨b1, b2⟩, rfl⟩
  · show ((liveOf M owner).map (·.1)).toArray.size = (((liveOf M owner).map (·.2)).map fun i => hs.getD i 0).length
    simp
  · obtain ⟨⟨y, k⟩, hq, rfl⟩ := List.mem_map.mp (show x ∈ (liveOf M owner).map (·.1) from hx)
    exact ((mem_live W.sz).1 hq).1
  · have a' : (((liveOf M owner).map (·.2)).map fun i => hs.getD i 0)[i]? = some g := a
    have b' : ((liveOf M owner).map (·.1))[i]? = some j := b
    simp only [List.getElem?_map, Option.map_map, Option.map_eq_some_iff] at a' b'
    obtain ⟨⟨y, k⟩, hq, ea⟩ := a'
    obtain ⟨z, hz, eb⟩ := b'
    rw [hq] at hz
    cases hz
    subst eb
    obtain ⟨b1, b2⟩ := (mem_live W.sz).1 (List.mem_of_getElem? hq)
    obtain ⟨h0, K, a1, a2, a3⟩ := W.at_ y k b1 b2
    have e0 : hs.getD k 0 = h0 := by
      rw [Array.getD_eq_getD_getElem?, ← Array.getElem?_toList, a1]
      rfl
    obtain rfl : h0 = g := e0.symm.trans ea
    refine ⟨K, a2, fun c hc => ?_⟩
    show way M h0 c ∈ (liveOf M owner).map (·.1)
    cases z : oAt owner (way M h0 c) with
    | none => exact absurd z (a3 c hc)
    | some k2 => exact List.mem_map.mpr ⟨(way M h0 c, k2), (mem_live W.sz).2 ⟨way_in h0 c, z⟩, rfl⟩
theorem grow_307 : SetTable.sizeAbove (SetTable.grown 307) = 2048 := by decide +kernel
theorem grow_1229 : SetTable.sizeAbove (SetTable.grown 1229) = 8192 := by decide +kernel
theorem grow_77 : SetTable.sizeAbove (SetTable.grown 77) = 512 := by decide +kernel
/-! ### a set of tuples of ints, in such a table -/
def Mk6 (m : Nat) : Prop := m = 7 ∨ m = 31 ∨ m = 127 ∨ m = 511 ∨ m = 2047 ∨ m = 8191
theorem Mk6.mok {m : Nat} (q : Mk6 m) : MOk m := by
  rcases q with h | h | h | h | h | h
  · exact mok_of (.inl h)
  · exact mok_of (.inr (.inl h))
  · exact mok_of (.inr (.inr h))
  · rw [h]; exact mok_511
  · rw [h]; exact mok_2047
  · rw [h]; exact mok_8191
theorem grow_next {m n : Nat} (q : Mk6 m) (room : n * 5 < m * 3) (full : (n + 1) * 5 ≥ m * 3) (few : n + 1 < 4915) :
    ∃ M, SetTable.sizeAbove (SetTable.grown (n + 1)) - 1 = M ∧ Mk6 M ∧ SetTable.sizeAbove (SetTable.grown (n + 1)) ≤ 8192 ∧ (n + 1) * 5 < M * 3 ∧ n + 1 ≤ m := by
  rcases q with h | h | h | h | h | h <;> subst h
  · obtain rfl : n = 4 := by omega
    exact ⟨31, by rw [size_20], .inr (.inl rfl), by rw [size_20]; decide, by decide, by decide⟩
  · obtain rfl : n = 18 := by omega
    exact ⟨127, by rw [size_76], .inr (.inr (.inl rfl)), by rw [size_76]; decide, by decide, by decide⟩
  · obtain rfl : n = 76 := by omega
    exact ⟨511, by rw [grow_77], .inr (.inr (.inr (.inl rfl))), by rw [grow_77]; decide, by decide, by decide⟩
  · obtain rfl : n = 306 := by omega
    exact ⟨2047, by rw [grow_307], .inr (.inr (.inr (.inr (.inl rfl)))), by rw [grow_307]; decide, by decide, by decide⟩
  · obtain rfl : n = 1228 := by omega
    exact ⟨8191, by rw [grow_1229], .inr (.inr (.inr (.inr (.inr rfl)))), by rw [grow_1229]; decide, by decide, by decide⟩
  · omega
structure SetG (P : Program) (w : World) (h : Heap) (a : Addr) (L : List (Addr × List Int)) (es : Array (Int × Value)) (ep : Nat) (t : SetTable) : Prop where
  obj : ∃ u, h.get? a = some u ∧ u.ExactSet ∧ u.data = .set es ep t
  rws : es.toList = rowsOf P w L
  tb : TabG t (L.map fun p => thash P w p.2)
  once : (L.map (·.2)).Nodup
  tups : ∀ p ∈ L, IsT P w h p.2 p.1
  pla : t.plain = true
  ledd : w.params.followText "set-order" = true ∨ t.led = true
  rm : L.length * 5 < t.mask * 3
  few : L.length < 4915
  m6 : Mk6 t.mask
section
variable {P : Program} {w : World} {A : Around} {E : Value → Shared → Prop} {s : Shared} {a : Addr} {L : List (Addr × List Int)} {es : Array (Int × Value)} {ep : Nat} {t : SetTable}
theorem rows_size (h : es.toList = rowsOf P w L) : es.size = L.length := by
  rw [← Array.length_toList, h]
  simp [rowsOf]
theorem SetG.size {h : Heap} (R : SetG P w h a L es ep t) : es.size = L.length := rows_size R.rws
theorem SetG.cnt {h : Heap} (R : SetG P w h a L es ep t) : t.place.toList.length = L.length := by rw [Array.length_toList, R.tb.cnt, List.length_map]
theorem fits_by (h1 : t.place.size = es.size) (h2 : t.dummies = #[]) (h3 : es.size ≤ t.mask) : t.fits es.size = true := by
  unfold SetTable.fits SetTable.fill
  simp [h1, h2, h3]
theorem SetG.fits {h : Heap} (R : SetG P w h a L es ep t) : t.fits es.size = true := by
  have e := R.size
  have c := R.rm
  exact fits_by (by rw [R.tb.cnt, List.length_map, e]) R.tb.nod (by omega)
theorem SetG.row {h : Heap} (R : SetG P w h a L es ep t) {i : Nat} {p : Addr × List Int} (hp : L[i]? = some p) : es[i]? = some (thash P w p.2, Value.ref p.1) := by
  rw [← Array.getElem?_toList, R.rws]
  unfold rowsOf
  simp [hp]
theorem SetG.keeps {h : Heap} (R : SetG P w h a L es ep t) : ¬ t.gaveWay = true := by
  unfold SetTable.gaveWay
  rw [R.m6.mok.odd]
  decide
theorem nth_nod (m : Nat) : ∀ (n : Nat) (p : SetTable.Probe), p.dummy = none → (nth m p n).dummy = none
  | 0, _, h => h
  | n + 1, p, h => nth_nod m n (adv m p) (by unfold adv; split <;> exact h)
/-- the search, from the c-th slot of the way on -/
theorem find_from (R : SetG P w s.heap a L es ep t) {x : Addr} {k : List Int} (hx : IsT P w s.heap k x) (hu : A.units < cLine) {K : Nat} (hKf : K < 10 * SetTable.turns t.mask)
    (hK : way t.mask (thash P w k) K ∉ t.place.toList) (hKb : ∀ c, c < K → way t.mask (thash P w k) c ∈ t.place.toList) {Q : SetFound → Shared → Prop}
    (yes : k ∈ L.map (·.2) → Q (.there none) s) (no : k ∉ L.map (·.2) → Q (.free (way t.mask (thash P w k) K) false) s) :
    ∀ (f c : Nat) (stand : Option SetTable.Probe), stand.getD (t.probeStart (thash P w k)) = nth t.mask (t.probeStart (thash P w k)) c → c ≤ K → K - c < f →
      (∀ (i : Nat) p, L[i]? = some p → p.2 = k → ∃ b, c ≤ b ∧ b < K ∧ t.place.toList[i]? = some (way t.mask (thash P w k) b)) →
      wpAny (model P w) A (setSearchFrom a (.ref x) (thash P w k) true f stand) Q E s
  | 0, _, _, _, _, z, _ => absurd z (Nat.not_lt_zero _)
  | f + 1, c, stand, hst, hc, hf, hre => by
    obtain ⟨u, hu1, hu2, hu3⟩ := R.obj
    have at_ : ∀ q, nth t.mask (nth t.mask (t.probeStart (thash P w k)) c) q = nth t.mask (t.probeStart (thash P w k)) (c + q) := fun q => (nth_add t.mask c _ q).symm
    have jt : ∀ q, (nth t.mask (nth t.mask (t.probeStart (thash P w k)) c) q).j = way t.mask (thash P w k) (c + q) := fun q => by rw [at_]; rfl
    have cK : c + (K - c) = K := by omega
    have spec := go_spec t R.tb.up R.tb.nod (fun i => (es[i]?.map (·.1)).getD 0) (thash P w k) (10 * SetTable.turns t.mask) (K - c) (nth t.mask (t.probeStart (thash P w k)) c) (nth_nod _ c _ rfl) (by omega)
      (fun q hq => by rw [jt]; exact hKb _ (by omega)) (by rw [jt, cK]; exact hK)
    have hashOf : ∀ (i : Nat) p, L[i]? = some p → (es[i]?.map (·.1)).getD 0 = thash P w p.2 := fun i p hp => by rw [R.row hp]; rfl
    rw [setSearchFrom_succ]
    refine wpAny_bind (wpAny_setState_of hu1 hu3 R.fits ?_)
    dsimp only
    refine wp_if_neg R.keeps ?_
    try refine wpAny_bind (wpAny_pure ?_)
    rw [hst]
    rcases spec with ⟨q, i, hq, hi, hh, hno, hpr⟩ | ⟨hno, hpr⟩
    · rw [show t.probe (fun i => (es[i]?.map (·.1)).getD 0) (thash P w k) (nth t.mask (t.probeStart (thash P w k)) c) = _ from hpr]
      dsimp only
      rw [jt] at hi ⊢
      rw [at_]
      obtain ⟨p, hp⟩ : ∃ p, L[i]? = some p := ⟨_, List.getElem?_eq_getElem (by rw [← R.cnt]; exact (List.getElem?_eq_some_iff.mp hi).1)⟩
      have pm := List.mem_of_getElem? hp
      have sl : t.slot (way t.mask (thash P w k) (c + q)) = .live i := slot_live R.tb.up hi
      have go : wpAny (model P w) A (searchRest a (.ref x) (thash P w k) true f es t (way t.mask (thash P w k) (c + q)) i (nth t.mask (t.probeStart (thash P w k)) (c + (q + 1)))) Q E s := by
        unfold searchRest
        rw [R.row hp]
        dsimp only
        refine wpAny_bind (wpAny_holding (wpAny_eqBool_tuple hu (R.tups p pm) hx ?_))
        refine wpAny_bind (wpAny_setState_of hu1 hu3 R.fits ?_)
        dsimp only
        by_cases same : p.2 = k
        · exact wp_if_pos (by simp [same]) (wpAny_pure (yes (List.mem_map.mpr ⟨p, pm, same⟩)))
        · refine wp_if_neg (by simp [same]) ?_
          try refine wpAny_bind (wpAny_pure ?_)
          rw [sameMem]
          simp only [if_true, sl, R.row hp]
          refine wpAny_bind (wpAny_isSame_ref_self (wpAny_bind (wpAny_pure ?_)))
          simp only [if_true]
          refine wp_if_neg (by simp [same]) (find_from R hx hu hKf hK hKb yes no f (c + (q + 1)) _ rfl (by omega) (by omega) fun i0 p0 h0 hk0 => ?_)
          obtain ⟨b, b1, b2, b3⟩ := hre i0 p0 h0 hk0
          refine ⟨b, ?_, b2, b3⟩
          rcases Nat.lt_trichotomy b (c + q) with z | z | z
          · refine absurd ((hashOf i0 p0 h0).trans (congrArg (thash P w) hk0)) (hno (b - c) i0 (by omega) ?_)
            rw [jt, show c + (b - c) = b by omega]
            exact b3
          · rw [z] at b3
            have e := slot_live R.tb.up b3
            rw [sl] at e
            cases e
            rw [hp] at h0
            cases h0
            exact absurd hk0 same
          · omega
      by_cases ld : t.led = true
      · refine wp_if_neg (by simp [ld]) ?_
        try refine wpAny_bind (wpAny_pure ?_)
        exact go
      · refine wp_if_pos (by simp [ld]) (wpAny_bind (seen_tup hx (fun y hy => ?_) ?_))
        · obtain ⟨r, hr, rfl⟩ := List.mem_map.mp hy
          have hr2 : r ∈ es.toList := by
            have := (Array.mem_filter.mp (Array.mem_toList_iff.mp hr)).1
            exact Array.mem_toList_iff.mpr this
          rw [R.rws] at hr2
          obtain ⟨p2, hp2, rfl⟩ := List.mem_map.mp hr2
          exact ⟨p2.2, p2.1, rfl, R.tups p2 hp2⟩
        · refine wp_if_neg (by decide) ?_
          try refine wpAny_bind (wpAny_pure ?_)
          exact go
    · rw [show t.probe (fun i => (es[i]?.map (·.1)).getD 0) (thash P w k) (nth t.mask (t.probeStart (thash P w k)) c) = _ from hpr]
      dsimp only
      rw [jt, cK]
      refine wpAny_pure (no fun hm => ?_)
      obtain ⟨p0, h0, hk0⟩ := List.mem_map.mp hm
      obtain ⟨i0, h00⟩ := List.mem_iff_getElem?.mp h0
      obtain ⟨b, b1, b2, b3⟩ := hre i0 p0 h00 hk0
      refine hno (b - c) i0 (by omega) ?_ ((hashOf i0 p0 h00).trans (congrArg (thash P w) hk0))
      rw [jt, show c + (b - c) = b by omega]
      exact b3
theorem find_at (R : SetG P w s.heap a L es ep t) {x : Addr} {k : List Int} (hx : IsT P w s.heap k x) (hu : A.units < cLine) {Q : SetFound → Shared → Prop}
    (yes : k ∈ L.map (·.2) → Q (.there none) s)
    (no : ∀ K, k ∉ L.map (·.2) → way t.mask (thash P w k) K ∉ t.place.toList → (∀ c, c < K → way t.mask (thash P w k) c ∈ t.place.toList) → Q (.free (way t.mask (thash P w k) K) false) s) :
    wpAny (model P w) A (setSearch a (.ref x) (thash P w k) true) Q E s := by
  have c := R.rm
  have few := R.m6.mok.few
  obtain ⟨K, hKf, hK, hKb⟩ := R.tb.first (by rw [List.length_map]; omega) (thash P w k)
  have big : K < 100000 := by
    unfold SetTable.turns at hKf
    omega
  refine find_from R hx hu hKf hK hKb yes (fun n => no K n hK hKb) 100000 0 none rfl (Nat.zero_le _) (by omega) fun i p hp e => ?_
  obtain ⟨j, hj⟩ : ∃ j, t.place.toList[i]? = some j := ⟨_, List.getElem?_eq_getElem (by rw [R.cnt]; exact (List.getElem?_eq_some_iff.mp hp).1)⟩
  obtain ⟨b, hb, eb⟩ := R.tb.ahead hK (h := thash P w k) (i := i) (by rw [List.getElem?_map, hp, ← e]; rfl) hj
  exact ⟨b, Nat.zero_le _, hb, by rw [hj, eb]⟩
theorem relay_all {o : Obj} (ho : s.heap.get? a = some o) (hex : o.ExactSet) (hd : o.data = .set es ep t) (hr : es.toList = rowsOf P w L) (hsz : t.place.size = es.size) (hdm : t.dummies = #[]) (hfl : es.size ≤ t.mask)
    (nd : (L.map (·.2)).Nodup) (tp : ∀ p ∈ L, IsT P w s.heap p.2 p.1) (pl : t.plain = true) (ld : w.params.followText "set-order" = true ∨ t.led = true) (few : L.length < 4915) {wanted M : Nat}
    (hw : SetTable.sizeAbove wanted - 1 = M) (hM : Mk6 M) (hw2 : SetTable.sizeAbove wanted ≤ 8192) (hn : L.length * 5 < M * 3) {Q : Unit → Shared → Prop}
    (hQ : ∀ h' L' es' ep' t', Heap.SameBut a s.heap h' → SetG P w h' a L' es' ep' t' → L'.Perm L → Q () { s with heap := h' }) : wpAny (model P w) A (setRelay a wanted) Q E s := by
  have sl := rows_size hr
  obtain ⟨t', order, e, hp, T, em, el, epl, ed⟩ := relaid_all t (hs := es.map (·.1)) hw hM.mok (by rw [Array.size_map, sl]; omega)
  rw [Array.size_map, sl] at hp
  obtain ⟨L2, r1, r2, r3⟩ := order_rows L es order hr hp
  rw [← r3] at T
  have s2 : (order.filterMap (es[·]?)).size = es.size := (rows_size r1).trans (r2.length_eq.trans sl.symm)
  rw [setRelay_eq]
  refine wpAny_bind (wpAny_setState_of ho hd (fits_by hsz hdm hfl) ?_)
  dsimp only
  refine wp_if_neg (by rw [sizeLine_eq]; omega) ?_
  try refine wpAny_bind (wpAny_pure ?_)
  rw [e]
  refine wpAny_bind (wp_if_neg (by rw [s2]; simp) ?_)
  try refine wpAny_bind (wpAny_pure ?_)
  refine wpAny_pure (wpAny_storeSet_of ho hd ?_ (by rw [s2, sl, sizeLine_eq]; omega))
  have sb : Heap.SameBut a s.heap (s.heap.update a (Obj.putSet (order.filterMap (es[·]?)) t')) := Heap.SameBut.update ..
  exact hQ _ L2 _ (ep + 1) t' sb ⟨⟨_, store_at ho hd, ⟨hex.1, hex.2.1, hex.2.2⟩, rfl⟩, r1, T, (r2.map (·.2)).nodup_iff.mpr nd, fun p pm => isT_same (tp p (r2.mem_iff.mp pm)) ho hd sb, by rw [epl]; exact pl, by rw [el]; exact ld,
    by rw [r2.length_eq, em]; exact hn, by rw [r2.length_eq]; exact few, by rw [em]; exact hM⟩ r2
/-- a tuple is added -/
theorem add_one (R : SetG P w s.heap a L es ep t) {x : Addr} {k : List Int} (hx : IsT P w s.heap k x) (hu : A.units < cLine) (fw : k ∉ L.map (·.2) → L.length + 1 < 4915) {Q : Bool → Shared → Prop}
    (hQ : ∀ b h' L' es' ep' t', Heap.SameBut a s.heap h' → SetG P w h' a L' es' ep' t' → (k ∈ L.map (·.2) → L' = L) → (k ∉ L.map (·.2) → L'.Perm ((x, k) :: L)) → Q b { s with heap := h' }) :
    wpAny (model P w) A (setAddHashed a (.ref x) (thash P w k)) Q E s := by
  obtain ⟨o, ho, hex, hd⟩ := R.obj
  have sl := R.size
  have rm := R.rm
  unfold setAddHashed
  refine wpAny_holding ?_
  rw [show (100000 : Nat) = 99999 + 1 from rfl, setAddHashedIn_succ]
  refine wpAny_bind (wpAny_setState_of ho hd R.fits ?_)
  dsimp only
  refine wp_if_neg (by simp [byScan, Value.scannable]) ?_
  try refine wpAny_bind (wpAny_pure ?_)
  refine wpAny_bind (find_at R hx hu (fun hm => wpAny_pure (hQ false s.heap L es ep t (Heap.SameBut.refl a s.heap) R (fun _ => rfl) fun z => absurd hm z)) fun K hm hK hb => ?_)
  have fw := fw hm
  dsimp only
  refine wpAny_bind (wpAny_setState_of ho hd R.fits ?_)
  dsimp only
  obtain ⟨q1, q2, q3, q9⟩ := R.tb.put hK hb rfl
  have q4 : (t.put (way t.mask (thash P w k) K)).1.mask = t.mask := rfl
  have q5 : (t.put (way t.mask (thash P w k) K)).1.led = t.led := rfl
  have q6 : (t.put (way t.mask (thash P w k) K)).1.plain = true := R.pla
  generalize hpt : t.put (way t.mask (thash P w k) K) = pt at q1 q3 q4 q5 q6 q9 ⊢
  generalize SetTable.below t.place (way t.mask (thash P w k) K) = p at q1 q2 q3
  obtain ⟨t1, p'⟩ := pt
  dsimp only at q1 q3 q4 q5 q6 q9 ⊢
  subst q1
  first
    | refine wpAny_bind (wp_if_pos q6 (hashBy_tup hx ?_))
    | refine wp_if_pos q6 (wpAny_bind (hashBy_tup hx ?_))
  simp only [if_true]
  have hin : (SetTable.insertAt es p' (thash P w k, Value.ref x)).toList = rowsOf P w (L.take p' ++ (x, k) :: L.drop p') := by rw [SetTable.toList_insertAt, rows_put, R.rws]
  have pm := put_perm L p' (x, k)
  have ln : (L.take p' ++ (x, k) :: L.drop p').length = L.length + 1 := pm.length_eq
  have q3' : TabG t1 ((L.take p' ++ (x, k) :: L.drop p').map fun p => thash P w p.2) := by
    rw [List.map_append, List.map_cons, List.map_take, List.map_drop]
    exact q3
  have nd1 : ((L.take p' ++ (x, k) :: L.drop p').map (·.2)).Nodup := (pm.map (·.2)).nodup_iff.mpr (by rw [List.map_cons]; exact List.nodup_cons.mpr ⟨hm, R.once⟩)
  have es1s : (SetTable.insertAt es p' (thash P w k, Value.ref x)).size = L.length + 1 := (rows_size hin).trans ln
  generalize SetTable.insertAt es p' (thash P w k, Value.ref x) = es1 at hin es1s ⊢
  generalize L.take p' ++ (x, k) :: L.drop p' = L1 at pm ln q3' nd1 hin
  refine wpAny_bind (wpAny_storeSet_of ho hd ?_ (by rw [es1s, sizeLine_eq]; omega))
  have sb : Heap.SameBut a s.heap (s.heap.update a (Obj.putSet es1 t1)) := Heap.SameBut.update ..
  have ho1 := store_at (es' := es1) (t' := t1) ho hd
  generalize s.heap.update a (Obj.putSet es1 t1) = h1 at sb ho1 ⊢
  have tp1 : ∀ p ∈ L1, IsT P w h1 p.2 p.1 := fun p hp => by
    rcases List.mem_cons.mp (pm.mem_iff.mp hp) with rfl | hp
    · exact isT_same hx ho hd sb
    · exact isT_same (R.tups p hp) ho hd sb
  have ld1 : w.params.followText "set-order" = true ∨ t1.led = true := by rw [q5]; exact R.ledd
  have m61 : Mk6 t1.mask := by rw [q4]; exact R.m6
  rw [List.length_map] at q9
  by_cases hf : t1.tooFull = true
  · have full : (L.length + 1) * 5 ≥ t.mask * 3 := by
      unfold SetTable.tooFull at hf
      rw [decide_eq_true_eq, q9, q4] at hf
      exact hf
    obtain ⟨M, g1, g2, g3, g4, g5⟩ := grow_next R.m6 rm full fw
    rw [sl]
    have pl1 : t1.place.size = es1.size := by rw [q3'.cnt, List.length_map, ln, es1s]
    have go : wpAny (model P w) A (setRelay a (SetTable.grown (L.length + 1))) (fun _ s' => wpAny (model P w) A (pure true) Q E s') E { s with heap := h1 } :=
      relay_all (s := { s with heap := h1 }) ho1 ⟨hex.1, hex.2.1, hex.2.2⟩ rfl hin pl1 q3'.nod (by rw [es1s, q4]; exact g5) nd1 tp1 q6 ld1 (by rw [ln]; exact fw) g1 g2 g3 (by rw [ln]; exact g4)
        fun h2 L2 es2 ep2 t2 sb2 R2 pm2 => wpAny_pure (hQ true h2 L2 es2 ep2 t2 (sb.trans sb2) R2 (fun z => absurd z hm) fun _ => pm2.trans pm)
    first
      | exact wpAny_bind (wp_if_pos (by simp [hf]) go)
      | exact wp_if_pos (by simp [hf]) (wpAny_bind go)
  · have rm1 : L1.length * 5 < t1.mask * 3 := by
      unfold SetTable.tooFull at hf
      rw [decide_eq_true_eq, q9] at hf
      rw [ln]
      omega
    have done : wpAny (model P w) A (pure true) Q E { s with heap := h1 } :=
      wpAny_pure (hQ true h1 L1 es1 (ep + 1) t1 sb ⟨⟨_, ho1, ⟨hex.1, hex.2.1, hex.2.2⟩, rfl⟩, hin, q3', nd1, tp1, q6, ld1, rm1, by rw [ln]; exact fw, m61⟩ (fun z => absurd z hm) fun _ => pm)
    first
      | exact wp_if_neg (by simp [hf]) done
      | exact wpAny_bind (wp_if_neg (by simp [hf]) (wpAny_pure done))
end
/-! ### set(xs), xs a list of tuples of ints of any length; U: keys that they are among -/
theorem len_among {α : Type} [DecidableEq α] : ∀ (l D : List α), l.Nodup → (∀ x ∈ l, x ∈ D) → l.length ≤ D.length
  | [], _, _, _ => Nat.zero_le _
  | x :: l, D, nd, h => by
    obtain ⟨hx, nd'⟩ := List.nodup_cons.mp nd
    have hD := h x List.mem_cons_self
    have z := len_among l (D.erase x) nd' fun y hy => (List.mem_erase_of_ne (fun e => hx (by rw [← e]; exact hy))).2 (h y (List.mem_cons_of_mem _ hy))
    rw [List.length_erase_of_mem hD] at z
    have := List.length_pos_of_mem hD
    rw [List.length_cons]
    omega
abbrev newSetO (w : World) : Obj := { cls := .type "set", dict := none, data := .set #[] 0 (.fresh 0 0 (!w.params.followText "set-order")) }
section
variable {P : Program} {w : World} {A : Around} {E : Value → Shared → Prop} {s : Shared}
theorem SetG.moved {h h' : Heap} {a : Addr} {L : List (Addr × List Int)} {es : Array (Int × Value)} {ep : Nat} {t : SetTable} (R : SetG P w h a L es ep t) (ha : ∀ o, h.get? a = some o → h'.get? a = some o) (ht : ∀ p ∈ L, IsT P w h' p.2 p.1) : SetG P w h' a L es ep t :=
  { R with
    obj := let ⟨u, hu, r⟩ := R.obj
      ⟨u, ha u hu, r⟩
    tups := ht }
theorem setG_new {h : Heap} {a : Addr} (ho : h.get? a = some (newSetO w)) : SetG P w h a [] #[] 0 (.fresh 0 0 (!w.params.followText "set-order")) where
  obj := ⟨_, ho, ⟨rfl, rfl, rfl⟩, rfl⟩
  rws := rfl
  tb := ⟨List.Pairwise.nil, rfl, rfl, mok_of (.inl rfl), fun x hx => (nomatch hx), fun i h j hi => (nomatch hi)⟩
  once := List.nodup_nil
  tups := fun p hp => nomatch hp
  pla := rfl
  ledd := by
    cases e : w.params.followText "set-order"
    · exact .inr rfl
    · exact .inl rfl
  rm := by show 0 < 21; decide
  few := by show 0 < 4915; decide
  m6 := .inl rfl
theorem update_all {I : Addr} {fp wr : List Addr} {G : Array GenState → Array GenState → Prop} {n : Nat} {Pv : Nat → Value → Prop} {St : Nat → Shared → Prop} {R : Result → Shared → Prop}
    (W : WalksS P w A.in1 I fp wr G n Pv St) (S : Addr) (hSf : S ∉ fp) (ks : List (Addr × List Int)) (U : List (List Int)) (hn : n = ks.length) (hU : U.length < 4915) (inU : ∀ p ∈ ks, p.2 ∈ U) (hval : ∀ i v, Pv i v → ∃ p, ks[i]? = some p ∧ v = .ref p.1)
    (b0 : Heap) (hk : ∀ p ∈ ks, IsT P w b0 p.2 p.1) (hS0 : b0.get? S = none) (hw0 : ∀ b ∈ wr, b0.get? b = none) (hu : A.in1.units < cLine) :
    ∀ (k i : Nat) (s : Shared), n - i = k → i ≤ n → St i s → (∀ b o, b0.get? b = some o → s.heap.get? b = some o) → (∃ L es ep t, SetG P w s.heap S L es ep t ∧ Got ks i L) →
      (∀ s' L es ep t, Moved (S :: wr) G s s' → SetG P w s'.heap S L es ep t → Got ks n L → (∀ b o, b0.get? b = some o → s'.heap.get? b = some o) → R (.ok (.ret .none)) s') →
      codeAny (model P w) A (.builtin "set.update.loop" ⟨[.ref S, .ref I], []⟩) R s := by
  have apart : S ∉ wr := fun h => hSf (W.sub _ h)
  have wide : ∀ b ∈ wr, b ∈ S :: wr := fun b hb => List.mem_cons_of_mem _ hb
  have stay : ∀ {s s' : Shared}, Moved wr G s s' → (∀ b o, b0.get? b = some o → s.heap.get? b = some o) → ∀ b o, b0.get? b = some o → s'.heap.get? b = some o := fun mv kp b o e =>
    mv.heap b o (fun hb => by rw [hw0 b hb] at e; cases e) (kp b o e)
  have amongL : ∀ {i L}, Got ks i L → ∀ p ∈ L, p ∈ ks := fun g p hp => List.mem_of_mem_take (g.sub p hp)
  intro k
  induction k with
  | zero =>
    intro i s hi0 hi hst kp ⟨L, es, ep, t, hS, g⟩ hR
    obtain rfl : i = n := by omega
    refine codeAny_builtin F.entry_set_update_loop ?_
    rw [Around.under_plainId F.plain_set_update_loop _]
    refine wpAny_bind (W.done s _ _ hst fun s' mv => ?_)
    have kp' := stay mv kp
    exact wpAny_pure (hR s' L es ep t (mv.mono wide) (hS.moved (fun o e => mv.heap S o apart e) fun p hp => isT_keep (hk p (amongL g p hp)) kp') g kp')
  | succ k ih =>
    intro i s hi0 hi hst kp ⟨L, es, ep, t, hS, g⟩ hR
    have lt : i < n := by omega
    refine codeAny_builtin F.entry_set_update_loop ?_
    rw [Around.under_plainId F.plain_set_update_loop _]
    refine wpAny_bind (W.item i s _ _ lt hst fun v s' hP hst' mv => ?_)
    obtain ⟨p, hp, rfl⟩ := hval i v hP
    have pk := List.mem_of_getElem? hp
    have kp' := stay mv kp
    have hS' : SetG P w s'.heap S L es ep t := hS.moved (fun o e => mv.heap S o apart e) fun q hq => isT_keep (hk q (amongL g q hq)) kp'
    have hx : IsT P w s'.heap p.2 p.1 := isT_keep (hk p pk) kp'
    have room : p.2 ∉ L.map (·.2) → L.length + 1 < 4915 := fun nm => by
      have z := len_among (p.2 :: L.map (·.2)) U (List.nodup_cons.mpr ⟨nm, hS.once⟩) fun y hy => by
        rcases List.mem_cons.mp hy with rfl | hy
        · exact inU p pk
        · obtain ⟨r, hr, rfl⟩ := List.mem_map.mp hy
          exact inU r (amongL g r hr)
      rw [List.length_cons, List.length_map] at z
      omega
    show wpAny _ A.in1 (holding [Value.ref p.1] (setAdd S (.ref p.1)) >>= _) _ _ s'
    refine wpAny_bind (wpAny_holding ?_)
    unfold setAdd
    refine wpAny_holding (wpAny_bind (wpAny_pyHash_tuple hu hx ?_))
    refine add_one (s := { s' with toks := s'.toks + (p.2.length + 1) }) hS' hx hu room fun b h' L' es' ep' t' sb hS2 c1 c2 => ?_
    have g' : Got ks (i + 1) L' := by
      by_cases c : p.2 ∈ L.map (·.2)
      · rw [c1 c]
        exact g.same hp c
      · exact g.more hp (c2 c)
    have kp2 : ∀ b o, b0.get? b = some o → h'.get? b = some o := fun b o e => (sb.2 b (fun z => by rw [z, hS0] at e; cases e)).trans (kp' b o e)
    refine wpAny_pure ⟨plainId_quiet F.plain_set_update_loop _, ih (i + 1) _ (by omega) lt (W.frame _ s' _ _ hst' (Nat.le_add_right _ _) fun b hb o e => ?_) kp2 ⟨L', es', ep', t', hS2, g'⟩ fun s2 L2 es2 ep2 t2 mv2 hS3 g3 kp3 => ?_⟩
    · exact (sb.2 b (fun z : b = S => hSf (z ▸ hb))).trans e
    · exact hR s2 L2 es2 ep2 t2 (Moved.trans W.gtrans ((mv.mono wide).then_heap (Nat.le_add_right _ _) fun b o hb e => (sb.2 b (fun z : b = S => hb (z ▸ List.mem_cons_self))).trans e) mv2) hS3 g3 kp3
set_option maxHeartbeats 8000000 in
theorem call_setG {l : Addr} {items : Array Value} (ks : List (Addr × List Int)) (U : List (List Int)) {Q : Value → Shared → Prop} (hh : A.handled = none) (hl : s.heap.IsList l items) (hit : items.toList = ks.map fun p => Value.ref p.1)
    (hk : ∀ p ∈ ks, IsT P w s.heap p.2 p.1) (hU : U.length < 4915) (inU : ∀ p ∈ ks, p.2 ∈ U) (hu : A.units + 3 < cLine)
    (h : ∀ (h' : Heap) (tk : Nat) L es ep t, SetG P w h' s.heap.objs.size L es ep t → Got ks ks.length L → (∀ b o, s.heap.get? b = some o → h'.get? b = some o) → Q (.ref s.heap.objs.size) { s with heap := h', toks := tk }) :
    wpAny (model P w) A (call (.type "set") [.ref l]) Q E s := by
  have isz : items.size = ks.length := by rw [← Array.length_toList, hit, List.length_map]
  obtain ⟨c, tl, hmro⟩ := F.called_set.mro
  have hmade := F.called_set.made
  have hsub := F.called_set.sub
  have t1 := F.called_set.notType
  have t2 := F.called_set.canCreate
  have t3 := F.typeCall_set_1 (.ref l)
  refine wpAny_call (codeAny_of_tree (show wpAny _ _ (callAny (.type "set") _) _ _ _ from wpAny_pure ⟨Code.quiet_builtin _ (by decide +kernel), codeAny_builtin F.entry_type_call ?_⟩))
  rw [Around.under_plain (weight_type_call_type "set" [.ref l] []) rfl]
  repeat (any_goals (first | assumption | wp_step))
  refine codeAny_mono (code_set_led1 (.ref l) (E := E) (Q₁ := fun obj s₁ => obj = .ref s.heap.objs.size ∧ s₁ = { s with heap := s.heap.push (newSetO w) }) ⟨rfl, rfl⟩) fun r s₁ hr => ?_
  match r, hr with
  | .error e, hr => exact hr
  | .ok .next, hr => exact hr.elim
  | .ok .brk, hr => exact hr.elim
  | .ok .cont, hr => exact hr.elim
  | .ok (.ret obj), hr =>
    obtain ⟨rfl, rfl⟩ := hr
    have hS : (s.heap.push (newSetO w)).get? s.heap.objs.size = some (newSetO w) := Heap.get?_push_size _ rfl
    have hT : Shared.TypeIs { s with heap := s.heap.push (newSetO w) } (.ref s.heap.objs.size) "set" := ⟨_, hS, rfl⟩
    have i1 := F.called_set.init.lookup
    have i2 := F.called_set.init.bind (.ref s.heap.objs.size)
    repeat (any_goals (first | assumption | wp_step))
    refine codeAny_mono (codeAny_call_builtin (R := wants (fun r s₂ => r = .none ∧ ∃ h' tk L es ep t, s₂ = { s with heap := h', toks := tk } ∧ SetG P w h' s.heap.objs.size L es ep t ∧ Got ks ks.length L ∧
        (∀ b o, s.heap.get? b = some o → h'.get? b = some o)) E) F.called_set.init.plain F.entry_set_init (check_set_init_1 hT ?_)) fun r₂ s₂ hr₂ => ?_
    · obtain ⟨⟨ocls, odict, odata, oslots⟩, hol, hcl, nl, hdl⟩ := hl
      simp only at hcl hdl
      subst hcl hdl
      have hol' : (s.heap.push (newSetO w)).get? l = some { cls := .type "list", dict := odict, data := .seq items nl, slots := oslots } := Heap.get?_push_of_some _ hol
      have u1 := F.sub_list_set
      have u2 := F.sub_list_frozenset
      have u3 : (Value.type "list" == Value.type "dict") = false := by decide
      have isL : (s.heap.push (newSetO w)).IsList l items := ⟨_, hol', rfl, nl, rfl⟩
      unfold Builtin.«set.__init__» noKeywords Builtin.Frozenset.updateFrom
      generalize hPI : pyIter = PI
      wp_walk
      subst hPI
      refine wpAny_pyIter_list isL (wpAny_bind (wpAny_runValue ?_))
      have ll : l < s.heap.objs.size := Heap.lt_size hol
      have sz1 : (s.heap.push (newSetO w)).objs.size = s.heap.objs.size + 1 := Heap.size_push ..
      have unborn : ∀ b, s.heap.objs.size ≤ b → s.heap.get? b = none := fun b hb => by
        cases q : s.heap.get? b with
        | none => rfl
        | some o => exact absurd (Nat.lt_of_lt_of_le (Heap.lt_size q) hb) (Nat.lt_irrefl _)
      refine update_all ((Walks.list (show A.in1.in1.in1.handled = none by simp [hh]) _ l (by rw [sz1]; exact Nat.ne_of_lt (Nat.lt_succ_of_lt ll)) items).toS) s.heap.objs.size
        (by rw [sz1]; simp only [List.mem_cons, List.not_mem_nil, or_false, not_or]; exact ⟨Nat.ne_of_lt (Nat.lt_succ_self _), Nat.ne_of_gt ll⟩) ks U isz hU inU (fun i v hv => ?_) s.heap hk (unborn _ (Nat.le_refl _)) (fun b hb => unborn b (by rw [List.mem_singleton.mp hb, sz1]; exact Nat.le_succ _)) hu (items.size - 0) 0 _ (by omega) (Nat.zero_le _)
        ⟨⟨_, Heap.get?_push_size _ rfl, rfl, rfl⟩, (isL.push _)⟩ (fun b o e => Heap.get?_push_of_some _ (Heap.get?_push_of_some _ e)) ⟨[], #[], 0, _, setG_new (Heap.get?_push_of_some _ hS), Got.zero ks⟩ fun s' L es ep t mv hS' g' kp => ?_
      · have q : items.toList[i]? = some v := by rw [Array.getElem?_toList]; exact hv
        rw [hit, List.getElem?_map] at q
        obtain ⟨p, hp, e⟩ := Option.map_eq_some_iff.mp q
        exact ⟨p, hp, e.symm⟩
      · obtain ⟨h', g2, d', tk', os'⟩ := s'
        obtain rfl : g2 = s.gens := mv.gens
        obtain rfl : d' = s.drawn := mv.drawn
        obtain rfl : os' = s.os := mv.os
        rw [isz] at g'
        exact wpAny_pure (wpAny_pure ⟨rfl, h', tk', L, es, ep, t, rfl, hS', g', kp⟩)
    · match r₂, hr₂ with
      | .error e, z => exact z
      | .ok .next, z => exact z.elim
      | .ok .brk, z => exact z.elim
      | .ok .cont, z => exact z.elim
      | .ok (.ret r), z =>
        obtain ⟨rfl, h', tk, L, es, ep, t, rfl, hS', g', kp⟩ := z
        repeat (any_goals (first | assumption | wp_step))
        exact h _ _ _ _ _ _ hS' g' kp
end
/-! ### sorted of such a set: the tuples of one length, by their order -/
open TS (TupInts oneLt_ints)
section
variable {P : Program} {w : World} {A : Around} {E : Value → Shared → Prop} {s : Shared}
theorem lex_all {Q : Bool → Shared → Prop} : ∀ {xs ys : List Value} {ns ms : List Int} (i : Nat), IntsAre xs ns → IntsAre ys ms → ns.length = ms.length → Q (HT.lexLt ns ms) s → PySem.W.KatLex P w A true false Q (xs.zip ys) i s
  | _, _, _, _, i, .nil, .nil, _, h => PySem.W.kat_nil h
  | _, _, _, _, i, .cons x t r, .cons y u r2, hl, h => by
    simp only [List.length_cons, Nat.add_right_cancel_iff] at hl
    rw [HT.lexLt_cons] at h
    refine PySem.W.kat_cons (SeqAt.EqAt.int_int x t y u P w _ _ (PySem.W.kat_go (fun e => PySem.W.kat_yes (lex_all (i + 1) r r2 hl ?_)) fun e => PySem.W.kat_no (oneLt_ints _ ?_)))
    · have e' : x = y := by simpa using e
      rw [if_pos e'] at h
      exact h
    · have e' : ¬ x = y := by simpa using e
      rw [if_neg e'] at h
      exact h
  | _, _, _, _, _, .nil, .cons _ _ _, hl, _ => by simp at hl
  | _, _, _, _, _, .cons _ _ _, .nil, hl, _ => by simp at hl
theorem ints_len : ∀ {xs : List Value} {ns : List Int}, IntsAre xs ns → xs.length = ns.length
  | _, _, .nil => rfl
  | _, _, .cons _ _ r => by rw [List.length_cons, List.length_cons, ints_len r]
theorem tups_cmp {vs : List Value} {k : Value → List Int} {d : Nat} (hv : ∀ v ∈ vs, TupInts s.heap v (k v) ∧ (k v).length = d) : SrtO.Cmp P w A s (tuples' true) (fun p => p.1 ∈ vs) (SrtO.lt2 fun v u => HT.lexLt (k v) (k u)) := by
  intro p q hp hq
  obtain ⟨⟨a, xs, ea, ⟨o, ho, hc, n, hd⟩, i1⟩, l1⟩ := hv p.1 hp
  obtain ⟨⟨b, ys, eb, ⟨o2, ho2, hc2, n2, hd2⟩, i2⟩, l2⟩ := hv q.1 hq
  show wpAny (model P w) A (keyLt' (tuples' true) p.1 q.1) (fun r s' => s' = s ∧ r = HT.lexLt (k p.1) (k q.1)) (fun _ _ => False) s
  generalize k p.1 = ns at i1 l1 ⊢
  generalize k q.1 = ms at i2 l2 ⊢
  rw [ea, eb]
  refine PySem.W.kat_lt ho hd ho2 hd2 ?_
  have sz : decide (xs.size < ys.size) = false := by
    have a1 := ints_len i1
    have a2 := ints_len i2
    rw [Array.length_toList] at a1 a2
    exact decide_eq_false (by omega)
  rw [sz]
  exact lex_all 0 i1 i2 (l1.trans l2.symm) ⟨rfl, rfl⟩
theorem heads_of {h : Heap} {k : Value → List Int} {d : Nat} (hd : 1 ≤ d) : ∀ {vs : List Value}, (∀ v ∈ vs, TupInts h v (k v) ∧ (k v).length = d) → ∃ fs : List Value, PySem.W.KatTups h vs fs ∧ fs.length = vs.length ∧ ∀ f ∈ fs, ∃ x t, f = Value.int x t
  | [], _ => ⟨[], PySem.W.KatTups.nil, rfl, fun _ hm => by simp at hm⟩
  | v :: vs, hv => by
    obtain ⟨fs, h1, h2, h3⟩ := heads_of hd fun u hu => hv u (List.mem_cons_of_mem _ hu)
    obtain ⟨⟨a, xs, rfl, ⟨o, ho, hc, n, hdt⟩, i1⟩, l1⟩ := hv v List.mem_cons_self
    generalize k (Value.ref a) = ns at i1 l1
    obtain ⟨xl⟩ := xs
    simp only at i1
    cases i1 with
    | nil => simp at l1; omega
    | cons x t r =>
      refine ⟨.int x t :: fs, PySem.W.KatTups.cons ho hc hdt rfl h1, by rw [List.length_cons, List.length_cons, h2], fun f hf => ?_⟩
      rcases List.mem_cons.mp hf with rfl | hf
      · exact ⟨x, t, rfl⟩
      · exact h3 f hf
theorem tups_sortable {a : Addr} {vs : List Value} {k : Value → List Int} {d : Nat} (hd : 1 ≤ d) (h0 : 0 < vs.length) (hv : ∀ v ∈ vs, TupInts s.heap v (k v) ∧ (k v).length = d) (ha : ∀ o, s.heap.get? a = some o → o.cls ≠ .type "tuple") :
    SrtO.SortableO P w A s a vs fun v u => HT.lexLt (k v) (k u) := by
  intro h' keep
  have hv' : ∀ v ∈ vs, TupInts h' v (k v) ∧ (k v).length = d := fun v hm => ⟨(hv v hm).1.keeps fun b o e c => keep b o (fun z => ha o (z ▸ e) c) e, (hv v hm).2⟩
  obtain ⟨fs, h1, h2, h3⟩ := heads_of hd hv'
  refine ⟨tuples' true, fun Q E hq => ?_, tups_cmp (s := { s with heap := h' }) hv'⟩
  refine PySem.W.kat_kind (T := .type "int") h1 (by omega) (fun f hm => ?_) (by rfl) ?_
  · obtain ⟨x, t, rfl⟩ := h3 f hm
    exact PySem.W.Looks.now
  · rw [show (Value.type "int" != Value.type "tuple") = true by decide +kernel]
    exact hq
/-- an address, read off a value -/
def adV : Value → Addr
  | .ref a => a
  | _ => 0
theorem refs_back : ∀ {vs : List Value} {L : List (Addr × List Int)}, (∀ v ∈ vs, ∃ q ∈ L, v = Value.ref q.1) → ∃ M : List (Addr × List Int), vs = M.map (fun q => Value.ref q.1) ∧ ∀ q ∈ M, q ∈ L
  | [], _, _ => ⟨[], rfl, fun _ hq => nomatch hq⟩
  | v :: vs, L, h => by
    obtain ⟨q, hq, rfl⟩ := h v List.mem_cons_self
    obtain ⟨M, e, hM⟩ := refs_back fun u hu => h u (List.mem_cons_of_mem _ hu)
    refine ⟨q :: M, by rw [List.map_cons, ← e], fun r hr => ?_⟩
    rcases List.mem_cons.mp hr with rfl | hr
    · exact hq
    · exact hM r hr
theorem sorted_setG {a : Addr} {L : List (Addr × List Int)} {es : Array (Int × Value)} {ep : Nat} {t : SetTable} {Q : Value → Shared → Prop} (R : SetG P w s.heap a L es ep t) (hh : A.handled = none) (few : L.length < 4096)
    {d : Nat} (hd1 : 1 ≤ d) (hd : ∀ p ∈ L, p.2.length = d)
    (hQ : ∀ s' p (out : List Value) (c : Nat) (M : List (Addr × List Int)), (∀ b o, s.heap.get? b = some o → s'.heap.get? b = some o) → s'.gens = s.gens → s'.os = s.os → s.heap.objs.size ≤ p →
      s'.heap.get? p = some (seqObj "list" out.toArray c) → out = M.map (fun q => Value.ref q.1) → M.Perm L → M.Pairwise (fun q r => HT.lexLt r.2 q.2 = false) → Q (.ref p) s') :
    wpAny (model P w) A (call (.builtin "sorted") [.ref a]) Q E s := by
  obtain ⟨o, ho, hex, hdt⟩ := R.obj
  have sz := R.size
  refine Calls.call_function_entry kind_sorted plain_sorted entry_sorted (args_sorted1 _) ?_
  unfold Builtin.«sorted»
  refine wpAny_bind (m := checkCount "sorted" 1 1 _) (wpAny_pure (wpAny_bind (collect_set (A := A.in1) hh ⟨o, ho, hex.1, hdt⟩ R.fits (by show es.size < 4096; omega) R.tb.up R.ledd fun s1 vs k1 hz g1 o1 pm => ?_)))
  rw [show es.toList.map (·.2) = L.map fun q => Value.ref q.1 by rw [R.rws]; unfold rowsOf; rw [List.map_map]; rfl] at pm
  have vl : vs.length = L.length := by rw [pm.length_eq, List.length_map]
  have one : ∀ q ∈ L, ∀ r ∈ L, q.1 = r.1 → q = r := fun q hq r hr e => by
    have a1 := R.tups q hq
    rw [e] at a1
    exact Prod.ext e (a1.inj (R.tups r hr))
  -- keys by addresses
  have key : ∃ kk : Addr → List Int, ∀ q ∈ L, kk q.1 = q.2 := by
    refine ⟨fun b => (TS.intsOf s.heap (.ref b)), fun q hq => (tupInts_of (R.tups q hq)).ints⟩
  obtain ⟨kk, hkk⟩ := key
  refine wpAny_bind (wpAny_newList ?_ (by rw [sizeLine_eq]; omega))
  have hoL : (s1.heap.push (seqObj "list" vs.toArray 0)).get? s1.heap.objs.size = some (seqObj "list" vs.toArray 0) := Heap.get?_push_size _ rfl
  have ti : ∀ v ∈ vs, TupInts (s1.heap.push (seqObj "list" vs.toArray 0)) v (kk (adV v)) ∧ (kk (adV v)).length = d := fun v hv => by
    obtain ⟨q, hq, rfl⟩ := List.mem_map.mp (pm.mem_iff.mp hv)
    show TupInts _ (Value.ref q.1) (kk q.1) ∧ (kk q.1).length = d
    rw [hkk q hq]
    exact ⟨tupInts_of (P := P) (w := w) (isT_keep (R.tups q hq) fun b u e => Heap.get?_push_of_some _ (k1 b u e)), hd q hq⟩
  refine wpAny_bind (wpAny_holding (wpAny_call_entry (s := { s1 with heap := s1.heap.push (seqObj "list" vs.toArray 0) }) slot_list_sort ⟨_, hoL, rfl⟩ entry_list_sort
    (SrtO.list_sort_ord (NtL.swo_lexL fun v => kk (adV v)) hoL (by rw [sizeLine_eq]; omega) (fun h2 => tups_sortable hd1 (by omega) ti fun u e => ?_) fun out h1 h2 => ⟨_, rfl, ?_⟩) (args_list_sort _)))
  · rw [hoL] at e
    cases e
    exact fun c => absurd (Value.type.inj c) (by decide)
  · obtain ⟨c, hc⟩ := sortedHeap_at (vs := vs) (out := out.toArray) hoL
    obtain ⟨M, eM, hM⟩ := refs_back (vs := out) (L := L) fun v hv => by
      obtain ⟨q, hq, e⟩ := List.mem_map.mp (pm.mem_iff.mp (h2.perm.mem_iff.mp hv))
      exact ⟨q, hq, e.symm⟩
    have nL : L.Nodup := nodup_of_map R.once
    have nref : (L.map fun q => Value.ref q.1).Nodup := List.pairwise_map.mpr (List.Pairwise.imp_of_mem (fun {q r} hq hr ne e => ne (one q hq r hr (Value.ref.inj e))) nL)
    have pM : (M.map fun q => Value.ref q.1).Perm (L.map fun q => Value.ref q.1) := by
      rw [← eM]
      exact h2.perm.trans pm
    have pL : M.Perm L := (List.perm_ext_iff_of_nodup (nodup_of_map (pM.nodup_iff.mpr nref)) nL).mpr fun q => ⟨hM q, fun hq => by
      obtain ⟨r, hr, e⟩ := List.mem_map.mp (pM.mem_iff.mpr (List.mem_map.mpr ⟨q, hq, rfl⟩))
      rw [← one r (hM r hr) q hq (Value.ref.inj e)]
      exact hr⟩
    refine wpAny_pure ⟨_, rfl, hQ _ s1.heap.objs.size out c M (fun b u e => ?_) g1 o1 hz hc eM pL ?_⟩
    · have q := k1 b u e
      have lt := Heap.lt_size q
      show (sortedHeap (s1.heap.push (seqObj "list" vs.toArray 0)) s1.heap.objs.size vs out.toArray).get? b = some u
      rw [sortedHeap_old (Nat.ne_of_lt lt) (by rw [size_push']; exact Nat.lt_succ_of_lt lt)]
      exact Heap.get?_push_of_some _ q
    · rw [eM] at h1
      refine List.Pairwise.imp_of_mem (fun {q r} hq hr z => ?_) (List.pairwise_map.mp h1)
      have z' : HT.lexLt (kk r.1) (kk q.1) = false := z
      rw [hkk q (hM q hq), hkk r (hM r hr)] at z'
      exact z'
end
/-! ### as words of a def -/
def SetG0 (P : Program) (w : World) (h : Heap) (a : Addr) (L : List (Addr × List Int)) : Prop := ∃ (es : Array (Int × Value)) (ep : Nat) (t : SetTable), (∃ u, h.get? a = some u ∧ u.ExactSet ∧ u.data = .set es ep t) ∧ es.toList = rowsOf P w L ∧
  TabG t (L.map fun p => thash P w p.2) ∧ (L.map (·.2)).Nodup ∧ t.plain = true ∧ (w.params.followText "set-order" = true ∨ t.led = true) ∧ L.length * 5 < t.mask * 3 ∧ L.length < 4915 ∧ Mk6 t.mask
def SetGO (P : Program) (w : World) (a : Addr) (L : List (Addr × List Int)) : HO := .ext fun h => SetG0 P w h a L
theorem setGO_new {P : Program} {w : World} {H : Hp} {h : Heap} {a : Addr} {L : List (Addr × List Int)} (R : SetG0 P w h a L) : ObjOk P w H h a (SetGO P w a L) := by
  refine ⟨R, let ⟨_, _, _, ⟨u, hu, _⟩, _⟩ := R; ⟨u, hu⟩, fun h1 h2 p k => ?_⟩
  have p' : SetG0 P w h1 a L := p
  obtain ⟨es, ep, t, ⟨u, hu, r⟩, q⟩ := p'
  exact ⟨es, ep, t, ⟨u, k u hu, r⟩, q⟩
section
variable {X : Cx}
/-- set(xs), xs a list of tuples of ints -/
def rSetG (K : PySem.W.Frag) (P : Program) (w : World) : List V → Hp → VK → Prop := fun xs H Q => ∃ (l : Addr) (ks : List (Addr × List Int)) (U : List (List Int)), xs = [V.ref l] ∧ SqL K H l (ks.map fun p => V.ref p.1) ∧ (∀ p ∈ ks, SqT K H p.1 (p.2.map V.int)) ∧ U.length < 4096 ∧ (∀ p ∈ ks, p.2 ∈ U) ∧
  ∀ a L, H a = none → (∀ p ∈ L, p ∈ ks) → (∀ p ∈ ks, p.2 ∈ L.map (·.2)) → L.length < 4096 → Q (.ref a) (upd H a (SetGO P w a L))
theorem cr_setG (hc : X.calm = true) (hu : X.A.units + 64 < cLine) : CallR X (.type "set") (rSetG X.K X.prog X.w) := by
  intro pins s σ H xs us Q I r h
  obtain ⟨l, ks, U, rfl, hl, hk, hU, inU, q⟩ := h
  rw [Vals.ref1 r]
  obtain ⟨its, rv, pl, hz⟩ := I.list hl
  have hn : H s.heap.objs.size = none := I.hok.fresh (Nat.le_refl _)
  refine call_setG (P := X.prog) (w := X.w) ks U (I.ok.hd hc) pl.isList (by simpa using refs_of_vals rv) (fun p hp => I.isT (hk p hp)) (by omega) inU (by omega) fun h' tk L es ep t R g k => ?_
  have sub : ∀ p ∈ L, p ∈ ks := fun p hp => List.mem_of_mem_take (g.sub p hp)
  have few : L.length < 4096 := by
    have z := len_among (L.map (·.2)) U R.once fun y hy => by
      obtain ⟨p, hp, rfl⟩ := List.mem_map.mp hy
      exact inU p (sub p hp)
    rw [List.length_map] at z
    omega
  exact ⟨.ref s.heap.objs.size, upd H s.heap.objs.size (SetGO X.prog X.w s.heap.objs.size L), I.laid (t' := tk) k (Nat.le_refl _) (setGO_new ⟨es, ep, t, R.obj, R.rws, R.tb, R.once, R.pla, R.ledd, R.rm, R.few, R.m6⟩), rfl,
    q _ L hn sub (fun p hp => g.all p (by rw [List.take_length]; exact hp)) few⟩
/-- sorted(set), the tuples of one length -/
def rSortedG (K : PySem.W.Frag) (P : Program) (w : World) : List V → Hp → VK → Prop := fun vs H Q => ∃ (a : Addr) (L : List (Addr × List Int)) (d : Nat), vs = [V.ref a] ∧ H a = some (SetGO P w a L) ∧ (∀ p ∈ L, SqT K H p.1 (p.2.map V.int)) ∧ L.length < 4096 ∧ 1 ≤ d ∧ (∀ p ∈ L, p.2.length = d) ∧
  ∀ (M : List (Addr × List Int)) (p : Addr), M.Perm L → (M.map (·.2)).Nodup → M.Pairwise (fun q r => HT.lexLt r.2 q.2 = false) → H p = none → Q (.ref p) (upd H p (.lst (M.map fun q => V.ref q.1)))
theorem cr_sortedG (hc : X.calm = true) : CallR X (.builtin "sorted") (rSortedG X.K X.prog X.w) := by
  intro pins s σ H vs us Q I r h
  obtain ⟨a, L, d, rfl, ha, hk, few, hd1, hd, q⟩ := h
  have R0 : SetG0 X.prog X.w s.heap a L := (I.hok a _ ha).1
  obtain ⟨es, ep, t, r1, r2, r3, r4, r5, r6, r7, r8, r9⟩ := R0
  have R : SetG X.prog X.w s.heap a L es ep t := ⟨r1, r2, r3, r4, fun p hp => I.isT (hk p hp), r5, r6, r7, r8, r9⟩
  rw [Vals.ref1 r]
  refine sorted_setG R (I.ok.hd hc) few hd1 hd fun s' p out c M k g o hp hg hout pm pw => ?_
  have len : (M.map fun q => V.ref q.1).length ≤ sizeLine := by rw [List.length_map, pm.length_eq, sizeLine_eq]; omega
  have hn : H p = none := I.hok.fresh hp
  have hv : Vals (M.map fun q => V.ref q.1) out := by rw [hout]; exact vals_of_refs M
  have J : L2.Inv X pins σ (upd H p (.lst (M.map fun q => V.ref q.1))) { s with heap := s'.heap, gens := s'.gens, drawn := s'.drawn, toks := s'.toks } :=
    I.call (ch := []) (Un.laid k hp hn) (I.hok.laid k hp ⟨len, out, c, hv, hg⟩) (by rw [g]; exact I.bare) (fun _ z => nomatch z)
  have e : s' = { s with heap := s'.heap, gens := s'.gens, drawn := s'.drawn, toks := s'.toks } := by
    cases s'
    cases s
    cases o
    rfl
  rw [e]
  exact ⟨.ref p, _, J, rfl, q M p pm ((pm.map (·.2)).nodup_iff.mpr r4) pw hn⟩
end
/-! ### sorted(xs, key=f), f telling a number of each item, changing nothing: some arrangement of xs -/
section
variable {P : Program} {w : World} {A : Around} {E : Value → Shared → Prop} {s : Shared}
theorem sort_by {a : Addr} {vs : List Value} {n : Nat} {kz : List Int} {f : Value} {R : PySem.Fin → Shared → Prop} (ho : s.heap.get? a = some (seqObj "list" vs.toArray n)) (hlen : kz.length = vs.length) (hz : vs.length ≤ 100000)
    (turn : ∀ (i : Nat) (v : Value) (k : Int), vs[i]? = some v → kz[i]? = some k → ∀ (g : Heap) (tk : Nat) (Q : Value → Shared → Prop), (∀ b o, b ≠ a → s.heap.get? b = some o → g.get? b = some o) →
      (∀ tk' t, Q (.int k t) { s with heap := g, toks := tk' }) → wpAny (model P w) A (call f [v]) Q (fun _ _ => False) { s with heap := g, toks := tk })
    (h : ∀ (g : Heap) (tk : Nat) (out : List Value) (c : Nat), out.Perm vs → (∀ b o, b ≠ a → s.heap.get? b = some o → g.get? b = some o) → g.get? a = some (seqObj "list" out.toArray c) → R (.done (.ret .none)) { s with heap := g, toks := tk }) :
    wpAny (model P w) A (ksk_tree a f false) R E s := by
  have la := Heap.lt_size ho
  obtain ⟨e1, ho1⟩ : ∃ e1, (s.heap.update a (Obj.mapSeq fun _ => (#[] : Array Value))).get? a = some (seqObj "list" #[] e1) := ⟨_, get?_update_seq ho fun _ => #[]⟩
  have hz1 : vs.length ≤ sizeLine := by rw [sizeLine_eq]; omega
  unfold ksk_tree
  refine wpAny_bind (listItems_at ho rfl (wpAny_bind (listUpdate_at ho rfl ?_ (by rw [List.size_toArray]; exact hz1) (Nat.zero_le _))))
  refine wpAny_bind (seqEpoch_at ho1 rfl (wpAny_bind (wpAny_newTuple ?_ (show vs.length ≤ _ from hz1))))
  refine wpAny_bind (wpAny_newList (wpAny_holding ?_) (Nat.zero_le _))
  obtain ⟨h1, eh1⟩ : ∃ h1, h1 = s.heap.update a (Obj.mapSeq fun _ => (#[] : Array Value)) := ⟨_, rfl⟩
  obtain ⟨kS, ekS⟩ : ∃ kS, kS = (h1.push (seqObj "tuple" vs.toArray 0)).objs.size := ⟨_, rfl⟩
  obtain ⟨h2, eh2⟩ : ∃ h2, h2 = (h1.push (seqObj "tuple" vs.toArray 0)).push (seqObj "list" #[] 0) := ⟨_, rfl⟩
  have sz : kS = s.heap.objs.size + 1 := by rw [ekS, eh1, size_push', Heap.size_update]
  have ka : kS ≠ a := by rw [sz]; exact Nat.ne_of_gt (Nat.lt_succ_of_lt la)
  have k2 : ∀ b o, b ≠ a → s.heap.get? b = some o → h2.get? b = some o := fun b o hb e => by
    rw [eh2, eh1]
    exact Heap.get?_push_of_some _ (Heap.get?_push_of_some _ ((Heap.get?_update_ne _ _ _ _ hb).trans e))
  have a2 : h2.get? a = some (seqObj "list" #[] e1) := by
    rw [eh2, eh1]
    exact Heap.get?_push_of_some _ (Heap.get?_push_of_some _ ho1)
  have s2 : h2.get? kS = some (seqObj "list" #[] 0) := by
    rw [eh2, ekS]
    exact Heap.get?_push_size _ rfl
  have old : ∀ b o, s.heap.get? b = some o → b ≠ kS := fun b o e => by
    rw [sz]
    exact Nat.ne_of_lt (Nat.lt_succ_of_lt (Heap.lt_size e))
  show wpAny (model P w) A (ksk_rest a f false vs.toArray _ (.ref _)) R E { s with heap := (_ : Heap).push _ }
  rw [← eh1, ← ekS, ← eh2]
  unfold ksk_rest
  refine wpAny_bind (wpAny_rule ?_)
  first
    | rw [List.forIn_toArray]
    | (rw [← Array.forIn_toList]; simp only [List.toList_toArray])
  refine wpAny_bind (ksk_fold (fun i s' => ∃ g tk kA e, s' = { s with heap := g, toks := tk } ∧ (∀ b o, b ≠ a → s.heap.get? b = some o → g.get? b = some o) ∧ g.get? kS = some (seqObj "list" kA e) ∧ g.get? a = some (seqObj "list" #[] e1) ∧ IntsAre kA.toList (kz.take i)) vs 0 _
    ⟨h2, s.toks, #[], 0, rfl, k2, s2, a2, by simpa using IntsAre.nil⟩ ?step ?done)
  case step =>
    rintro j x s' hx ⟨g, tk, kA, e, rfl, kp, gk, ga, hk⟩
    rw [Nat.zero_add] at hk ⊢
    obtain ⟨k, hkj⟩ : ∃ k, kz[j]? = some k := ⟨_, List.getElem?_eq_getElem (by have := (List.getElem?_eq_some_iff.mp hx).1; omega)⟩
    have lk : kA.size ≤ vs.length := by
      have z := hk.length
      rw [Array.length_toList, List.length_take] at z
      omega
    refine wpAny_bind (wpAny_attempt (wpAny_mono (turn j x k hx hkj g tk (fun v s'' => ∃ tk' t, v = .int k t ∧ s'' = { s with heap := g, toks := tk' }) kp fun tk' t => ⟨tk', t, rfl, rfl⟩) (fun v s'' z => ?_) fun _ _ z => z.elim))
    obtain ⟨tk', t, rfl, rfl⟩ := z
    obtain ⟨c2, hc2⟩ : ∃ c2, (g.update kS (Obj.mapSeq (·.push (.int k t)))).get? kS = some (seqObj "list" (kA.push (.int k t)) c2) := ⟨_, get?_update_seq gk (·.push (.int k t))⟩
    have ek : kz.take (j + 1) = kz.take j ++ [k] := by rw [List.take_add_one, hkj]; rfl
    refine wpAny_bind (listUpdate_at gk rfl ?_ (by rw [sizeLine_eq]; omega) (Nat.le_trans (Nat.le_of_eq (Array.size_push ..)) (by rw [sizeLine_eq]; omega)))
    refine wpAny_pure ⟨rfl, _, _, kA.push (.int k t), c2, rfl, fun b o hb eb => ?_, hc2, ?_, ?_⟩
    · rw [Heap.get?_update_ne _ _ _ _ (old b o eb)]
      exact kp b o hb eb
    · rw [Heap.get?_update_ne _ _ _ _ ka.symm]
      exact ga
    · rw [ek, Array.toList_push]
      exact ksk_snoc hk
  case done =>
    rintro s' ⟨g, tk, kA, e, rfl, kp, gk, ga, hk⟩
    rw [Nat.zero_add, List.take_of_length_le (by omega)] at hk
    have ksz : kA.size = vs.length := by
      have z := hk.length
      rw [Array.length_toList] at z
      omega
    refine wpAny_bind (listItems_at gk rfl ?_)
    -- the end, from a finished sort
    have fin : ∀ st : SortSt, (arrOf st).toList.Perm (kA.toList.zip vs) → failedOf st = none → wpAny (model P w) A (ksk_tail a false e1 (.ref kS) st) R E { s with heap := g, toks := tk } := fun st pm fl => by
      have osz : ((arrOf st).map (·.2)).size = vs.length := by
        have z := pm.length_eq
        rw [Array.length_toList, List.length_zip, Array.length_toList, ksz, Nat.min_self] at z
        rw [Array.size_map, z]
      unfold ksk_tail
      simp only [Bool.false_eq_true, if_false]
      refine wpAny_bind (listUpdate_at gk rfl ?_ (by rw [sizeLine_eq]; omega) (Nat.zero_le _))
      have ga1 : (g.update kS (Obj.mapSeq fun _ => (#[] : Array Value))).get? a = some (seqObj "list" #[] e1) := (Heap.get?_update_ne _ _ _ _ ka.symm).trans ga
      refine wpAny_bind (wpAny_letGo (wpAny_bind (seqEpoch_at ga1 rfl (wpAny_bind (listUpdate_at ga1 rfl ?_ (Nat.zero_le _) (by rw [osz, sizeLine_eq]; omega))))))
      rw [fl]
      simp only [bne_self_eq_false, Bool.false_eq_true, if_false]
      obtain ⟨c3, hc3⟩ : ∃ c3, ((g.update kS (Obj.mapSeq fun _ => (#[] : Array Value))).update a (Obj.mapSeq fun _ => (arrOf st).map (·.2))).get? a = some (seqObj "list" ((arrOf st).map (·.2)) c3) := ⟨_, get?_update_seq ga1 fun _ => (arrOf st).map (·.2)⟩
      refine wpAny_pure (h _ _ ((arrOf st).map (·.2)).toList c3 ?_ (fun b o hb eb => ?_) (by rw [Array.toArray_toList]; exact hc3))
      · have z := pm.map (·.2)
        rw [List.map_snd_zip (show vs.length ≤ kA.toList.length from by have q : kA.toList.length = kA.size := rfl; omega)] at z
        rw [Array.toList_map]
        exact z
      · rw [Heap.get?_update_ne _ _ _ _ hb, Heap.get?_update_ne _ _ _ _ (old b o eb)]
        exact kp b o hb eb
    unfold ksk_end
    simp only [Bool.false_eq_true, if_false]
    have zl : (kA.zip vs.toArray).toList = kA.toList.zip vs := ksk_zip kA vs
    by_cases small : vs.toArray.size < 2
    · rw [if_pos small, if_pos small]
      refine wpAny_bind (wpAny_pure ?_)
      rw [StateT.run_pure]
      refine wpAny_bind (wpAny_pure ?_)
      exact fin (SortSt.mk' general' (kA.zip vs.toArray) #[] 7 none) (by show (kA.zip vs.toArray).toList.Perm _; rw [zl]) rfl
    · rw [if_neg small, if_neg small]
      rw [List.size_toArray] at small
      rw [ksk_kind hk (by omega)]
      refine wpAny_bind (wpAny_pure ?_)
      have hall : SrtO.AllL (fun p : Keyed => p.1 ∈ kA.toList) (kA.zip vs.toArray).toList := fun p hp => by
        rw [zl] at hp
        exact (List.of_mem_zip hp).1
      refine wpAny_bind (wpAny_mono (SrtO.wpS_sortO (st0 := SortSt.mk' oneType' (kA.zip vs.toArray) #[] 7 none)
        (Q := fun _ st' => (arrOf st').toList.Perm (kA.toList.zip vs) ∧ failedOf st' = none) (SrtO.swo2 SrtO.swo_int) (SrtO.int_cmp hk) rfl hall rfl rfl fun st' a1 a2 a3 => ⟨by rw [← zl]; exact a2.perm, a3⟩) ?_ fun _ _ z => z)
      rintro ⟨⟨⟩, st'⟩ s' ⟨rfl, pm, fl⟩
      exact fin st' pm fl
end
/-! ### sorted(xs, key=len), xs a list of lists -/
section
variable {P : Program} {w : World} {A : Around} {E : Value → Shared → Prop} {s : Shared}
theorem sorted_by {l : Addr} {vs : List Value} {kz : List Int} {id : String} {Q : Value → Shared → Prop} (hl : s.heap.IsList l vs.toArray) (hlen : kz.length = vs.length) (hz : vs.length ≤ 100000)
    (turn : ∀ (i : Nat) (v : Value) (k : Int), vs[i]? = some v → kz[i]? = some k → ∀ (A' : Around) (g : Heap) (tk : Nat) (Q : Value → Shared → Prop), (∀ b o, s.heap.get? b = some o → g.get? b = some o) →
      (∀ tk' t, Q (.int k t) { s with heap := g, toks := tk' }) → wpAny (model P w) A' (call (.builtin id) [v]) Q (fun _ _ => False) { s with heap := g, toks := tk })
    (h : ∀ (g : Heap) (tk : Nat) (out : List Value) (p c : Nat), out.Perm vs → (∀ b o, s.heap.get? b = some o → g.get? b = some o) → s.heap.objs.size ≤ p → g.get? p = some (seqObj "list" out.toArray c) → Q (.ref p) { s with heap := g, toks := tk }) :
    wpAny (model P w) A (call (.builtin "sorted") [.ref l] [(Str.ofString "key", .builtin id)]) Q E s := by
  have hz1 : vs.length ≤ sizeLine := by rw [sizeLine_eq]; omega
  refine call_function_entry_kw kind_sorted plain_sorted entry_sorted (ksk_s1 _ _) ?_
  unfold Builtin.«sorted»
  refine wpAny_bind (m := checkCount "sorted" 1 1 _) (wpAny_pure (wpAny_bind (collect_list hl (wpAny_bind (wpAny_newList ?_ hz1)) hz1)))
  obtain ⟨g0, eg0⟩ : ∃ g0, g0 = (s.heap.push (seqObj "list" #[] 0)).update s.heap.objs.size (Obj.mapSeq (· ++ vs.toArray)) := ⟨_, rfl⟩
  have sz : g0.objs.size = s.heap.objs.size + 1 := by rw [eg0, Heap.size_update, size_push']
  have kp : ∀ b o, s.heap.get? b = some o → b ≠ g0.objs.size ∧ (g0.push (seqObj "list" vs.toArray 0)).get? b = some o := fun b o e => by
    have lt := Heap.lt_size e
    refine ⟨by rw [sz]; exact Nat.ne_of_lt (Nat.lt_succ_of_lt lt), Heap.get?_push_of_some _ ?_⟩
    rw [eg0, Heap.get?_update_ne _ _ _ _ (Nat.ne_of_lt lt)]
    exact Heap.get?_push_of_some _ e
  have hol : (g0.push (seqObj "list" vs.toArray 0)).get? g0.objs.size = some (seqObj "list" vs.toArray 0) := Heap.get?_push_size _ rfl
  rw [← eg0]
  refine wpAny_bind (wpAny_holding (wpAny_call_entry_kw (s := { s with heap := g0.push (seqObj "list" vs.toArray 0) }) slot_list_sort ⟨_, hol, rfl⟩ entry_list_sort ?body (ksk_l1 _ _)))
  case body =>
    show wpAny (model P w) A.in1.in1 (Builtin.«list.sort» ⟨[.ref g0.objs.size], [(Str.ofString "key", .builtin id)]⟩) _ _ _
    rw [ksk_t4]
    refine sort_by (s := { s with heap := g0.push (seqObj "list" vs.toArray 0) }) hol hlen hz (fun i v k hv hk g tk Q' gk q => turn i v k hv hk _ g tk Q' (fun b o e => gk b o (kp b o e).1 (kp b o e).2) q) fun g tk out c pm gk ga => ⟨_, rfl, wpAny_pure ⟨_, rfl, ?_⟩⟩
    exact h g tk out _ c pm (fun b o e => gk b o (kp b o e).1 (kp b o e).2) (by rw [sz]; exact Nat.le_succ _) ga
end
section
variable {X : Cx}
def tSortLen (K : PySem.W.Frag) (te : TE) : TE := fun σ H Q => te σ H fun x H1 => ∃ (a : Addr) (ls : List Addr), x = .ref a ∧ SqL K H1 a (ls.map V.ref) ∧ ls.length ≤ 100000 ∧ (∀ l ∈ ls, ∃ ys, H1 l = some (.lst ys)) ∧
  ∀ (ls' : List Addr) (p : Addr), ls'.Perm ls → H1 p = none → Q (.ref p) (upd H1 p (.lst (ls'.map V.ref)))
theorem refs_vals : ∀ {ls : List Addr} {us : List Value}, Vals (ls.map V.ref) us → us = ls.map Value.ref
  | [], _, .nil => rfl
  | _ :: _, _, .cons r t => by
    cases r
    rw [refs_vals t]
    rfl
theorem vals_refs : ∀ (ls : List Addr), Vals (ls.map V.ref) (ls.map Value.ref)
  | [] => .nil
  | _ :: ls => .cons rfl (vals_refs ls)
theorem refs_perm {ls : List Addr} {out : List Value} (pm : out.Perm (ls.map Value.ref)) : ∃ ls' : List Addr, out = ls'.map Value.ref ∧ ls'.Perm ls := by
  have un : ∀ {l : List Addr}, (l.map Value.ref).map adV = l := fun {l} => by
    rw [List.map_map]
    exact (List.map_congr_left fun _ _ => rfl).trans (List.map_id l)
  refine ⟨out.map adV, ?_, ?_⟩
  · rw [List.map_map]
    have e : ∀ v ∈ out, (Value.ref ∘ adV) v = v := fun v hv => by
      obtain ⟨a, _, rfl⟩ := List.mem_map.mp (pm.mem_iff.mp hv)
      rfl
    exact ((List.map_congr_left e).trans (List.map_id' out)).symm
  · have z := pm.map adV
    rw [un] at z
    exact z
theorem pe_sortLen {e : Expr} {te : TE} {p q1 kpos pos : Pos} (hg : Gl X "sorted") (hm : X.mg "sorted" = none) (hg2 : Gl X "len") (hm2 : X.mg "len" = none) (ha : PE X e te)
    (hs : starEach [e] X.env = [(false, eval e X.env)] := by rfl) :
    PE X (.Call (.Name "sorted" p) [e] [⟨some (Str.ofString "key"), .Name "len" q1, kpos⟩] pos) (tSortLen X.K te) := by
  refine ⟨fun pins s σ H Q I h => ?_⟩
  refine wpAny_Call_Name_kw (ld_blt I hg hm (by decide +kernel : bootBuiltins "sorted" = some (.builtin "sorted")) ?_ (by decide) (by decide))
  have one : PA X [e] (tCons te tNil) := pa_cons ha pa_nil (by rw [hs]; rfl)
  refine PyProof.Rows.callWith_kw (thn (one.run pos pins s σ H (fun xs H1 => match xs with
    | [x] => ∃ (a : Addr) (ls : List Addr), x = V.ref a ∧ SqL X.K H1 a (ls.map V.ref) ∧ ls.length ≤ 100000 ∧ (∀ l ∈ ls, ∃ ys, H1 l = some (.lst ys)) ∧
        ∀ (ls' : List Addr) (p : Addr), ls'.Perm ls → H1 p = none → Q (.ref p) (upd H1 p (.lst (ls'.map V.ref)))
    | _ => False) I h) fun us s1 ⟨vs, H1, I1, r1, hq⟩ => ?_) (by rw [hs]; rfl) (by rw [hs]; rfl) (by rfl) (by rfl)
  match vs, hq with
  | [], hq => exact hq.elim
  | _ :: _ :: _, hq => exact hq.elim
  | [x], ⟨a, ls, ex, hl, hz, hls, q⟩ =>
    subst ex
    rw [Vals.ref1 r1]
    refine wpAny_evalAll_cons ?_
    show wpAny _ _ (do let v ← eval (.Name "len" q1) X.env; standAt pos; pure v) _ _ s1
    refine wpAny_bind (ld_blt I1 hg2 hm2 PySem.boot_len (wpAny_bind (wpAny_standAt (wpAny_pure (wpAny_evalAll_nil ?_)))) (by decide) (by decide))
    show wpAny _ _ (call (.builtin "sorted") [.ref a] [(Str.ofString "key", .builtin "len")]) _ _ s1
    obtain ⟨its, rv, pl, _⟩ := I1.list hl
    obtain rfl := refs_vals rv
    have kk : ∃ kz : List Int, kz.length = (ls.map Value.ref).length ∧ ∀ (i : Nat) (v : Value) (k : Int), (ls.map Value.ref)[i]? = some v → kz[i]? = some k → ∃ l its, v = Value.ref l ∧ s1.heap.IsList l its ∧ k = its.size ∧ (its.size : Int) < 2 ^ 63 := by
      have sz : ∀ l ∈ ls, ∃ its : Array Value, s1.heap.IsList l its ∧ (its.size : Int) < 2 ^ 63 := fun l hm => by
        obtain ⟨ys, hy⟩ := hls l hm
        obtain ⟨its, r, pl2, hz2⟩ := I1.list (SqL.of (K := X.K) hy)
        refine ⟨its.toArray, pl2.isList, ?_⟩
        rw [r.length, sizeLine_eq] at hz2
        rw [List.size_toArray]
        omega
      have all : ∀ l : Addr, ∃ n : Int, l ∈ ls → ∃ its : Array Value, s1.heap.IsList l its ∧ n = its.size ∧ (its.size : Int) < 2 ^ 63 := fun l => by
        by_cases hm : l ∈ ls
        · obtain ⟨its, h1, h2⟩ := sz l hm
          exact ⟨its.size, fun _ => ⟨its, h1, rfl, h2⟩⟩
        · exact ⟨0, fun z => absurd z hm⟩
      refine ⟨ls.map fun l => Classical.choose (all l), by simp, fun i v k hv hk => ?_⟩
      rw [List.getElem?_map] at hv hk
      obtain ⟨l, h1, rfl⟩ := Option.map_eq_some_iff.mp hv
      rw [h1] at hk
      cases hk
      obtain ⟨its, a1, a2, a3⟩ := Classical.choose_spec (all l) (List.mem_of_getElem? h1)
      exact ⟨l, its, rfl, a1, a2, a3⟩
    obtain ⟨kz, lk, turn⟩ := kk
    refine sorted_by (P := X.prog) (w := X.w) (kz := kz) pl.isList lk (by rw [List.length_map]; exact hz) (fun i v k hv hk A' g tk Q' gk hq => ?_) fun g tk out p c pm gk hp gp => ?_
    · obtain ⟨l, its, rfl, ⟨o, ho, hr⟩, rfl, fit⟩ := turn i v k hv hk
      exact Calls.call_len_list (s := { s1 with heap := g, toks := tk }) ⟨o, gk l o ho, hr⟩ fit (hq _ _)
    · obtain ⟨ls', rfl, pl'⟩ := refs_perm pm
      have hn := I1.hok.fresh hp
      refine ⟨.ref p, upd H1 p (.lst (ls'.map V.ref)), I1.laid (t' := tk) gk hp ⟨by rw [List.length_map, pl'.length_eq, sizeLine_eq]; omega, _, c, vals_refs ls', gp⟩, rfl, q ls' p pl' hn⟩
end
/-! ### (x,) * k -/
theorem tup_mul0 (l : Addr) (v : Value) (n : Nat) (dd : Option Addr) (sl : Array (Option Value)) (u : Tok) :
    Meets (Builtin.«tuple.__mul__» ⟨[.ref l, .int 0 u], []⟩) (fun _ R s => s.heap.get? l = some { cls := .type "tuple", dict := dd, data := .seq #[v] n, slots := sl } ∧
      R (.ok (.ret (Value.ref s.heap.objs.size))) { s with heap := s.heap.push { cls := Value.type "tuple", data := Data.seq #[] }, toks := s.toks }) :=
  .of_wp fun prog w A R s h => by
    obtain ⟨hp, g, d, tk, os⟩ := s
    obtain ⟨hl, h⟩ := h
    have f1 := AutoSeq1.idx_int
    wp_walk using wpAny_loadPart' hl
    repeat (first
      | (refine wpAny_ite_false (by decide) ?_; wp_walk using wpAny_loadPart' hl)
      | (refine wpAny_ite_true (by decide) ?_; wp_walk using wpAny_loadPart' hl))
    exact ⟨_, rfl, h⟩
theorem tup_mul1 (l : Addr) (v : Value) (n : Nat) (dd : Option Addr) (sl : Array (Option Value)) (u : Tok) :
    Meets (Builtin.«tuple.__mul__» ⟨[.ref l, .int 1 u], []⟩) (fun _ R s => s.heap.get? l = some { cls := .type "tuple", dict := dd, data := .seq #[v] n, slots := sl } ∧ R (.ok (.ret (Value.ref l))) s) :=
  .of_wp fun prog w A R s h => by
    obtain ⟨hp, g, d, tk, os⟩ := s
    obtain ⟨hl, h⟩ := h
    have f1 := AutoSeq1.idx_int
    wp_walk using wpAny_loadPart' hl
    repeat (first
      | (refine wpAny_ite_false (by decide) ?_; wp_walk using wpAny_loadPart' hl)
      | (refine wpAny_ite_true (by decide) ?_; wp_walk using wpAny_loadPart' hl))
    exact ⟨_, rfl, h⟩
def rRep1 (K : PySem.W.Frag) : R2 := fun x y H Q => ∃ l k z, x = .ref l ∧ y = .int k ∧ SqT K H l [z] ∧ 0 ≤ k ∧ k ≤ 1000 ∧ (k = 1 → Q (.ref l) H) ∧ (k ≠ 1 → ∀ p, H p = none → Q (.ref p) (upd H p (.tup (List.replicate k.toNat z))))
theorem op_rep1 {X : Cx} : OpR X (binaryOp .Mult) (rRep1 X.K) := by
  intro pins s σ H x y v u Q I rx ry h
  obtain ⟨l, k, z, rfl, rfl, hT, h0, hk, q1, q2⟩ := h
  by_cases two : 2 ≤ k
  · refine op_repT pins s σ H _ _ v u Q I rx ry ⟨l, k, [z], rfl, rfl, hT, by simp, two, hk, by simp, fun p hp => ?_⟩
    have e : (List.replicate k.toNat [z]).flatten = List.replicate k.toNat z := by
      generalize k.toNat = m
      induction m with
      | zero => rfl
      | succ m ih => rw [List.replicate_succ, List.replicate_succ, List.flatten_cons, ih]; rfl
    rw [e]
    exact q2 (by omega) p hp
  · cases rx
    obtain ⟨t, rfl⟩ := ry
    obtain ⟨its, r, ⟨⟨cls, dd, data, sl⟩, ho, hc, n, hd⟩, hs⟩ := I.tuple hT
    simp only at hc hd
    subst hc hd
    cases r with
    | cons r rr =>
      cases rr
      rename_i v0
      have one : k = 0 ∨ k = 1 := by omega
      rcases one with rfl | rfl
      · refine wpAny_binaryOp_repeat_ref (T := "tuple") (U := "int") (by decide) ⟨_, ho, rfl⟩ (fun s' => typeIs_int s' 0 t) noFill_tuple_mul F.fills_int_mul F.slot_int_rmul repeat_tuple F.slot_int_index.lookup
          (call_meets F.slot_int_rmul (typeIs_int s 0 t) F.entry_int_rmul (F.args_int_rmul_2 _ _) (int_rmul_tuple 0 t l _ n dd sl)
            ⟨ho, rfl, ⟨_, ho, rfl⟩, call_meets F.slot_tuple_mul ⟨_, ho, rfl⟩ F.entry_tuple_mul (F.args_tuple_mul_2 _ _) (tup_mul0 l v0 n dd sl t) ⟨ho, ?_⟩⟩)
        have hn := I.hok.fresh (Nat.le_refl s.heap.objs.size)
        exact ⟨.ref s.heap.objs.size, _, I.laid (t' := s.toks) (o := .tup []) (fun b ob e => Heap.get?_push_of_some _ e) (Nat.le_refl _) ⟨Nat.zero_le _, [], .nil, IsTup.new _ _⟩, rfl, q2 (by decide) _ hn⟩
      · refine wpAny_binaryOp_repeat_ref (T := "tuple") (U := "int") (by decide) ⟨_, ho, rfl⟩ (fun s' => typeIs_int s' 1 t) noFill_tuple_mul F.fills_int_mul F.slot_int_rmul repeat_tuple F.slot_int_index.lookup
          (call_meets F.slot_int_rmul (typeIs_int s 1 t) F.entry_int_rmul (F.args_int_rmul_2 _ _) (int_rmul_tuple 1 t l _ n dd sl)
            ⟨ho, rfl, ⟨_, ho, rfl⟩, call_meets F.slot_tuple_mul ⟨_, ho, rfl⟩ F.entry_tuple_mul (F.args_tuple_mul_2 _ _) (tup_mul1 l v0 n dd sl t) ⟨ho, ?_⟩⟩)
        exact ⟨.ref l, H, I, rfl, q1 rfl⟩
/-! ### stores of four numbers: what is least of them (plain Lean) -/
def le4 : List Int → List Int → Bool
  | [a, b, c, d], [e, f, g, h] => decide (a ≤ e) && (decide (b ≤ f) && (decide (c ≤ g) && decide (d ≤ h)))
  | _, _ => false
def Ok4 (x : List Int) : Prop := ∃ a b c d : Int, x = [a, b, c, d] ∧ 0 ≤ a ∧ 0 ≤ b ∧ 0 ≤ c ∧ 0 ≤ d
theorem le4_iff {a b c d e f g h : Int} : le4 [a, b, c, d] [e, f, g, h] = true ↔ a ≤ e ∧ b ≤ f ∧ c ≤ g ∧ d ≤ h := by
  simp only [le4, Bool.and_eq_true, decide_eq_true_eq]
theorem le4_len {x y : List Int} (h : le4 x y = true) : ∃ a b c d e f g i : Int, x = [a, b, c, d] ∧ y = [e, f, g, i] ∧ a ≤ e ∧ b ≤ f ∧ c ≤ g ∧ d ≤ i := by
  match x, y, h with
  | [a, b, c, d], [e, f, g, i], h =>
    obtain ⟨h1, h2, h3, h4⟩ := le4_iff.mp h
    exact ⟨a, b, c, d, e, f, g, i, rfl, rfl, h1, h2, h3, h4⟩
theorem le4_refl {x : List Int} (h : Ok4 x) : le4 x x = true := by
  obtain ⟨a, b, c, d, rfl, _⟩ := h
  exact le4_iff.mpr ⟨Int.le_refl _, Int.le_refl _, Int.le_refl _, Int.le_refl _⟩
theorem le4_trans {x y z : List Int} (h1 : le4 x y = true) (h2 : le4 y z = true) : le4 x z = true := by
  obtain ⟨a, b, c, d, e, f, g, i, rfl, rfl, p⟩ := le4_len h1
  obtain ⟨_, _, _, _, j, k, l, m, e1, rfl, q⟩ := le4_len h2
  cases e1
  exact le4_iff.mpr ⟨by omega, by omega, by omega, by omega⟩
theorem le4_anti {x y : List Int} (h1 : le4 x y = true) (h2 : le4 y x = true) : x = y := by
  obtain ⟨a, b, c, d, e, f, g, i, rfl, rfl, p⟩ := le4_len h1
  have q := le4_iff.mp h2
  have e1 : a = e := by omega
  have e2 : b = f := by omega
  have e3 : c = g := by omega
  have e4 : d = i := by omega
  rw [e1, e2, e3, e4]
/-- what is covered stands ahead, or is the same -/
theorem le4_lex {x y : List Int} (h : le4 x y = true) : HT.lexLt y x = false := by
  obtain ⟨a, b, c, d, e, f, g, i, rfl, rfl, p⟩ := le4_len h
  simp only [HT.lexLt]
  split
  · split
    · split
      · split
        · rfl
        · exact decide_eq_false (by omega)
      · exact decide_eq_false (by omega)
    · exact decide_eq_false (by omega)
  · exact decide_eq_false (by omega)
theorem lex4_tot {x y : List Int} (hx : x.length = y.length) (h : HT.lexLt y x = false) : x = y ∨ HT.lexLt x y = true := by
  induction x generalizing y with
  | nil =>
    cases y with
    | nil => exact .inl rfl
    | cons b y => simp at hx
  | cons a x ih =>
    cases y with
    | nil => simp at hx
    | cons b y =>
      rw [HT.lexLt_cons] at h ⊢
      by_cases e : a = b
      · subst e
        rw [if_pos rfl] at h ⊢
        rcases ih (by simpa using hx) h with rfl | z
        · exact .inl rfl
        · exact .inr z
      · rw [if_neg (fun z => e z.symm)] at h
        rw [if_neg e]
        have := of_decide_eq_false h
        exact .inr (decide_eq_true (by omega))
theorem lex_irr (x : List Int) : HT.lexLt x x = false := by
  induction x with
  | nil => rfl
  | cons a x ih =>
    rw [HT.lexLt_cons, if_pos rfl]
    exact ih
def UpS (S : List (List Int)) (x : List Int) : Prop := ∃ y ∈ S, le4 y x = true
def anyLe (x : List Int) (S : List (List Int)) : Bool := S.any fun y => le4 y x
theorem anyLe_iff {x : List Int} {S : List (List Int)} : anyLe x S = true ↔ UpS S x := by
  unfold anyLe UpS
  rw [List.any_eq_true]
theorem UpS.mono {S : List (List Int)} {x y : List Int} (h : UpS S x) (l : le4 x y = true) : UpS S y :=
  let ⟨z, hz, e⟩ := h; ⟨z, hz, le4_trans e l⟩
/-- M: the least ones of U, sorted -/
structure Canon (M : List (List Int)) (U : List Int → Prop) : Prop where
  ok : ∀ x ∈ M, Ok4 x
  srt : M.Pairwise fun x y => HT.lexLt x y = true
  anti : ∀ x ∈ M, ∀ y ∈ M, le4 x y = true → x = y
  up : ∀ x, Ok4 x → (UpS M x ↔ U x)
theorem Canon.congr {M : List (List Int)} {U V : List Int → Prop} (c : Canon M U) (h : ∀ x, Ok4 x → (U x ↔ V x)) : Canon M V :=
  ⟨c.ok, c.srt, c.anti, fun x hx => (c.up x hx).trans (h x hx)⟩
theorem Canon.mem {M N : List (List Int)} {U : List Int → Prop} (c : Canon M U) (d : Canon N U) {x : List Int} (hx : x ∈ M) : x ∈ N := by
  have ox := c.ok x hx
  obtain ⟨y, hy, l1⟩ := (d.up x ox).mpr ((c.up x ox).mp ⟨x, hx, le4_refl ox⟩)
  have oy := d.ok y hy
  obtain ⟨z, hz, l2⟩ := (c.up y oy).mpr ((d.up y oy).mp ⟨y, hy, le4_refl oy⟩)
  have e := c.anti z hz x hx (le4_trans l2 l1)
  subst e
  rw [le4_anti l2 l1]
  exact hy
theorem srt_eq : ∀ {M N : List (List Int)}, (M.Pairwise fun x y => HT.lexLt x y = true) → (N.Pairwise fun x y => HT.lexLt x y = true) → (∀ x, x ∈ M ↔ x ∈ N) → M = N
  | [], [], _, _, _ => rfl
  | [], y :: N, _, _, h => absurd ((h y).mpr List.mem_cons_self) (by simp)
  | x :: M, [], _, _, h => absurd ((h x).mp List.mem_cons_self) (by simp)
  | x :: M, y :: N, hM, hN, h => by
    obtain ⟨m1, m2⟩ := List.pairwise_cons.mp hM
    obtain ⟨n1, n2⟩ := List.pairwise_cons.mp hN
    have e : x = y := by
      rcases List.mem_cons.mp ((h x).mp List.mem_cons_self) with e | e
      · exact e
      · rcases List.mem_cons.mp ((h y).mpr List.mem_cons_self) with e2 | e2
        · exact e2.symm
        · have a := n1 x e
          have b := m1 y e2
          rw [NtL.lex_asym _ _ a] at b
          cases b
    subst e
    refine congrArg (x :: ·) (srt_eq m2 n2 fun z => ⟨fun hz => ?_, fun hz => ?_⟩)
    · rcases List.mem_cons.mp ((h z).mp (List.mem_cons_of_mem _ hz)) with rfl | r
      · have a := m1 z hz
        rw [lex_irr] at a
        cases a
      · exact r
    · rcases List.mem_cons.mp ((h z).mpr (List.mem_cons_of_mem _ hz)) with rfl | r
      · have a := n1 z hz
        rw [lex_irr] at a
        cases a
      · exact r
theorem Canon.uniq {M N : List (List Int)} {U : List Int → Prop} (c : Canon M U) (d : Canon N U) : M = N := srt_eq c.srt d.srt fun _ => ⟨c.mem d, d.mem c⟩
/-- sorted ones gone through: each that covers no one found yet -/
def sieve : List (List Int) → List (List Int) → List (List Int)
  | found, [] => found
  | found, x :: r => if anyLe x found then sieve found r else sieve (found ++ [x]) r
theorem sieve_snoc : ∀ (T found : List (List Int)) (x : List Int), sieve found (T ++ [x]) = if anyLe x (sieve found T) then sieve found T else sieve found T ++ [x]
  | [], found, x => rfl
  | y :: T, found, x => by
    cases h : anyLe y found with
    | true =>
      have e1 : sieve found (y :: T ++ [x]) = sieve found (T ++ [x]) := if_pos h
      have e2 : sieve found (y :: T) = sieve found T := if_pos h
      rw [e1, e2]
      exact sieve_snoc T found x
    | false =>
      have e1 : sieve found (y :: T ++ [x]) = sieve (found ++ [y]) (T ++ [x]) := if_neg (by rw [h]; decide)
      have e2 : sieve found (y :: T) = sieve (found ++ [y]) T := if_neg (by rw [h]; decide)
      rw [e1, e2]
      exact sieve_snoc T _ x
theorem sieve_ok {T : List (List Int)} (ok : ∀ x ∈ T, Ok4 x) (srt : T.Pairwise fun x y => HT.lexLt x y = true) : ∀ n, n ≤ T.length →
    (∀ x ∈ sieve [] (T.take n), x ∈ T.take n) ∧ ((sieve [] (T.take n)).Pairwise fun x y => HT.lexLt x y = true) ∧ (∀ x ∈ sieve [] (T.take n), ∀ y ∈ sieve [] (T.take n), le4 x y = true → x = y) ∧ (∀ x, UpS (sieve [] (T.take n)) x ↔ UpS (T.take n) x)
  | 0, _ => by
    rw [List.take_zero]
    exact ⟨fun x h => h, List.Pairwise.nil, fun x h => (nomatch h), fun x => Iff.rfl⟩
  | n + 1, hn => by
    obtain ⟨i1, i2, i3, i4⟩ := sieve_ok ok srt n (by omega)
    obtain ⟨x, hx⟩ : ∃ x, T[n]? = some x := ⟨_, List.getElem?_eq_getElem hn⟩
    have et : T.take (n + 1) = T.take n ++ [x] := by rw [List.take_succ, hx]; rfl
    have before : ∀ y ∈ T.take n, HT.lexLt y x = true := fun y hy => by
      have s := srt.sublist (List.take_sublist (n + 1) T)
      rw [et] at s
      exact (List.pairwise_append.mp s).2.2 y hy x (List.mem_singleton.mpr rfl)
    rw [et, sieve_snoc]
    by_cases c : anyLe x (sieve [] (T.take n)) = true
    · rw [if_pos c]
      refine ⟨fun y hy => List.mem_append_left _ (i1 y hy), i2, i3, fun y => ⟨fun h => ?_, fun h => ?_⟩⟩
      · obtain ⟨z, hz, e⟩ := (i4 y).mp h
        exact ⟨z, List.mem_append_left _ hz, e⟩
      · obtain ⟨z, hz, e⟩ := h
        rcases List.mem_append.mp hz with hz | hz
        · exact (i4 y).mpr ⟨z, hz, e⟩
        · rw [List.mem_singleton.mp hz] at e
          exact (anyLe_iff.mp c).mono e
    · rw [if_neg c]
      have no : ∀ y ∈ sieve [] (T.take n), ¬ le4 y x = true := fun y hy e => c (anyLe_iff.mpr ⟨y, hy, e⟩)
      refine ⟨fun y hy => ?_, List.pairwise_append.mpr ⟨i2, List.pairwise_singleton _ _, fun y hy z hz => ?_⟩, fun y hy z hz e => ?_, fun y => ⟨fun h => ?_, fun h => ?_⟩⟩
      · rcases List.mem_append.mp hy with hy | hy
        · exact List.mem_append_left _ (i1 y hy)
        · exact List.mem_append_right _ hy
      · rw [List.mem_singleton.mp hz]
        exact before y (i1 y hy)
      · rcases List.mem_append.mp hy with hy | hy
        · rcases List.mem_append.mp hz with hz | hz
          · exact i3 y hy z hz e
          · rw [List.mem_singleton.mp hz] at e
            exact absurd e (no y hy)
        · rw [List.mem_singleton.mp hy] at e ⊢
          rcases List.mem_append.mp hz with hz | hz
          · have a := le4_lex e
            rw [before z (i1 z hz)] at a
            cases a
          · exact (List.mem_singleton.mp hz).symm
      · obtain ⟨z, hz, e⟩ := h
        rcases List.mem_append.mp hz with hz | hz
        · obtain ⟨u, hu, e2⟩ := (i4 y).mp ⟨z, hz, e⟩
          exact ⟨u, List.mem_append_left _ hu, e2⟩
        · exact ⟨z, List.mem_append_right _ hz, e⟩
      · obtain ⟨z, hz, e⟩ := h
        rcases List.mem_append.mp hz with hz | hz
        · obtain ⟨u, hu, e2⟩ := (i4 y).mpr ⟨z, hz, e⟩
          exact ⟨u, List.mem_append_left _ hu, e2⟩
        · exact ⟨z, List.mem_append_right _ hz, e⟩
theorem sieve_len : ∀ (T found : List (List Int)), (sieve found T).length ≤ found.length + T.length
  | [], _ => Nat.le_refl _
  | x :: T, found => by
    simp only [sieve]
    split
    · have := sieve_len T found
      rw [List.length_cons]
      omega
    · have := sieve_len T (found ++ [x])
      rw [List.length_append, List.length_singleton] at this
      rw [List.length_cons]
      omega
theorem sieve_canon {T : List (List Int)} (ok : ∀ x ∈ T, Ok4 x) (srt : T.Pairwise fun x y => HT.lexLt x y = true) : Canon (sieve [] T) (UpS T) := by
  obtain ⟨i1, i2, i3, i4⟩ := sieve_ok ok srt T.length (Nat.le_refl _)
  rw [List.take_length] at i1 i2 i3 i4
  exact ⟨fun x hx => ok x (i1 x hx), i2, i3, fun x _ => i4 x⟩
/-! ### what a way needs, what covers both -/
def need4 (w s : List Int) : List Int := List.zipWith (fun x y => max 0 (y - x)) w s
def join4 (x y : List Int) : List Int := List.zipWith max x y
def add4 (x w : List Int) : List Int := List.zipWith (· + ·) x w
theorem need4_ok {w s : List Int} (hw : w.length = 4) (hs : Ok4 s) : Ok4 (need4 w s) := by
  obtain ⟨a, b, c, d, rfl, _⟩ := hs
  match w, hw with
  | [e, f, g, h], _ => exact ⟨max 0 (a - e), max 0 (b - f), max 0 (c - g), max 0 (d - h), rfl, by omega, by omega, by omega, by omega⟩
theorem join4_ok {x y : List Int} (hx : Ok4 x) (hy : Ok4 y) : Ok4 (join4 x y) := by
  obtain ⟨a, b, c, d, rfl, _⟩ := hx
  obtain ⟨e, f, g, h, rfl, _⟩ := hy
  exact ⟨max a e, max b f, max c g, max d h, rfl, by omega, by omega, by omega, by omega⟩
theorem join4_le {x y z : List Int} (hx : Ok4 x) (hy : Ok4 y) (hz : Ok4 z) : le4 (join4 x y) z = true ↔ le4 x z = true ∧ le4 y z = true := by
  obtain ⟨a, b, c, d, rfl, _⟩ := hx
  obtain ⟨e, f, g, h, rfl, _⟩ := hy
  obtain ⟨i, j, k, l, rfl, _⟩ := hz
  show le4 [max a e, max b f, max c g, max d h] [i, j, k, l] = true ↔ _
  rw [le4_iff, le4_iff, le4_iff]
  omega
/-- x covers what the way w needs for s just where w leads from x to what covers s -/
theorem need4_le {w s x : List Int} (hw : w.length = 4) (hs : Ok4 s) (hx : Ok4 x) : le4 (need4 w s) x = true ↔ Ok4 (add4 x w) ∧ le4 s (add4 x w) = true := by
  obtain ⟨a, b, c, d, rfl, _⟩ := hs
  obtain ⟨i, j, k, l, rfl, _⟩ := hx
  match w, hw with
  | [e, f, g, h], _ =>
    show le4 [max 0 (a - e), max 0 (b - f), max 0 (c - g), max 0 (d - h)] [i, j, k, l] = true ↔ Ok4 [i + e, j + f, k + g, l + h] ∧ le4 [a, b, c, d] [i + e, j + f, k + g, l + h] = true
    rw [le4_iff, le4_iff]
    constructor
    · intro z
      exact ⟨⟨_, _, _, _, rfl, by omega, by omega, by omega, by omega⟩, by omega⟩
    · rintro ⟨_, z⟩
      omega
/-- the ones of A that cover one of B, and joined ones of the others -/
def bothL (A B : List (List Int)) : List (List Int) := A.flatMap fun s => if anyLe s B then [s] else B.map (join4 s)
theorem bothL_ok {A B : List (List Int)} (hA : ∀ x ∈ A, Ok4 x) (hB : ∀ x ∈ B, Ok4 x) : ∀ x ∈ bothL A B, Ok4 x := fun x hx => by
  obtain ⟨s, hs, h⟩ := List.mem_flatMap.mp hx
  split at h
  · rw [List.mem_singleton.mp h]
    exact hA s hs
  · obtain ⟨t, ht, rfl⟩ := List.mem_map.mp h
    exact join4_ok (hA s hs) (hB t ht)
theorem bothL_up {A B : List (List Int)} (hA : ∀ x ∈ A, Ok4 x) (hB : ∀ x ∈ B, Ok4 x) {x : List Int} (hx : Ok4 x) : UpS (bothL A B) x ↔ UpS A x ∧ UpS B x := by
  constructor
  · rintro ⟨y, hy, l⟩
    obtain ⟨s, hs, h⟩ := List.mem_flatMap.mp hy
    split at h
    · rename_i c
      rw [List.mem_singleton.mp h] at l
      exact ⟨⟨s, hs, l⟩, (anyLe_iff.mp c).mono l⟩
    · obtain ⟨t, ht, rfl⟩ := List.mem_map.mp h
      have z := (join4_le (hA s hs) (hB t ht) hx).mp l
      exact ⟨⟨s, hs, z.1⟩, ⟨t, ht, z.2⟩⟩
  · rintro ⟨⟨s, hs, l1⟩, ⟨t, ht, l2⟩⟩
    by_cases c : anyLe s B = true
    · exact ⟨s, List.mem_flatMap.mpr ⟨s, hs, by rw [if_pos c]; exact List.mem_singleton.mpr rfl⟩, l1⟩
    · exact ⟨join4 s t, List.mem_flatMap.mpr ⟨s, hs, by rw [if_neg c]; exact List.mem_map.mpr ⟨t, ht, rfl⟩⟩, (join4_le (hA s hs) (hB t ht) hx).mpr ⟨l1, l2⟩⟩
theorem bothL_len {A B : List (List Int)} : (bothL A B).length ≤ A.length * (B.length + 1) := by
  unfold bothL
  induction A with
  | nil => simp
  | cons s A ih =>
    rw [List.flatMap_cons, List.length_append, List.length_cons, Nat.succ_mul]
    have : (if anyLe s B then [s] else B.map (join4 s)).length ≤ B.length + 1 := by
      split
      · simp
      · simp
    omega
/-! ### how many asks a store lasts -/
abbrev Asks := List (List (List Int))
def LN (asks : Asks) : Nat → List Int → Prop
  | 0, _ => True
  | n + 1, x => ∀ a ∈ asks, ∃ w ∈ a, Ok4 (add4 x w) ∧ LN asks n (add4 x w)
def Nd (asks : Asks) (j : Nat) (a : List (List Int)) (x : List Int) : Prop := ∃ w ∈ a, Ok4 (add4 x w) ∧ LN asks j (add4 x w)
theorem LN.down {asks : Asks} : ∀ {n : Nat} {x : List Int}, LN asks (n + 1) x → LN asks n x
  | 0, _, _ => True.intro
  | _ + 1, _, h => fun a ha => let ⟨w, hw, o, z⟩ := h a ha; ⟨w, hw, o, LN.down z⟩
theorem LN.le {asks : Asks} {n m : Nat} {x : List Int} (h : LN asks m x) (l : n ≤ m) : LN asks n x := by
  induction l with
  | refl => exact h
  | step _ ih => exact ih h.down
/-- from where two are alike all are -/
theorem LN.rest {asks : Asks} {j : Nat} (e : ∀ x, Ok4 x → (LN asks j x ↔ LN asks (j + 1) x)) : ∀ (k : Nat) (x : List Int), Ok4 x → (LN asks j x ↔ LN asks (j + k) x)
  | 0, _, _ => Iff.rfl
  | k + 1, x, hx => by
    refine ((e x hx).trans ⟨fun h a ha => ?_, fun h a ha => ?_⟩)
    · obtain ⟨w, hw, o, z⟩ := h a ha
      exact ⟨w, hw, o, (LN.rest e k _ o).mp z⟩
    · obtain ⟨w, hw, o, z⟩ := h a ha
      exact ⟨w, hw, o, (LN.rest e k _ o).mpr z⟩
theorem ok_zero : Ok4 [0, 0, 0, 0] := ⟨0, 0, 0, 0, rfl, by decide, by decide, by decide, by decide⟩
theorem canon_zero (asks : Asks) : Canon [[0, 0, 0, 0]] (LN asks 0) := by
  refine ⟨fun x hx => by rw [List.mem_singleton.mp hx]; exact ok_zero, List.pairwise_singleton _ _, fun x hx y hy _ => by rw [List.mem_singleton.mp hx, List.mem_singleton.mp hy], fun x hx => ⟨fun _ => True.intro, fun _ => ?_⟩⟩
  obtain ⟨a, b, c, d, rfl, h⟩ := hx
  exact ⟨_, List.mem_singleton.mpr rfl, le4_iff.mpr h⟩
/-- the needs of an ask, from the least ones -/
theorem needs_up {asks : Asks} {j : Nat} {B : List (List Int)} (c : Canon B (LN asks j)) {a : List (List Int)} (hw : ∀ w ∈ a, w.length = 4) {x : List Int} (hx : Ok4 x) :
    UpS (a.flatMap fun w => B.map (need4 w)) x ↔ Nd asks j a x := by
  constructor
  · rintro ⟨y, hy, l⟩
    obtain ⟨w, ha, h⟩ := List.mem_flatMap.mp hy
    obtain ⟨s, hs, rfl⟩ := List.mem_map.mp h
    obtain ⟨o, z⟩ := (need4_le (hw w ha) (c.ok s hs) hx).mp l
    exact ⟨w, ha, o, (c.up _ o).mp ⟨s, hs, z⟩⟩
  · rintro ⟨w, ha, o, z⟩
    obtain ⟨s, hs, l⟩ := (c.up _ o).mpr z
    exact ⟨need4 w s, List.mem_flatMap.mpr ⟨w, ha, List.mem_map.mpr ⟨s, hs, rfl⟩⟩, (need4_le (hw w ha) (c.ok s hs) hx).mpr ⟨o, l⟩⟩
/-- few enough all the way -/
structure Few (asks : Asks) (n m : Nat) : Prop where
  sq : m * (m + 1) < 4096
  fv : m * 5 < 4096
  all : ∀ j, j < n → ∀ as : Asks, (∀ a ∈ as, a ∈ asks) → ∀ M, Canon M (fun x => LN asks j x ∧ ∀ a ∈ as, Nd asks j a x) → M.length ≤ m
  one : ∀ j, j < n → ∀ a ∈ asks, ∀ M, Canon M (Nd asks j a) → M.length ≤ m
/-! ### t[a:b], the whole of t too -/
open HT (sIx)
section
variable {P : Program} {w : World} {A : Around} {E : Value → Shared → Prop} {s : Shared}
theorem tup_whole {t sl : Addr} {items : Array Value} {vl vu : Value} {lo hi : Option Int} {Q : Value → Shared → Prop} (ht : IsTup s.heap t items) (hs : s.heap.IsSliceOf sl vl vu .none) (pl : IsPart vl lo) (pu : IsPart vu hi)
    (w1 : sIx items.size 0 lo = 0) (w2 : sIx items.size items.size hi = items.size) (h : Q (.ref t) s) : wpAny (model P w) A (getItem (.ref t) (.ref sl)) Q E s := by
  obtain ⟨os, hos, hcs, hds⟩ := id hs
  have hTs : s.TypeIs (.ref sl) "slice" := ⟨os, hos, hcs⟩
  unfold getItem
  try with_reducible refine wpAny_holding ?_
  first
    | refine wpAny_bind (wpAny_pure ?_)
    | skip
  refine wpAny_bind (wpAny_sequenceKey ht.typeIs (by decide) (wpAny_bind (wpAny_callSpecial?_slot (name := Str.ofString "__getitem__") ht.typeIs PyProof.Rows.slot_tuple_getitem
    (wpAny_call_entry PyProof.Rows.slot_tuple_getitem ht.typeIs PyProof.Rows.entry_tuple_getitem ?_ (PyProof.Rows.args_tuple_getitem _ _)))))
  show wpAny _ _ (Builtin.Tuple.tupleItemsOf (.ref t) >>= _) _ _ s
  refine wpAny_bind (PyProof.Rows.tupleItemsOf_ ht (wpAny_bind (wpAny_typeOf hTs ?_)))
  rw [if_pos (by decide)]
  refine wpAny_bind (HT.sliceApplied_gen hs pl pu ?_)
  rw [w1, w2]
  show wpAny _ _ (if (((0 : Nat) : Int) == 0 && (1 : Int) == 1 && (items.size - 0) == items.size) = true then _ else _) _ _ s
  rw [if_pos (by simp)]
  unfold Builtin.Tuple.tupleIsExact
  repeat (first
    | exact wpAny_pure ⟨_, rfl, wpAny_pure h⟩
    | (with_reducible refine wpAny_typeOf ht.typeIs ?_)
    | (with_reducible refine wpAny_rule ?_)
    | wp_step)
end
def rSlA (K : PySem.W.Frag) : V → Option Int → Option Int → Hp → VK → Prop := fun x lo hi H Q => ∃ a xs, x = .ref a ∧ SqT K H a xs ∧
  ((sIx xs.length 0 lo = 0 ∧ sIx xs.length xs.length hi = xs.length) → Q (.ref a) H) ∧ (¬ (sIx xs.length 0 lo = 0 ∧ sIx xs.length xs.length hi = xs.length) → ∀ p, H p = none → Q (.ref p) (upd H p (.tup (cutV xs lo hi))))
theorem sl_tupA {X : Cx} : SlR X (rSlA X.K) := by
  intro pins s σ H x v vl vu lo hi sl Q I rx hs pl pu h
  obtain ⟨a, xs, rfl, hx, q1, q2⟩ := h
  by_cases c : sIx xs.length 0 lo = 0 ∧ sIx xs.length xs.length hi = xs.length
  · cases rx
    obtain ⟨its, r, ht, hz⟩ := I.tuple hx
    have hl : its.toArray.size = xs.length := by rw [List.size_toArray]; exact r.length.symm
    exact ⟨"tuple", _, PyProof.Rows.slot_tuple_getitem.lookup, ht.typeIs, tup_whole ht hs pl pu (by rw [hl]; exact c.1) (by rw [hl]; exact c.2) ⟨.ref a, H, I, rfl, q1 c⟩⟩
  · exact sl_tup pins s σ H _ v vl vu lo hi sl Q I rx hs pl pu ⟨a, xs, rfl, hx, c, q2 c⟩
/-! ### what lasts lasts by what it has up to a bound (plain Lean) -/
def clip4 (t x : List Int) : List Int := List.zipWith min t x
theorem add4_le {x y w : List Int} (h : le4 x y = true) (o : Ok4 (add4 x w)) : Ok4 (add4 y w) ∧ le4 (add4 x w) (add4 y w) = true := by
  obtain ⟨a, b, c, d, e, f, g, i, rfl, rfl, p⟩ := le4_len h
  obtain ⟨p1, p2, p3, p4, q, o⟩ := o
  match w, q with
  | [], q => cases q
  | [_], q => cases q
  | [_, _], q => cases q
  | [_, _, _], q => cases q
  | w1 :: w2 :: w3 :: w4 :: r, q =>
    have q' : [a + w1, b + w2, c + w3, d + w4] = [p1, p2, p3, p4] := q
    obtain ⟨q1, q⟩ := List.cons.inj q'
    obtain ⟨q2, q⟩ := List.cons.inj q
    obtain ⟨q3, q⟩ := List.cons.inj q
    obtain ⟨q4, _⟩ := List.cons.inj q
    exact ⟨⟨e + w1, f + w2, g + w3, i + w4, rfl, by omega, by omega, by omega, by omega⟩, show le4 [a + w1, b + w2, c + w3, d + w4] [e + w1, f + w2, g + w3, i + w4] = true from le4_iff.mpr ⟨by omega, by omega, by omega, by omega⟩⟩
theorem LN.mono {asks : Asks} : ∀ {n : Nat} {x y : List Int}, LN asks n x → le4 x y = true → LN asks n y
  | 0, _, _, _, _ => True.intro
  | _ + 1, _, _, h, l => fun a ha => by
    obtain ⟨w, hw, o, z⟩ := h a ha
    obtain ⟨o2, l2⟩ := add4_le l o
    exact ⟨w, hw, o2, z.mono l2⟩
theorem Nd.mono {asks : Asks} {n : Nat} {a : List (List Int)} {x y : List Int} (h : Nd asks n a x) (l : le4 x y = true) : Nd asks n a y := by
  obtain ⟨w, hw, o, z⟩ := h
  obtain ⟨o2, l2⟩ := add4_le l o
  exact ⟨w, hw, o2, z.mono l2⟩
structure Ways4 (asks : Asks) (s1 s2 s3 s4 : Int) : Prop where
  p1 : 0 ≤ s1
  p2 : 0 ≤ s2
  p3 : 0 ≤ s3
  p4 : 0 ≤ s4
  all : ∀ a ∈ asks, ∀ w ∈ a, ∃ e f g h : Int, w = [e, f, g, h] ∧ (-s1 ≤ e ∧ e ≤ s1) ∧ (-s2 ≤ f ∧ f ≤ s2) ∧ (-s3 ≤ g ∧ g ≤ s3) ∧ (-s4 ≤ h ∧ h ≤ s4)
theorem mul_up (s : Int) (n : Nat) : s * ((n + 1 : Nat) : Int) = s * n + s := by rw [Int.natCast_succ, Int.mul_add, Int.mul_one]
theorem nd_clip {asks : Asks} {s1 s2 s3 s4 : Int} (W : Ways4 asks s1 s2 s3 s4) {n : Nat}
    (ih : ∀ {x : List Int} {t1 t2 t3 t4 : Int}, Ok4 x → s1 * n ≤ t1 → s2 * n ≤ t2 → s3 * n ≤ t3 → s4 * n ≤ t4 → LN asks n x → LN asks n (clip4 [t1, t2, t3, t4] x))
    {a : List (List Int)} (ha : a ∈ asks) {x : List Int} {t1 t2 t3 t4 : Int} (hx : Ok4 x) (h1 : s1 * ((n + 1 : Nat) : Int) ≤ t1) (h2 : s2 * ((n + 1 : Nat) : Int) ≤ t2) (h3 : s3 * ((n + 1 : Nat) : Int) ≤ t3) (h4 : s4 * ((n + 1 : Nat) : Int) ≤ t4)
    (h : Nd asks n a x) : Nd asks n a (clip4 [t1, t2, t3, t4] x) := by
  obtain ⟨w, hw, o, z⟩ := h
  obtain ⟨e, f, g, i, rfl, b1, b2, b3, b4⟩ := W.all a ha w hw
  obtain ⟨x1, x2, x3, x4, rfl, o1, o2, o3, o4⟩ := hx
  rw [mul_up] at h1 h2 h3 h4
  have z2 := ih (t1 := t1 - s1) (t2 := t2 - s2) (t3 := t3 - s3) (t4 := t4 - s4) o (by omega) (by omega) (by omega) (by omega) z
  obtain ⟨y1, y2, y3, y4, q, o⟩ := o
  have q' : [x1 + e, x2 + f, x3 + g, x4 + i] = [y1, y2, y3, y4] := q
  obtain ⟨q1, q⟩ := List.cons.inj q'
  obtain ⟨q2, q⟩ := List.cons.inj q
  obtain ⟨q3, q⟩ := List.cons.inj q
  obtain ⟨q4, _⟩ := List.cons.inj q
  have m1 : 0 ≤ s1 * (n : Int) := Int.mul_nonneg W.p1 (by omega)
  have m2 : 0 ≤ s2 * (n : Int) := Int.mul_nonneg W.p2 (by omega)
  have m3 : 0 ≤ s3 * (n : Int) := Int.mul_nonneg W.p3 (by omega)
  have m4 : 0 ≤ s4 * (n : Int) := Int.mul_nonneg W.p4 (by omega)
  refine ⟨_, hw, ⟨min t1 x1 + e, min t2 x2 + f, min t3 x3 + g, min t4 x4 + i, rfl, by omega, by omega, by omega, by omega⟩, z2.mono ?_⟩
  show le4 [min (t1 - s1) (x1 + e), min (t2 - s2) (x2 + f), min (t3 - s3) (x3 + g), min (t4 - s4) (x4 + i)] [min t1 x1 + e, min t2 x2 + f, min t3 x3 + g, min t4 x4 + i] = true
  rw [le4_iff]
  omega
theorem ln_clip {asks : Asks} {s1 s2 s3 s4 : Int} (W : Ways4 asks s1 s2 s3 s4) : ∀ (n : Nat) {x : List Int} {t1 t2 t3 t4 : Int}, Ok4 x → s1 * n ≤ t1 → s2 * n ≤ t2 → s3 * n ≤ t3 → s4 * n ≤ t4 → LN asks n x → LN asks n (clip4 [t1, t2, t3, t4] x)
  | 0, _, _, _, _, _, _, _, _, _, _, _ => True.intro
  | n + 1, _, _, _, _, _, hx, h1, h2, h3, h4, h => fun a ha => nd_clip W (ln_clip W n) ha hx h1 h2 h3 h4 (h a ha)
theorem clip_ok {x : List Int} {t1 t2 t3 t4 : Int} (hx : Ok4 x) (h1 : 0 ≤ t1) (h2 : 0 ≤ t2) (h3 : 0 ≤ t3) (h4 : 0 ≤ t4) : Ok4 (clip4 [t1, t2, t3, t4] x) ∧ le4 (clip4 [t1, t2, t3, t4] x) x = true := by
  obtain ⟨x1, x2, x3, x4, rfl, o1, o2, o3, o4⟩ := hx
  exact ⟨⟨min t1 x1, min t2 x2, min t3 x3, min t4 x4, rfl, by omega, by omega, by omega, by omega⟩, show le4 [min t1 x1, min t2 x2, min t3 x3, min t4 x4] [x1, x2, x3, x4] = true from le4_iff.mpr ⟨by omega, by omega, by omega, by omega⟩⟩
/-- the least ones lie within the bound -/
theorem canon_box {U : List Int → Prop} {M : List (List Int)} (c : Canon M U) {t1 t2 t3 t4 : Int} (h1 : 0 ≤ t1) (h2 : 0 ≤ t2) (h3 : 0 ≤ t3) (h4 : 0 ≤ t4) (cl : ∀ x, Ok4 x → U x → U (clip4 [t1, t2, t3, t4] x)) :
    ∀ x ∈ M, ∃ a b c d : Int, x = [a, b, c, d] ∧ (0 ≤ a ∧ a ≤ t1) ∧ (0 ≤ b ∧ b ≤ t2) ∧ (0 ≤ c ∧ c ≤ t3) ∧ (0 ≤ d ∧ d ≤ t4) := fun x hx => by
  have ox := c.ok x hx
  obtain ⟨ok, l⟩ := clip_ok ox h1 h2 h3 h4
  obtain ⟨y, hy, l2⟩ := (c.up _ ok).mpr (cl x ox ((c.up x ox).mp ⟨x, hx, le4_refl ox⟩))
  have e := c.anti y hy x hx (le4_trans l2 l)
  subst e
  obtain ⟨a, b, cc, d, rfl, o1, o2, o3, o4⟩ := ox
  have q := le4_iff.mp (show le4 [a, b, cc, d] [min t1 a, min t2 b, min t3 cc, min t4 d] = true from l2)
  exact ⟨a, b, cc, d, rfl, by omega, by omega, by omega, by omega⟩
theorem sub_len {α : Type} [BEq α] [LawfulBEq α] : ∀ {l m : List α}, l.Nodup → (∀ x ∈ l, x ∈ m) → l.length ≤ m.length
  | [], _, _, _ => Nat.zero_le _
  | x :: l, m, nd, h => by
    obtain ⟨n1, n2⟩ := List.nodup_cons.mp nd
    have hx := h x List.mem_cons_self
    have := sub_len (m := m.erase x) n2 fun y hy => (List.mem_erase_of_ne fun e => n1 (by rw [← e]; exact hy)).mpr (h y (List.mem_cons_of_mem _ hy))
    rw [List.length_erase_of_mem hx] at this
    have := List.length_pos_of_mem hx
    rw [List.length_cons]
    omega
theorem boxflat_len {α β : Type} {f : α → List β} {q : Nat} (h : ∀ x, (f x).length = q) : ∀ l : List α, (l.flatMap f).length = l.length * q
  | [] => by simp
  | x :: l => by
    rw [List.flatMap_cons, List.length_append, h, boxflat_len h l, List.length_cons, Nat.succ_mul]
    omega
def key2 : List Int → Nat × Nat
  | a :: b :: _ => (a.toNat, b.toNat)
  | _ => (0, 0)
theorem canon_len {U : List Int → Prop} {M : List (List Int)} (c : Canon M U) {t1 t2 t3 : Int} (h1 : 0 ≤ t1) (h2 : 0 ≤ t2) (h3 : 0 ≤ t3) (cl : ∀ x, Ok4 x → U x → U (clip4 [t1, t2, t3, 0] x)) : M.length ≤ (t1.toNat + 1) * (t2.toNat + 1) := by
  have box := canon_box c h1 h2 h3 (Int.le_refl 0) cl
  have nd : (M.map key2).Nodup := by
    have p : M.Pairwise fun x y => key2 x ≠ key2 y := by
      refine List.Pairwise.imp_of_mem (R := fun x y => HT.lexLt x y = true) (fun {x y} hx hy l e => ?_) c.srt
      obtain ⟨a, b, cc, d, rfl, p1, p2, p3, p4⟩ := box x hx
      obtain ⟨a', b', cc', d', rfl, q1, q2, q3, q4⟩ := box y hy
      obtain ⟨e1, e2⟩ := Prod.mk.inj (show (a.toNat, b.toNat) = (a'.toNat, b'.toNat) from e)
      have ea : a = a' := by omega
      have eb : b = b' := by omega
      have ed : d = d' := by omega
      subst ea
      subst eb
      subst ed
      have same : [a, b, cc, d] = [a, b, cc', d] := by
        by_cases z : cc ≤ cc'
        · exact c.anti _ hx _ hy (le4_iff.mpr ⟨Int.le_refl _, Int.le_refl _, z, Int.le_refl _⟩)
        · exact (c.anti _ hy _ hx (le4_iff.mpr ⟨Int.le_refl _, Int.le_refl _, by omega, Int.le_refl _⟩)).symm
      rw [same, lex_irr] at l
      cases l
    exact List.Pairwise.map _ (fun _ _ h => h) p
  have sub := sub_len (m := (List.range (t1.toNat + 1)).flatMap fun a => (List.range (t2.toNat + 1)).map fun b => (a, b)) nd fun k hk => by
    obtain ⟨x, hx, rfl⟩ := List.mem_map.mp hk
    obtain ⟨a, b, cc, d, rfl, p1, p2, p3, p4⟩ := box x hx
    exact List.mem_flatMap.mpr ⟨a.toNat, List.mem_range.mpr (by omega), List.mem_map.mpr ⟨b.toNat, List.mem_range.mpr (by omega), rfl⟩⟩
  rw [boxflat_len (q := t2.toNat + 1) (fun x => by rw [List.length_map, List.length_range]), List.length_map, List.length_range] at sub
  exact sub
theorem few_box {asks : Asks} {s1 s2 s3 t1 t2 t3 : Int} (W : Ways4 asks s1 s2 s3 0) {n m : Nat} (h1 : s1 * n ≤ t1) (h2 : s2 * n ≤ t2) (h3 : s3 * n ≤ t3) (hm : (t1.toNat + 1) * (t2.toNat + 1) ≤ m) (m1 : m * (m + 1) < 4096) (m2 : m * 5 < 4096) : Few asks n m := by
  have nn : ∀ {s : Int} {j : Nat}, 0 ≤ s → 0 ≤ s * (j : Int) := fun h => Int.mul_nonneg h (by omega)
  have up : ∀ {s : Int} {j : Nat}, 0 ≤ s → j < n → s * ((j + 1 : Nat) : Int) ≤ s * n := fun h hj => Int.mul_le_mul_of_nonneg_left (by omega) h
  have up0 : ∀ {s : Int} {j : Nat}, 0 ≤ s → j < n → s * (j : Int) ≤ s * n := fun h hj => Int.mul_le_mul_of_nonneg_left (by omega) h
  have z1 := nn (j := n) W.p1
  have z2 := nn (j := n) W.p2
  have z3 := nn (j := n) W.p3
  have ndc : ∀ j, j < n → ∀ a ∈ asks, ∀ x, Ok4 x → Nd asks j a x → Nd asks j a (clip4 [t1, t2, t3, 0] x) := fun j hj a ha x hx h => by
    have u1 := up W.p1 hj
    have u2 := up W.p2 hj
    have u3 := up W.p3 hj
    exact nd_clip W (ln_clip W j) ha hx (by omega) (by omega) (by omega) (by omega) h
  refine ⟨m1, m2, fun j hj as sub M c => Nat.le_trans (canon_len c (by omega) (by omega) (by omega) fun x hx h => ⟨?_, fun a ha => ndc j hj a (sub a ha) x hx (h.2 a ha)⟩) hm, fun j hj a ha M c => Nat.le_trans (canon_len c (by omega) (by omega) (by omega) (ndc j hj a ha)) hm⟩
  have u1 := up0 W.p1 hj
  have u2 := up0 W.p2 hj
  have u3 := up0 W.p3 hj
  exact ln_clip W j hx (by omega) (by omega) (by omega) (by omega) h.1
/-! ### orders turn nothing (plain Lean) -/
theorem lexLt_code {B : Int} : ∀ {n m : List Int}, n.length = m.length → TS.Bd B n → TS.Bd B m → HT.lexLt n m = true → TS.code B n < TS.code B m
  | [], [], _, _, _, h => by rw [lex_irr] at h; cases h
  | [], _ :: _, hl, _, _, _ => by simp at hl
  | _ :: _, [], hl, _, _, _ => by simp at hl
  | d :: r, e :: q, hl, hn, hm, h => by
    have hl' : r.length = q.length := by simpa using hl
    rw [HT.lexLt_cons] at h
    by_cases c : d = e
    · subst c
      rw [if_pos rfl] at h
      have := lexLt_code hl' hn.tail hm.tail h
      show d * B ^ r.length + TS.code B r < d * B ^ q.length + TS.code B q
      rw [hl']
      omega
    · rw [if_neg c] at h
      exact TS.code_lt hl' hn.tail hm.tail (of_decide_eq_true h)
theorem srt_of_code {B : Int} {d : Nat} {S : List (List Int)} (hd : ∀ x ∈ S, x.length = d ∧ TS.Bd B x) (nd : S.Nodup) (h : S.Pairwise fun x y => TS.code B x ≤ TS.code B y) : S.Pairwise fun x y => HT.lexLt x y = true := by
  refine List.Pairwise.imp_of_mem (R := fun x y => x ≠ y ∧ TS.code B x ≤ TS.code B y) (fun {x y} hx hy z => ?_) (List.pairwise_and_iff.mpr ⟨nd, h⟩)
  obtain ⟨l1, b1⟩ := hd x hx
  obtain ⟨l2, b2⟩ := hd y hy
  rcases lex4_tot (x := x) (y := y) (by rw [l1, l2]) (by
    cases c : HT.lexLt y x with
    | false => rfl
    | true =>
      have := lexLt_code (by rw [l1, l2]) b2 b1 c
      omega) with e | e
  · exact absurd e z.1
  · exact e
theorem nodup_of_srt {S : List (List Int)} (h : S.Pairwise fun x y => HT.lexLt x y = true) : S.Nodup := h.imp fun {x y} l e => by
  rw [e, lex_irr] at l
  cases l
theorem LN.sub {A B : Asks} (h : ∀ b ∈ B, ∃ a ∈ A, ∀ w ∈ a, w ∈ b) : ∀ {n : Nat} {x : List Int}, LN A n x → LN B n x
  | 0, _, _ => True.intro
  | _ + 1, _, z => fun b hb => by
    obtain ⟨a, ha, s⟩ := h b hb
    obtain ⟨w, hw, o, l⟩ := z a ha
    exact ⟨w, s w hw, o, LN.sub h l⟩
/-- in another order -/
def pm (o : List Nat) (x : List Int) : List Int := o.map fun k => x.getD k 0
theorem len4 {x : List Int} (h : x.length = 4) : ∃ a b c d : Int, x = [a, b, c, d] := by
  match x, h with
  | [a, b, c, d], _ => exact ⟨a, b, c, d, rfl⟩
theorem add4_pm (o : List Nat) {x w : List Int} (hx : x.length = 4) (hw : w.length = 4) : add4 (pm o x) (pm o w) = pm o (add4 x w) := by
  obtain ⟨a, b, c, d, rfl⟩ := len4 hx
  obtain ⟨e, f, g, h, rfl⟩ := len4 hw
  unfold add4 pm
  rw [List.zipWith_map_left, List.zipWith_map_right]
  induction o with
  | nil => rfl
  | cons k o ih =>
    rw [List.zipWith_cons_cons, List.map_cons, ih]
    congr 1
    match k with
    | 0 => rfl
    | 1 => rfl
    | 2 => rfl
    | 3 => rfl
    | k + 4 => rfl
structure Ord4 (o : List Nat) : Prop where
  perm : o.Perm (List.range 4)
theorem Ord4.four {o : List Nat} (h : Ord4 o) : ∃ i j k l : Nat, o = [i, j, k, l] ∧ (∀ m, m < 4 ↔ m = i ∨ m = j ∨ m = k ∨ m = l) ∧ i ≠ j ∧ i ≠ k ∧ i ≠ l ∧ j ≠ k ∧ j ≠ l ∧ k ≠ l := by
  have hl := h.perm.length_eq
  have nd := h.perm.nodup_iff.mpr List.nodup_range
  have mem : ∀ m, m < 4 ↔ m ∈ o := fun m => by rw [h.perm.mem_iff, List.mem_range]
  match o, hl, nd, mem with
  | [i, j, k, l], _, nd, mem =>
    refine ⟨i, j, k, l, rfl, fun m => ?_, ?_⟩
    · rw [mem m]
      simp only [List.mem_cons, List.not_mem_nil, or_false]
    · simp only [List.nodup_cons, List.mem_cons, List.not_mem_nil, or_false, not_or] at nd
      exact ⟨nd.1.1, nd.1.2.1, nd.1.2.2, nd.2.1.1, nd.2.1.2, nd.2.2.1⟩
theorem all4 {p : Nat → Prop} {o : List Nat} (h : Ord4 o) {i j k l : Nat} (e : o = [i, j, k, l]) : (p i ∧ p j ∧ p k ∧ p l) ↔ (p 0 ∧ p 1 ∧ p 2 ∧ p 3) := by
  have mem : ∀ m, m ∈ o ↔ m ∈ List.range 4 := fun m => h.perm.mem_iff
  subst e
  constructor
  · rintro ⟨p1, p2, p3, p4⟩
    have all : ∀ m, m ∈ List.range 4 → p m := fun m hm => by
      have := (mem m).mpr hm
      simp only [List.mem_cons, List.not_mem_nil, or_false] at this
      rcases this with rfl | rfl | rfl | rfl
      · exact p1
      · exact p2
      · exact p3
      · exact p4
    exact ⟨all 0 (by decide), all 1 (by decide), all 2 (by decide), all 3 (by decide)⟩
  · rintro ⟨p1, p2, p3, p4⟩
    have all : ∀ m, m ∈ [i, j, k, l] → p m := fun m hm => by
      have := List.mem_range.mp ((mem m).mp hm)
      have : m = 0 ∨ m = 1 ∨ m = 2 ∨ m = 3 := by omega
      rcases this with rfl | rfl | rfl | rfl
      · exact p1
      · exact p2
      · exact p3
      · exact p4
    exact ⟨all i (by simp), all j (by simp), all k (by simp), all l (by simp)⟩
theorem Ord4.ok {o : List Nat} (h : Ord4 o) {x : List Int} (hx : x.length = 4) : Ok4 (pm o x) ↔ Ok4 x := by
  obtain ⟨i, j, k, l, e, _⟩ := h.four
  have q := all4 (p := fun m => 0 ≤ x.getD m 0) h e
  obtain ⟨a, b, c, d, rfl⟩ := len4 hx
  subst e
  constructor
  · rintro ⟨y1, y2, y3, y4, z, o1, o2, o3, o4⟩
    have z' : [([a, b, c, d] : List Int).getD i 0, ([a, b, c, d] : List Int).getD j 0, ([a, b, c, d] : List Int).getD k 0, ([a, b, c, d] : List Int).getD l 0] = [y1, y2, y3, y4] := z
    obtain ⟨q1, z'⟩ := List.cons.inj z'
    obtain ⟨q2, z'⟩ := List.cons.inj z'
    obtain ⟨q3, z'⟩ := List.cons.inj z'
    obtain ⟨q4, _⟩ := List.cons.inj z'
    have r := q.mp ⟨by rw [q1]; exact o1, by rw [q2]; exact o2, by rw [q3]; exact o3, by rw [q4]; exact o4⟩
    exact ⟨a, b, c, d, rfl, r.1, r.2.1, r.2.2.1, r.2.2.2⟩
  · rintro ⟨y1, y2, y3, y4, z, o1, o2, o3, o4⟩
    obtain ⟨q1, z'⟩ := List.cons.inj z
    obtain ⟨q2, z'⟩ := List.cons.inj z'
    obtain ⟨q3, z'⟩ := List.cons.inj z'
    obtain ⟨q4, _⟩ := List.cons.inj z'
    subst q1
    subst q2
    subst q3
    subst q4
    have r := q.mpr ⟨o1, o2, o3, o4⟩
    exact ⟨_, _, _, _, rfl, r.1, r.2.1, r.2.2.1, r.2.2.2⟩
theorem Ord4.le {o : List Nat} (h : Ord4 o) {x y : List Int} (hx : x.length = 4) (hy : y.length = 4) : le4 (pm o x) (pm o y) = true ↔ le4 x y = true := by
  obtain ⟨i, j, k, l, e, _⟩ := h.four
  have q := all4 (p := fun m => x.getD m 0 ≤ y.getD m 0) h e
  obtain ⟨a, b, c, d, rfl⟩ := len4 hx
  obtain ⟨a', b', c', d', rfl⟩ := len4 hy
  subst e
  rw [le4_iff]
  refine Iff.trans ?_ q
  exact le4_iff
theorem pm_len (o : List Nat) (x : List Int) : (pm o x).length = o.length := by
  unfold pm
  rw [List.length_map]
theorem Ord4.len {o : List Nat} (h : Ord4 o) : o.length = 4 := by rw [h.perm.length_eq, List.length_range]
theorem Ord4.onto {o : List Nat} (h : Ord4 o) {x : List Int} (hx : x.length = 4) : ∃ y : List Int, y.length = 4 ∧ pm o y = x := by
  obtain ⟨i, j, k, l, e, m, n1, n2, n3, n4, n5, n6⟩ := h.four
  obtain ⟨a, b, c, d, rfl⟩ := len4 hx
  subst e
  have hi := (m i).mpr (.inl rfl)
  have hj := (m j).mpr (.inr (.inl rfl))
  have hk := (m k).mpr (.inr (.inr (.inl rfl)))
  have hl := (m l).mpr (.inr (.inr (.inr rfl)))
  let f : Nat → Int := fun q => if q = i then a else if q = j then b else if q = k then c else d
  have g : ∀ q, q < 4 → ([f 0, f 1, f 2, f 3] : List Int).getD q 0 = f q := fun q hq => by
    have : q = 0 ∨ q = 1 ∨ q = 2 ∨ q = 3 := by omega
    rcases this with rfl | rfl | rfl | rfl <;> rfl
  refine ⟨[f 0, f 1, f 2, f 3], rfl, ?_⟩
  show [([f 0, f 1, f 2, f 3] : List Int).getD i 0, ([f 0, f 1, f 2, f 3] : List Int).getD j 0, ([f 0, f 1, f 2, f 3] : List Int).getD k 0, ([f 0, f 1, f 2, f 3] : List Int).getD l 0] = [a, b, c, d]
  rw [g i hi, g j hj, g k hk, g l hl]
  have e1 : f i = a := if_pos rfl
  have e2 : f j = b := by show (if j = i then a else if j = j then b else _) = b; rw [if_neg (fun z => n1 z.symm), if_pos rfl]
  have e3 : f k = c := by show (if k = i then a else if k = j then b else if k = k then c else d) = c; rw [if_neg (fun z => n2 z.symm), if_neg (fun z => n4 z.symm), if_pos rfl]
  have e4 : f l = d := by show (if l = i then a else if l = j then b else if l = k then c else d) = d; rw [if_neg (fun z => n3 z.symm), if_neg (fun z => n5 z.symm), if_neg (fun z => n6 z.symm)]
  rw [e1, e2, e3, e4]
theorem ln_pm {o : List Nat} (h : Ord4 o) {A : Asks} (hA : ∀ a ∈ A, ∀ w ∈ a, w.length = 4) : ∀ (n : Nat) {x : List Int}, x.length = 4 → (LN (A.map fun a => a.map (pm o)) n (pm o x) ↔ LN A n x)
  | 0, _, _ => Iff.rfl
  | n + 1, x, hx => by
    have al : ∀ {w : List Int}, w.length = 4 → (add4 x w).length = 4 := fun {w} hw => by
      unfold add4
      rw [List.length_zipWith, hx, hw]
      rfl
    constructor
    · intro z a ha
      obtain ⟨w', hw', ok, l⟩ := z _ (List.mem_map.mpr ⟨a, ha, rfl⟩)
      obtain ⟨w, hw, rfl⟩ := List.mem_map.mp hw'
      have w4 := hA a ha w hw
      rw [add4_pm o hx w4] at ok l
      exact ⟨w, hw, (h.ok (al w4)).mp ok, (ln_pm h hA n (al w4)).mp l⟩
    · intro z a' ha'
      obtain ⟨a, ha, rfl⟩ := List.mem_map.mp ha'
      obtain ⟨w, hw, ok, l⟩ := z a ha
      have w4 := hA a ha w hw
      refine ⟨pm o w, List.mem_map.mpr ⟨w, hw, rfl⟩, ?_⟩
      rw [add4_pm o hx w4]
      exact ⟨(h.ok (al w4)).mpr ok, (ln_pm h hA n (al w4)).mpr l⟩
theorem ok_len {x : List Int} (h : Ok4 x) : x.length = 4 := by
  obtain ⟨a, b, c, d, rfl, _⟩ := h
  rfl
theorem canon_pm {o : List Nat} (h : Ord4 o) {A : Asks} (hA : ∀ a ∈ A, ∀ w ∈ a, w.length = 4) {n : Nat} {M S : List (List Int)} (c : Canon M (LN A n)) (hS : S.Perm (M.map (pm o))) (srt : S.Pairwise fun x y => HT.lexLt x y = true) :
    Canon S (LN (A.map fun a => a.map (pm o)) n) := by
  have mem : ∀ {x}, x ∈ S → ∃ y ∈ M, pm o y = x := fun {x} hx => List.mem_map.mp (hS.mem_iff.mp hx)
  refine ⟨fun x hx => ?_, srt, fun x hx y hy l => ?_, fun x hx => ?_⟩
  · obtain ⟨y, hy, rfl⟩ := mem hx
    exact (h.ok (ok_len (c.ok y hy))).mpr (c.ok y hy)
  · obtain ⟨x', hx', rfl⟩ := mem hx
    obtain ⟨y', hy', rfl⟩ := mem hy
    rw [c.anti x' hx' y' hy' ((h.le (ok_len (c.ok x' hx')) (ok_len (c.ok y' hy'))).mp l)]
  · obtain ⟨y, y4, rfl⟩ := h.onto (ok_len hx)
    have oy := (h.ok y4).mp hx
    rw [ln_pm h hA n y4, ← c.up y oy]
    constructor
    · rintro ⟨z, hz, l⟩
      obtain ⟨z', hz', rfl⟩ := mem hz
      exact ⟨z', hz', (h.le (ok_len (c.ok z' hz')) y4).mp l⟩
    · rintro ⟨z, hz, l⟩
      exact ⟨pm o z, hS.mem_iff.mpr (List.mem_map.mpr ⟨z, hz, rfl⟩), (h.le (ok_len (c.ok z hz)) y4).mpr l⟩
/-! ### t + u and t[a:b] of tuples, told by what stands behind -/
theorem same_new {H : Hp} {p : Addr} {o : HO} (h : H p = none) : Same H (upd H p o) := fun b x e => by
  rw [upd_ne (ne_of_none e h)]
  exact e
def rCatN (K : PySem.W.Frag) : R2 := fun x y H Q => ∃ a b xs ys, x = .ref a ∧ y = .ref b ∧ SqT K H a xs ∧ SqT K H b ys ∧ xs.length + ys.length ≤ sizeLine ∧ ∀ c H', Same H H' → SqT K H' c (xs ++ ys) → Q (.ref c) H'
theorem op_catN {X : Cx} : OpR X (binaryOp .Add) (rCatN X.K) := by
  intro pins s σ H x y v u Q I rx ry h
  obtain ⟨a, b, xs, ys, rfl, rfl, ha, hb, hz, q⟩ := h
  refine L2.op_catA pins s σ H _ _ v u Q I rx ry ⟨a, b, xs, ys, rfl, rfl, ha, hb, hz, fun e => ?_, fun _ e => ?_, fun _ _ p np => ?_⟩
  · subst e
    exact q b H (Same.refl H) hb
  · subst e
    exact q a H (Same.refl H) (by rw [List.append_nil]; exact ha)
  · exact q p _ (same_new np) (SqT.of upd_same)
def rSlN (K : PySem.W.Frag) : V → Option Int → Option Int → Hp → VK → Prop := fun x lo hi H Q => ∃ a xs, x = .ref a ∧ SqT K H a xs ∧ ∀ c H', Same H H' → SqT K H' c (cutV xs lo hi) → Q (.ref c) H'
theorem sl_tupN {X : Cx} : SlR X (rSlN X.K) := by
  intro pins s σ H x v vl vu lo hi sl Q I rx hs pl pu h
  obtain ⟨a, xs, rfl, hx, q⟩ := h
  refine My.sl_tupA pins s σ H _ v vl vu lo hi sl Q I rx hs pl pu ⟨a, xs, rfl, hx, fun c => q a H (Same.refl H) ?_, fun c p np => q p _ (same_new np) (SqT.of upd_same)⟩
  unfold cutV
  rw [c.1, c.2, List.drop_zero, Nat.sub_zero, List.take_length]
  exact hx
theorem cut_from {l : List Int} {k : Nat} (h : k ≤ l.length) : cutV (l.map V.int) (some (k : Int)) none = (l.drop k).map V.int := by
  unfold cutV
  rw [show HT.sIx (l.map V.int).length 0 (some (k : Int)) = min k (l.map V.int).length from HT.sIx_nat _ _ k, HT.sIx_none, List.length_map, Nat.min_eq_left h, ← List.map_drop, ← List.map_take, List.take_of_length_le (by rw [List.length_drop]; omega)]
theorem cut_to {l : List Int} {k : Nat} (h : k ≤ l.length) : cutV (l.map V.int) none (some (k : Int)) = (l.take k).map V.int := by
  unfold cutV
  rw [show HT.sIx (l.map V.int).length (l.map V.int).length (some (k : Int)) = min k (l.map V.int).length from HT.sIx_nat _ _ k, HT.sIx_none, List.map_take, List.drop_zero, Nat.sub_zero, Nat.min_eq_left (by rw [List.length_map]; exact h)]
end My
namespace My
open PySem PySem.Spec PyProof.Rows L2
open C8 (pss_cut)
open RZ (pi_zipA for_zipL for_zipT)
def topS (i : Nat) : Stmt := PySem.Challenge.pw_everstock_k46_whole_lasting_in_both.main.body.getD i (.Pass ⟨0, 0, 0, 0⟩)
/-! ### the pen: what the drawing defs keep -/
def sOpen : Stmt := topS 30
def sSpread : Stmt := topS 31
def sTake : Stmt := topS 32
/-- all that was there but the one at p is as it was -/
def Kp (p : Addr) (H H' : Hp) : Prop := ∀ b o, H b = some o → b ≠ p → H' b = some o
theorem Kp.refl (p : Addr) (H : Hp) : Kp p H H := fun _ _ e _ => e
theorem Kp.trans {p : Addr} {H H1 H2 : Hp} (a : Kp p H H1) (b : Kp p H1 H2) : Kp p H H2 := fun c o e n => b c o (a c o e n) n
theorem Kp.same {p : Addr} {H H1 H2 : Hp} (a : Kp p H H1) (b : Same H1 H2) : Kp p H H2 := fun c o e n => b c o (a c o e n)
theorem _root_.L2.Same.kp {p : Addr} {H H1 : Hp} (a : Same H H1) : Kp p H H1 := fun c o e _ => a c o e
theorem same_upd {H : Hp} {p : Addr} {o : HO} (h : H p = none) : Same H (upd H p o) := fun b x e => by
  rw [upd_ne (ne_of_none e h)]
  exact e
theorem kp_upd (p : Addr) (H : Hp) (o : HO) : Kp p H (upd H p o) := fun b x e n => by
  rw [upd_ne n]
  exact e
/-- the pen at p: its cells' list at c, at most n cells taken -/
structure Pen (H : Hp) (p c : Addr) (ns : List Int) (n : Nat) : Prop where
  pe : ∃ at_ left : Int, H p = some (.lst [.ref c, .int at_, .int left]) ∧ 0 ≤ at_ ∧ at_ ≤ (n : Int) ∧ 0 ≤ left
  ce : H c = some (.lst (ns.map V.int))
theorem Pen.ne {H : Hp} {p c : Addr} {ns : List Int} {n : Nat} (h : Pen H p c ns n) : c ≠ p := by
  obtain ⟨⟨a, l, h1, _⟩, h2⟩ := h
  intro e
  subst e
  rw [h1] at h2
  cases ns with
  | nil => cases h2
  | cons x r => cases h2
theorem Pen.same {H H' : Hp} {p c : Addr} {ns : List Int} {n : Nat} (h : Pen H p c ns n) (s : Same H H') : Pen H' p c ns n := by
  obtain ⟨⟨a, l, h1, h3⟩, h2⟩ := h
  exact ⟨⟨a, l, s _ _ h1, h3⟩, s _ _ h2⟩
theorem Pen.mono {H : Hp} {p c : Addr} {ns : List Int} {n m : Nat} (h : Pen H p c ns n) (hn : n ≤ m) : Pen H p c ns m := by
  obtain ⟨⟨a, l, h1, h3, h4, h5⟩, h2⟩ := h
  exact ⟨⟨a, l, h1, h3, by omega, h5⟩, h2⟩
/-- at most so many cells are taken in all -/
def penMost : Nat := 1000000
def spOpen (K : PySem.W.Frag) : Sp := fun vs H Q _ => ∃ (a : Addr) (ns : List Int), vs = [.ref a] ∧ SqL K H a (ns.map V.int) ∧ ns.length ≤ 63 ∧
  ∀ H' p c ms, Same H H' → Pen H' p c ms 0 → H p = none → Q (.ref p) H'
def spSpread : Sp := fun vs H Q _ => ∃ (cell at_ : Int), vs = [.int cell, .int at_] ∧ 0 ≤ at_ ∧ at_ ≤ 1000000 ∧ ∀ r H', 0 ≤ r → Same H H' → Q (.int r) H'
def spTake : Sp := fun vs H Q _ => ∃ (p c : Addr) (ns : List Int) (n : Nat) (m : Int), vs = [.ref p, .int m] ∧ Pen H p c ns n ∧ n < penMost ∧ 1 ≤ m ∧ m < 1000000000 ∧
  ∀ r H', 0 ≤ r → r < m → Kp p H H' → Pen H' p c ns (n + 1) → Q (.int r) H'
theorem at_ints {ns : List Int} {k : Int} (h0 : 0 ≤ k) (h1 : k < ns.length) : ∃ z, atI (ns.map V.int) k = some (.int z) := by
  obtain ⟨j, rfl⟩ : ∃ j : Nat, k = (j : Int) := ⟨k.toNat, by omega⟩
  have hj : j < ns.length := by omega
  exact ⟨ns[j], atI_nat (by rw [List.getElem?_map, List.getElem?_eq_getElem hj] <;> rfl)⟩
theorem ixN_of {n : Nat} {k : Int} (h0 : 0 ≤ k) (h1 : k < n) : ixN n k = some k.toNat := by
  unfold ixN
  rw [if_pos h0, if_pos h1]
theorem ints_get {ns : List Int} {i : Nat} {v : V} (h : (ns.map V.int)[i]? = some v) : ∃ z, ns[i]? = some z ∧ v = .int z := by
  rw [List.getElem?_map] at h
  cases e : ns[i]? with
  | none =>
    rw [e] at h
    cases h
  | some z =>
    rw [e] at h
    exact ⟨z, rfl, (Option.some.inj h).symm⟩
theorem cut_ints (ns : List Int) (lo hi : Option Int) : ∃ ms : List Int, cutV (ns.map V.int) lo hi = ms.map V.int ∧ ms.length ≤ ns.length := by
  unfold cutV
  refine ⟨(ns.drop (HT.sIx (ns.map V.int).length 0 lo)).take (HT.sIx (ns.map V.int).length (ns.map V.int).length hi - HT.sIx (ns.map V.int).length 0 lo), ?_, ?_⟩
  · rw [List.map_take, List.map_drop]
  · rw [List.length_take, List.length_drop]
    omega
theorem cut12 (ns : List Int) : cutV (ns.map V.int) none (some 12) = (ns.take 12).map V.int := by
  unfold cutV
  rw [show HT.sIx (ns.map V.int).length (ns.map V.int).length (some 12) = min 12 (ns.map V.int).length from HT.sIx_nat _ _ 12, HT.sIx_none, List.map_take, List.drop_zero, Nat.sub_zero]
  by_cases h : 12 ≤ (ns.map V.int).length
  · rw [Nat.min_eq_left h]
  · rw [Nat.min_eq_right (by omega), List.take_length, List.take_of_length_le (by omega)]
theorem cut1263 (ns : List Int) (h : ns.length ≤ 12) : cutV (ns.map V.int) (some 12) (some 63) = [] := by
  unfold cutV
  rw [show HT.sIx (ns.map V.int).length 0 (some 12) = min 12 (ns.map V.int).length from HT.sIx_nat _ _ 12, Nat.min_eq_right (by rw [List.length_map]; exact h), List.drop_length, List.take_nil]
/-- the divisors of the spreading -/
def prL : List V := [V.int 2147483629, V.int 2147483587, V.int 2147483579, V.int 2147483563, V.int 2147483549, V.int 2147483543, V.int 2147483497, V.int 2147483489] ++
  [V.int 2147483477, V.int 2147483423, V.int 2147483399, V.int 2147483353, V.int 2147483323]
theorem pr_at : ∀ j : Nat, j < 13 → ∃ q : Int, prL[j]? = some (.int q) ∧ 0 < q ∧ q < 2147483648
  | 0, _ => ⟨_, rfl, by decide, by decide⟩ | 1, _ => ⟨_, rfl, by decide, by decide⟩ | 2, _ => ⟨_, rfl, by decide, by decide⟩ | 3, _ => ⟨_, rfl, by decide, by decide⟩
  | 4, _ => ⟨_, rfl, by decide, by decide⟩ | 5, _ => ⟨_, rfl, by decide, by decide⟩ | 6, _ => ⟨_, rfl, by decide, by decide⟩ | 7, _ => ⟨_, rfl, by decide, by decide⟩
  | 8, _ => ⟨_, rfl, by decide, by decide⟩ | 9, _ => ⟨_, rfl, by decide, by decide⟩ | 10, _ => ⟨_, rfl, by decide, by decide⟩ | 11, _ => ⟨_, rfl, by decide, by decide⟩
  | 12, _ => ⟨_, rfl, by decide, by decide⟩ | n + 13, h => absurd h (by omega)
theorem pr_mod (k : Int) : ∃ q : Int, atI prL (k % 13) = some (.int q) ∧ 0 < q ∧ q < 2147483648 := by
  have h0 := Int.emod_nonneg k (by decide : (13 : Int) ≠ 0)
  have h1 := Int.emod_lt_of_pos k (by decide : (0 : Int) < 13)
  obtain ⟨q, e, a, b⟩ := pr_at (k % 13).toNat (by omega)
  have e2 : k % 13 = ((k % 13).toNat : Int) := by omega
  rw [e2]
  exact ⟨q, atI_nat e, a, b⟩
theorem abs64 {x : Int} (h0 : 0 ≤ x) (h : x < 18446744073709551616) : x.natAbs < 2 ^ 64 := by
  have : (2 : Nat) ^ 64 = 18446744073709551616 := by decide
  omega
theorem mul_le_mul' {a b c d : Int} (ha : 0 ≤ a) (hb : a ≤ c) (hc : 0 ≤ b) (hd : b ≤ d) : a * b ≤ c * d :=
  Int.le_trans (Int.mul_le_mul_of_nonneg_right hb hc) (Int.mul_le_mul_of_nonneg_left hd (Int.le_trans ha hb))
section
variable {P : Program} {w : World} {K : PySem.W.Frag} {mg : Str → Option Value} {base : Heap}
theorem scSpread : FnScope ["cell", "at", "primes", "one", "two", "three"] ["cell", "at"] (defScope sSpread) := ⟨rfl, rfl, rfl, by decide +kernel, rfl, by decide +kernel, by decide +kernel⟩

theorem ok_spread {f : Addr} {fd : FuncData} {k : Nat} (F : Fun K "_law_spread" "_law_spread" sSpread f fd) : FnOk P w K mg base CX0 (k + 1) f fd ["cell", "at"] spSpread := by
  refine F.ok scSpread (fun vs H Q E h => ?_) (fun cdv A outer s H vs Q E hr h => ?_)
  · obtain ⟨cell, at_, rfl, _⟩ := h
    rfl
  · obtain ⟨cell, a, rfl, ha0, ha1, q⟩ := h
    refine ⟨_, pss_cons (ps_if (pt_cmpR op_ge (pv 0) (pe_op op_pow pe_int pe_int) (nomark _)) (pss_one (ps_ret (pv 0))) pss_nil)
      (pss_cons (ps_set (i := 2) scSpread.nd rfl (.inl rfl) (pe_lst (pa_cons pe_int (pa_cons pe_int (pa_cons pe_int (pa_cons pe_int (pa_cons pe_int (pa_cons pe_int (pa_cons pe_int (pa_cons pe_int pa_nil))))))))))
      (pss_cons (ps_set (i := 2) scSpread.nd rfl (.inl rfl) (pe_op op_cat (pv 2) (pe_lst (pa_cons pe_int (pa_cons pe_int (pa_cons pe_int (pa_cons pe_int (pa_cons pe_int pa_nil))))))))
      (pss_cons (ps_set (i := 3) scSpread.nd rfl (.inl rfl) (pe_op op_add (pe_op op_add (pe_op op_mul (pe_op op_mod (pv 0) pe_int) (pe_op op_add (pe_op op_mul pe_int (pv 1)) pe_int)) (pe_op op_mul (pv 1) pe_int)) pe_int))
      (pss_cons (ps_set (i := 3) scSpread.nd rfl (.inl rfl) (pe_op op_mod (pe_op op_pow (pv 3) pe_int) (pe_ix ix_list (pv 2) (pe_op op_mod (pv 1) pe_int) (fun _ _ => rfl))))
      (pss_cons (ps_set (i := 4) scSpread.nd rfl (.inl rfl) (pe_op op_mod (pe_op op_pow (pe_op op_add (pe_op op_add (pe_op op_mul (pv 3) (pe_op op_add (pv 1) pe_int)) (pe_op op_mod (pv 0) pe_int)) pe_int) pe_int) (pe_ix ix_list (pv 2) (pe_op op_mod (pe_op op_add (pv 1) pe_int) pe_int) (fun _ _ => rfl))))
      (pss_cons (ps_set (i := 5) scSpread.nd rfl (.inl rfl) (pe_op op_mod (pe_op op_pow (pe_op op_add (pe_op op_add (pv 4) (pe_op op_mod (pv 3) pe_int)) (pv 1)) pe_int) (pe_ix ix_list (pv 2) (pe_op op_mod (pe_op op_add (pv 1) pe_int) pe_int) (fun _ _ => rfl))))
      (pss_one (ps_ret (pe_op op_add (pe_op op_mul (pe_op op_add (pe_op op_mul (pv 3) pe_int) (pv 4)) pe_int) (pv 5)))))))))), ?_⟩
    -- cell >= 10 ** 18
    refine ⟨_, rfl, 10, 18, rfl, rfl, ⟨by decide, by decide, by decide⟩, _, _, rfl, rfl, _, rfl, ?_⟩
    refine ite2 (fun hc => ?_) (fun _ => ?_)
    · refine ⟨_, rfl, q _ _ ?_ (Same.refl H)⟩
      have hc' := of_decide_eq_true hc
      exact Int.le_trans (by decide) hc'
    · -- primes
      refine ⟨by show 8 ≤ sizeLine; decide, fun p1 n1 => ?_⟩
      refine ⟨_, rfl, by show 5 ≤ sizeLine; decide, fun p2 n2 => ?_⟩
      have n12 : p1 ≠ p2 := ne_of_none (upd_same (H := H)) n2
      refine ⟨p1, p2, _, _, rfl, rfl, (by rw [upd_ne n12]; exact upd_same), upd_same, by show 13 ≤ sizeLine; decide, fun p3 n3 => ?_⟩
      have s1 := same_upd (o := .lst [V.int 2147483629, V.int 2147483587, V.int 2147483579, V.int 2147483563, V.int 2147483549, V.int 2147483543, V.int 2147483497, V.int 2147483489]) n1
      have s2 := same_upd (o := .lst [V.int 2147483477, V.int 2147483423, V.int 2147483399, V.int 2147483353, V.int 2147483323]) n2
      have s3 := (s1.trans s2).trans (same_upd (o := .lst prL) n3)
      have hL : SqL K (upd (upd (upd H p1 (.lst [V.int 2147483629, V.int 2147483587, V.int 2147483579, V.int 2147483563, V.int 2147483549, V.int 2147483543, V.int 2147483497, V.int 2147483489])) p2 (.lst [V.int 2147483477, V.int 2147483423, V.int 2147483399, V.int 2147483353, V.int 2147483323])) p3 (.lst prL)) p3 prL := SqL.of upd_same
      -- one
      have c0 := Int.emod_nonneg cell (by decide : (1000000007 : Int) ≠ 0)
      have c1 := Int.emod_lt_of_pos cell (by decide : (0 : Int) < 1000000007)
      refine ⟨_, rfl, cell, 1000000007, rfl, rfl, (by show (0 : Int) < 1000000007; decide), _, rfl, 2, a, rfl, rfl, .inl ⟨by decide, by decide⟩, _, _, rfl, rfl, _, _, rfl, rfl, .inr ⟨by omega, by omega⟩, _, rfl, _, _, rfl, rfl, .inr ⟨by decide, by decide⟩, _, _, rfl, rfl, _, _, rfl, rfl, ?_⟩
      have b0 : 0 ≤ cell % 1000000007 * (2 * a + 69069) := Int.mul_nonneg c0 (by omega)
      have b1 : cell % 1000000007 * (2 * a + 69069) ≤ 1000000007 * 2069069 := mul_le_mul' c0 (by omega) (by omega) (by omega)
      dsimp only
      generalize e1 : cell % 1000000007 * (2 * a + 69069) + a * 40503 + 977 = one
      have o0 : 0 ≤ one := by omega
      have o1 : one < 18446744073709551616 := by omega
      clear e1 b0 b1
      -- one ** 3 % primes[at % 13]
      obtain ⟨q1, i1, q10, q11⟩ := pr_mod a
      refine ⟨_, rfl, one, 3, rfl, rfl, ⟨by decide, by decide, abs64 o0 o1⟩, _, rfl, _, rfl, a, 13, rfl, rfl, (by show (0 : Int) < 13; decide), p3, prL, _, _, rfl, rfl, hL, i1, _, q1, rfl, rfl, q10, ?_⟩
      have w0 := Int.emod_nonneg (one ^ (3 : Int).toNat) (Int.ne_of_gt q10)
      have w1 := Int.emod_lt_of_pos (one ^ (3 : Int).toNat) q10
      dsimp only
      generalize e2 : one ^ (3 : Int).toNat % q1 = on2 at w0 w1 ⊢
      clear e2
      -- two
      obtain ⟨q2, i2, q20, q21⟩ := pr_mod (a + 5)
      have d0 := Int.emod_nonneg cell (by decide : (65537 : Int) ≠ 0)
      have d1 := Int.emod_lt_of_pos cell (by decide : (0 : Int) < 65537)
      have f0 : 0 ≤ on2 * (a + 3) := Int.mul_nonneg w0 (by omega)
      have f1 : on2 * (a + 3) ≤ 2147483648 * 1000003 := mul_le_mul' w0 (by omega) (by omega) (by omega)
      refine ⟨_, rfl, _, rfl, a, 3, rfl, rfl, on2, _, rfl, rfl, .inl ⟨by omega, by omega⟩, _, rfl, cell, 65537, rfl, rfl, (by show (0 : Int) < 65537; decide), _, _, rfl, rfl, _, _, rfl, rfl, _, 5, rfl, rfl, ⟨by decide, by decide, abs64 (by omega) (by omega)⟩, _, rfl, _, rfl, a, 5, rfl, rfl, _, 13, rfl, rfl, (by show (0 : Int) < 13; decide), p3, prL, _, _, rfl, rfl, hL, i2, _, q2, rfl, rfl, q20, ?_⟩
      have x0 := Int.emod_nonneg ((on2 * (a + 3) + cell % 65537 + 5) ^ (5 : Int).toNat) (Int.ne_of_gt q20)
      have x1 := Int.emod_lt_of_pos ((on2 * (a + 3) + cell % 65537 + 5) ^ (5 : Int).toNat) q20
      dsimp only
      generalize e3 : (on2 * (a + 3) + cell % 65537 + 5) ^ (5 : Int).toNat % q2 = two at x0 x1 ⊢
      clear e3
      -- three
      obtain ⟨q3, i3, q30, q31⟩ := pr_mod (a + 7)
      have g0 := Int.emod_nonneg on2 (by decide : (1009 : Int) ≠ 0)
      have g1 := Int.emod_lt_of_pos on2 (by decide : (0 : Int) < 1009)
      refine ⟨_, rfl, _, rfl, on2, 1009, rfl, rfl, (by show (0 : Int) < 1009; decide), _, _, rfl, rfl, _, rfl, _, _, rfl, rfl, _, 3, rfl, rfl, ⟨by decide, by decide, abs64 (by omega) (by omega)⟩, _, rfl, _, rfl, a, 7, rfl, rfl, _, 13, rfl, rfl, (by show (0 : Int) < 13; decide), p3, prL, _, _, rfl, rfl, hL, i3, _, q3, rfl, rfl, q30, ?_⟩
      have y0 := Int.emod_nonneg ((two + on2 % 1009 + a) ^ (3 : Int).toNat) (Int.ne_of_gt q30)
      dsimp only
      generalize e4 : (two + on2 % 1009 + a) ^ (3 : Int).toNat % q3 = three at y0 ⊢
      clear e4
      refine ⟨_, rfl, on2, 2147483647, rfl, rfl, .inr ⟨by decide, by decide⟩, _, rfl, _, _, rfl, rfl, _, 2147483647, rfl, rfl, .inr ⟨by decide, by decide⟩, _, rfl, _, _, rfl, rfl, ?_⟩
      refine q _ _ ?_ s3
      have z1 : 0 ≤ on2 * 2147483647 := Int.mul_nonneg w0 (by decide)
      have z2 : 0 ≤ (on2 * 2147483647 + two) * 2147483647 := Int.mul_nonneg (by omega) (by decide)
      omega
theorem scOpen : FnScope ["script", "cells", "k", "cell"] ["script"] (defScope sOpen) := ⟨rfl, rfl, rfl, by decide +kernel, rfl, by decide +kernel, by decide +kernel⟩
theorem ok_open {f : Addr} {fd : FuncData} {k : Nat} (F : Fun K "_law_open" "_law_open" sOpen f fd) (ml : mg "list" = none) (me : mg "enumerate" = none) : FnOk P w K mg base CX0 (k + 1) f fd ["script"] (spOpen K) := by
  refine F.ok scOpen (fun vs H Q E h => ?_) (fun cdv A outer s H vs Q E hr h => ?_)
  · obtain ⟨a, ns, rfl, _⟩ := h
    rfl
  · obtain ⟨a, ns, rfl, hS, hlen, q⟩ := h
    refine ⟨_, pss_cons (ps_set (i := 1) scOpen.nd rfl (.inl rfl) (pe_callTy call_list_of (by rfl) ml (by decide +kernel) (pa_cons (pe_slice sl_list (pv 0) po_none (po_some pe_int)) pa_nil)))
      (pss_cons (ps_for PassesOwn.never rfl (pi_enum (by rfl) me (pa_cons (pe_slice sl_list (pv 0) (po_some pe_int) (po_some pe_int)) pa_nil))
          (pg_tup rfl (pgs_cons (pg_name (i := 2) scOpen.nd rfl (.inl rfl)) (pgs_cons (pg_name (i := 3) scOpen.nd rfl (.inl rfl)) pgs_nil)))
          (pss_one (ps_asg (pe_op op_add (pe_ix ix_list (pv 1) (pe_op op_mod (pv 2) pe_int) (fun _ _ => rfl)) (pv 3)) (pg_sub (pv 1) (pe_op op_mod (pv 2) pe_int) set_list))))
      (pss_one (ps_ret (pe_lst (pa_cons (pv 1) (pa_cons pe_int (pa_cons pe_int pa_nil))))))), ?_⟩
    -- cells = list(script[:12])
    refine ⟨_, rfl, 12, rfl, a, _, rfl, hS, fun p1 n1 => ?_⟩
    rw [cut12]
    have s1 := same_upd (o := .lst ((ns.take 12).map V.int)) n1
    refine ⟨p1, _, rfl, .inl (SqL.of upd_same), fun c nc => ?_⟩
    have s2 := s1.trans (same_upd (o := .lst ((ns.take 12).map V.int)) nc)
    have nHc : H c = none := s1.free nc
    -- enumerate(script[12:63])
    refine ⟨_, rfl, 12, rfl, 63, rfl, a, _, rfl, s2.seq hS, fun p2 n2 => ?_⟩
    obtain ⟨ms, em, hm⟩ : ∃ ms : List Int, cutV (ns.map V.int) (some 12) (some 63) = ms.map V.int ∧ (ms = [] ∨ 12 ≤ ns.length) := by
      by_cases h : 12 ≤ ns.length
      · obtain ⟨ms, e, _⟩ := cut_ints ns (some 12) (some 63)
        exact ⟨ms, e, .inr h⟩
      · exact ⟨[], cut1263 ns (by omega), .inl rfl⟩
    rw [em]
    have s3 := s2.trans (same_upd (o := .lst (ms.map V.int)) n2)
    have ncp2 : c ≠ p2 := ne_of_none (upd_same) n2
    refine ⟨p2, ms.map V.int, rfl, SqL.of upd_same, ?_⟩
    refine for_it (walk_enum (K := K) (a := p2) (xs := ms.map V.int)) (fun i σ H2 => ∃ (y2 y3 : Option V) (cs : List Int), σ = [some (.ref a), some (.ref c), y2, y3] ∧ Same H H2 ∧ H2 c = some (.lst (cs.map V.int)) ∧ H2 p2 = some (.lst (ms.map V.int)) ∧ cs.length = min 12 ns.length)
      ⟨none, none, ns.take 12, rfl, s3, ?_, upd_same, by rw [List.length_take]⟩ ?_ ?_ ?_
    · rw [upd_ne ncp2, upd_same]
    · rintro i σ H2 _ ⟨_, _, _, _, _, _, h2, _⟩
      exact SqL.of h2
    · rintro i x σ H2 H3 hi ⟨y2, y3, cs, rfl, sm, hc, hp, hl⟩ ⟨T, x1, x2, rfl, nT, rfl, f1, f2⟩
      have f1 := Option.some.inj f1
      subst f1
      obtain ⟨z, hz, rfl⟩ := ints_get f2
      have hne : 12 ≤ ns.length := by
        rcases hm with rfl | h
        · simp at hz
        · exact h
      rw [Nat.min_eq_left hne] at hl
      have ncT : c ≠ T := ne_of_none hc nT
      have npT : p2 ≠ T := ne_of_none hp nT
      have h0 := Int.emod_nonneg (i : Int) (by decide : (12 : Int) ≠ 0)
      have h1 := Int.emod_lt_of_pos (i : Int) (by decide : (0 : Int) < 12)
      obtain ⟨u, hu⟩ := at_ints (ns := cs) h0 (by omega)
      have hcT : ∀ o, (upd H2 T o) c = some (.lst (cs.map V.int)) := fun o => by
        rw [upd_ne ncT]
        exact hc
      refine ⟨T, _, rfl, SqT.of upd_same, rfl, _, _, rfl, _, _, rfl, rfl, ?_⟩
      refine ⟨_, rfl, _, rfl, i, 12, rfl, rfl, (by show (0 : Int) < 12; decide), c, _, _, _, rfl, rfl, SqL.of (hcT _), hu, _, rfl, u, z, rfl, rfl, ?_⟩
      refine ⟨_, rfl, _, rfl, i, 12, rfl, rfl, (by show (0 : Int) < 12; decide), c, _, _, _, rfl, rfl, hcT _, ixN_of h0 (by rw [List.length_map]; omega), ?_⟩
      refine ⟨_, _, cs.set ((i : Int) % 12).toNat (u + z), rfl, fun b o e => ?_, ?_, ?_, ?_⟩
      · rw [upd_ne (ne_of_none e nHc), upd_ne (ne_of_none (sm _ _ e) nT)]
        exact sm _ _ e
      · rw [upd_same, List.map_set]
      · rw [upd_ne (Ne.symm ncp2), upd_ne npT]
        exact hp
      · rw [List.length_set]
        omega
    · rintro σ H2 ⟨y2, y3, cs, rfl, sm, hc, hp, hl⟩
      refine ⟨_, rfl, by show 3 ≤ sizeLine; decide, fun p np => ?_⟩
      have s4 := same_upd (o := .lst [V.ref c, V.int 0, V.int 0]) np
      exact q _ p c cs (sm.trans s4) ⟨⟨0, 0, upd_same, by omega, by omega, by omega⟩, s4 _ _ hc⟩ (sm.free np)
theorem scTake : FnScope ["pen", "amount", "at", "cell", "found"] ["pen", "amount"] (defScope sTake) := ⟨rfl, rfl, rfl, by decide +kernel, rfl, by decide +kernel, by decide +kernel⟩
theorem ok_take {f fS : Addr} {fd fdS : FuncData} {k : Nat} (F : Fun K "_law_take" "_law_take" sTake f fd) (FS : Fun K "_law_spread" "_law_spread" sSpread fS fdS) (bS : Binds K fdS ["cell", "at"] []) (gS : mg "_law_spread" = some (.ref fS)) (ml : mg "len" = none) :
    FnOk P w K mg base CX0 (k + 2) f fd ["pen", "amount"] spTake := by
  have GS : FnOk P w K mg base CX0 (k + 1) fS fdS ["cell", "at"] spSpread := ok_spread FS
  refine F.ok scTake (fun vs H Q E h => ?_) (fun cdv A outer s H vs Q E hr h => ?_)
  · obtain ⟨p, c, ns, n, m, rfl, _⟩ := h
    rfl
  · obtain ⟨p, c, ns, n, m, rfl, hP, hn, m0, m1, q⟩ := h
    have hn' : (n : Int) < 1000000 := by unfold penMost at hn; omega
    have hcp := hP.ne
    obtain ⟨⟨at_, left, hp, a0, a1, l0⟩, hc⟩ := hP
    have SP : ∀ {H1 : Hp} {xs : List V}, H1 p = some (.lst xs) → SqL K H1 p xs := fun h => SqL.of h
    refine ⟨_, pss_cut (ps_if (pt_cmpR op_lt (pe_ix ix_list (pv 0) pe_int (fun _ _ => rfl)) (pv 1) (nomark _))
        (pss_cons (ps_set (i := 2) scTake.nd rfl (.inl rfl) (pe_ix ix_list (pv 0) pe_int (fun _ _ => rfl)))
        (pss_cons (ps_set (i := 3) scTake.nd rfl (.inl rfl) pe_int)
        (pss_cut (ps_if (pt_cmpR op_lt (pv 2) (pe_callB call_len_seq (by rfl) ml PySem.boot_len (pa_cons (pe_ix ix_list (pv 0) pe_int (fun _ _ => rfl)) pa_nil)) (nomark _))
            (pss_one (ps_set (i := 3) scTake.nd rfl (.inl rfl) (pe_ix ix_list (pe_ix ix_list (pv 0) pe_int (fun _ _ => rfl)) (pv 2) (fun _ _ => rfl))))
            (pss_one (ps_if (pt_cmpR op_gt (pe_callB call_len_seq (by rfl) ml PySem.boot_len (pa_cons (pe_ix ix_list (pv 0) pe_int (fun _ _ => rfl)) pa_nil)) pe_int (nomark _))
              (pss_one (ps_set (i := 3) scTake.nd rfl (.inl rfl) (pe_op op_mod (pe_ix ix_list (pe_ix ix_list (pv 0) pe_int (fun _ _ => rfl)) (pe_op op_mod (pe_op op_add (pe_op op_mul (pv 2) pe_int) pe_int) (pe_callB call_len_seq (by rfl) ml PySem.boot_len (pa_cons (pe_ix ix_list (pv 0) pe_int (fun _ _ => rfl)) pa_nil))) (fun _ _ => rfl))
                (pe_op op_add (pe_op op_pow pe_int pe_int) (pv 2))))) pss_nil)))
        (pss_cons (ps_asg (pe_op op_add (pv 2) pe_int) (pg_sub (pv 0) pe_int set_list))
        (pss_one (ps_asg (pe_call GS hr (by rfl) gS FS.kp bS .nil pass0 (pa_cons (pv 3) (pa_cons (pv 2) pa_nil))) (pg_sub (pv 0) pe_int set_list)))))))
        pss_nil)
      (pss_cons (ps_set (i := 4) scTake.nd rfl (.inl rfl) (pe_op op_mod (pe_ix ix_list (pv 0) pe_int (fun _ _ => rfl)) (pv 1)))
      (pss_cons (ps_asg (pe_op op_fdiv (pe_ix ix_list (pv 0) pe_int (fun _ _ => rfl)) (pv 1)) (pg_sub (pv 0) pe_int set_list))
      (pss_one (ps_ret (pv 4))))), ?_⟩
    -- behind the if: the pen's list again
    refine ⟨fun σ H1 => ∃ (y2 y3 y4 : Option V) (at1 l1 : Int), σ = [some (.ref p), some (.int m), y2, y3, y4] ∧ Kp p H H1 ∧ H1 p = some (.lst [.ref c, .int at1, .int l1]) ∧ 0 ≤ at1 ∧ at1 ≤ (n : Int) + 1 ∧ 0 ≤ l1, ?_, ?_⟩
    · refine ⟨_, rfl, p, _, 2, .int left, rfl, rfl, SP hp, atI_nat (j := 2) rfl, _, rfl, left, m, rfl, rfl, _, rfl, ?_⟩
      refine ite2 (fun hlt => ?_) (fun _ => ?_)
      · refine ⟨_, rfl, p, _, 1, .int at_, rfl, rfl, SP hp, atI_nat (j := 1) rfl, ?_⟩
        -- the cell
        refine ⟨fun σ H1 => H1 = H ∧ ∃ (z : Int) (y4 : Option V), σ = [some (.ref p), some (.int m), some (.int at_), some (.int z), y4], ?_, ?_⟩
        · refine ⟨_, rfl, _, rfl, p, _, 0, .ref c, rfl, rfl, SP hp, atI_nat (j := 0) rfl, c, _, rfl, .inl (SqL.of hc), at_, _, rfl, rfl, _, rfl, ?_⟩
          refine ite2 (fun h1 => ?_) (fun h1 => ?_)
          · have h1 := of_decide_eq_true h1
            rw [List.length_map] at h1
            obtain ⟨z, hz⟩ := at_ints (ns := ns) a0 h1
            exact ⟨_, rfl, p, _, 0, .ref c, rfl, rfl, SP hp, atI_nat (j := 0) rfl, _, rfl, c, _, at_, _, rfl, rfl, SqL.of hc, hz, rfl, z, _, rfl⟩
          · refine ⟨_, rfl, p, _, 0, .ref c, rfl, rfl, SP hp, atI_nat (j := 0) rfl, c, _, rfl, .inl (SqL.of hc), _, 0, rfl, rfl, _, rfl, ?_⟩
            refine ite2 (fun h2 => ?_) (fun h2 => ?_)
            · have h2 := of_decide_eq_true h2
              rw [List.length_map] at h2
              have k0 := Int.emod_nonneg (at_ * 5 + 3) (Int.ne_of_gt h2)
              have k1 := Int.emod_lt_of_pos (at_ * 5 + 3) h2
              obtain ⟨z, hz⟩ := at_ints (ns := ns) k0 k1
              refine ⟨_, rfl, p, _, 0, .ref c, rfl, rfl, SP hp, atI_nat (j := 0) rfl, _, rfl, at_, 5, rfl, rfl, .inr ⟨by decide, by decide⟩, _, 3, rfl, rfl, _, rfl, p, _, 0, .ref c, rfl, rfl, SP hp, atI_nat (j := 0) rfl, c, _, rfl, .inl (SqL.of hc), _, _, rfl, rfl, by rw [List.length_map]; exact h2, c, _, _, _, rfl, rfl, SqL.of hc, by rw [List.length_map]; exact hz, 10, 17, rfl, rfl, ⟨by decide, by decide, by decide⟩, _, rfl, _, at_, rfl, rfl, z, _, rfl, rfl, ?_, rfl, _, _, rfl⟩
              have : (0 : Int) < 10 ^ (17 : Int).toNat := by decide
              show (0 : Int) < 10 ^ (17 : Int).toNat + at_
              omega
            · exact ⟨rfl, 0, _, rfl⟩
        · rintro σ H1 ⟨rfl, z, y4, rfl⟩
          refine ⟨_, rfl, at_, 1, rfl, rfl, _, rfl, p, _, 1, 1, rfl, rfl, hp, rfl, ?_⟩
          refine ⟨_, rfl, _, rfl, z, at_, rfl, a0, by omega, fun r H2 r0 s2 => ?_⟩
          have hp2 := s2 _ _ (upd_same (H := H1) (a := p) (o := .lst ([V.ref c, V.int at_, V.int left].set 1 (V.int (at_ + 1)))))
          refine ⟨_, rfl, p, _, 2, 2, rfl, rfl, hp2, rfl, ?_⟩
          refine ⟨_, _, _, at_ + 1, r, rfl, ?_, upd_same, by omega, by omega, r0⟩
          exact ((kp_upd p H1 _).same s2).trans (kp_upd p H2 _)
      · exact ⟨_, _, _, at_, left, rfl, Kp.refl p H, hp, a0, by omega, l0⟩
    · rintro σ H1 ⟨y2, y3, y4, at1, l1, rfl, kp, h1, b0, b1, c0⟩
      refine ⟨_, rfl, p, _, 2, .int l1, rfl, rfl, SP h1, atI_nat (j := 2) rfl, _, rfl, l1, m, rfl, rfl, by show (0 : Int) < m; omega, ?_⟩
      refine ⟨_, rfl, p, _, 2, .int l1, rfl, rfl, SP h1, atI_nat (j := 2) rfl, _, rfl, l1, m, rfl, rfl, ⟨by omega, by omega⟩, _, rfl, p, _, 2, 2, rfl, rfl, h1, rfl, ?_⟩
      refine ⟨_, rfl, q _ _ (Int.emod_nonneg l1 (by omega)) (Int.emod_lt_of_pos l1 (by omega)) (kp.trans (kp_upd p H1 _)) ⟨⟨at1, l1 / m, upd_same, b0, by omega, Int.ediv_nonneg c0 (by omega)⟩, ?_⟩⟩
      rw [upd_ne hcp]
      exact kp _ _ hc hcp
end
/-! ### data that stands -/
theorem _root_.L2.Same.seqT {K : PySem.W.Frag} {H H' : Hp} {a : Addr} {xs : List V} (e : Same H H') (h : SqT K H a xs) : SqT K H' a xs := by
  rcases h with (h | ⟨o, h⟩) | h
  · exact .inl (.inl (e _ _ h))
  · exact .inl (.inr ⟨o, e _ _ h⟩)
  · exact .inr h
mutual
theorem dp_same {K : PySem.W.Frag} {H H' : Hp} (s : Same H H') : ∀ {v : V} {d : PyData}, Dp K H v d → Dp K H' v d
  | _, _, .non => .non
  | _, _, .bl b => .bl b
  | _, _, .int i => .int i
  | _, _, .str x => .str x
  | _, _, .lst q r => .lst (s.seq q) (dpAll_same s r)
  | _, _, .tup q r => .tup (s.seqT q) (dpAll_same s r)
theorem dpAll_same {K : PySem.W.Frag} {H H' : Hp} (s : Same H H') : ∀ {v : List V} {d : List PyData}, DpAll K H v d → DpAll K H' v d
  | _, _, .nil => .nil
  | _, _, .cons q r => .cons (dp_same s q) (dpAll_same s r)
end
/- data without a list in it -/
mutual
def noL : PyData → Bool
  | .list _ => false
  | .tuple ds => noLAll ds
  | _ => true
def noLAll : List PyData → Bool
  | [] => true
  | d :: ds => noL d && noLAll ds
end
theorem Kp.seqT {K : PySem.W.Frag} {p a : Addr} {H H' : Hp} {l xs : List V} (e : Kp p H H') (hp : H p = some (.lst l)) (h : SqT K H a xs) : SqT K H' a xs := by
  rcases h with (h | ⟨o, h⟩) | h
  · exact .inl (.inl (e _ _ h fun z => by rw [z, hp] at h; cases h))
  · exact .inl (.inr ⟨o, e _ _ h fun z => by rw [z, hp] at h; cases h⟩)
  · exact .inr h
mutual
theorem dp_kp {K : PySem.W.Frag} {p : Addr} {H H' : Hp} {l : List V} (s : Kp p H H') (hp : H p = some (.lst l)) : ∀ {v : V} {d : PyData}, Dp K H v d → noL d = true → Dp K H' v d
  | _, _, .non, _ => .non
  | _, _, .bl b, _ => .bl b
  | _, _, .int i, _ => .int i
  | _, _, .str x, _ => .str x
  | _, _, .lst q r, h => by simp [noL] at h
  | _, _, .tup q r, h => .tup (s.seqT hp q) (dpAll_kp s hp r (by simpa [noL] using h))
theorem dpAll_kp {K : PySem.W.Frag} {p : Addr} {H H' : Hp} {l : List V} (s : Kp p H H') (hp : H p = some (.lst l)) : ∀ {v : List V} {d : List PyData}, DpAll K H v d → noLAll d = true → DpAll K H' v d
  | _, _, .nil, _ => .nil
  | _, _, .cons q r, h => by
    simp only [noLAll, Bool.and_eq_true] at h
    exact .cons (dp_kp s hp q h.1) (dpAll_kp s hp r h.2)
end
theorem dpAll_len {K : PySem.W.Frag} {H : Hp} : ∀ {vs : List V} {ds : List PyData}, DpAll K H vs ds → vs.length = ds.length
  | _, _, .nil => rfl
  | _, _, .cons _ r => by rw [List.length_cons, List.length_cons, dpAll_len r]
theorem dpAll_get {K : PySem.W.Frag} {H : Hp} : ∀ {vs : List V} {ds : List PyData} {i : Nat} {v : V}, DpAll K H vs ds → vs[i]? = some v → ∃ d, ds[i]? = some d ∧ Dp K H v d
  | _, _, _, _, .nil, h => by simp at h
  | _, _, 0, _, .cons q r, h => by
    simp at h
    subst h
    exact ⟨_, rfl, q⟩
  | _, _, i + 1, v, .cons q r, h => by
    obtain ⟨d, h1, h2⟩ := dpAll_get (i := i) (v := v) r (by simpa using h)
    exact ⟨d, by simpa using h1, h2⟩
theorem dpAll_getD {K : PySem.W.Frag} {H : Hp} : ∀ {vs : List V} {ds : List PyData} {i : Nat} {d : PyData}, DpAll K H vs ds → ds[i]? = some d → ∃ v, vs[i]? = some v ∧ Dp K H v d
  | _, _, _, _, .nil, h => by simp at h
  | _, _, 0, _, .cons q r, h => by
    simp at h
    subst h
    exact ⟨_, rfl, q⟩
  | _, _, i + 1, v, .cons q r, h => by
    obtain ⟨d, h1, h2⟩ := dpAll_getD (i := i) (d := v) r (by simpa using h)
    exact ⟨d, by simpa using h1, h2⟩
theorem dpAll_app {K : PySem.W.Frag} {H : Hp} : ∀ {vs ws : List V} {ds es : List PyData}, DpAll K H vs ds → DpAll K H ws es → DpAll K H (vs ++ ws) (ds ++ es)
  | _, _, _, _, .nil, s => s
  | _, _, _, _, .cons q r, s => .cons q (dpAll_app r s)
theorem dpAll_ints {K : PySem.W.Frag} {H : Hp} : ∀ (ns : List Int), DpAll K H (ns.map V.int) (ns.map PyData.int)
  | [] => .nil
  | _ :: r => .cons (.int _) (dpAll_ints r)
theorem dpAll_bls {K : PySem.W.Frag} {H : Hp} : ∀ (ns : List Bool), DpAll K H (ns.map V.bl) (ns.map PyData.bool)
  | [] => .nil
  | _ :: r => .cons (.bl _) (dpAll_bls r)
theorem ints_of_dp {K : PySem.W.Frag} {H : Hp} : ∀ {vs : List V} {ns : List Int}, DpAll K H vs (ns.map PyData.int) → vs = ns.map V.int
  | _, [], .nil => rfl
  | _, _ :: _, .cons q r => by
    cases q
    rw [ints_of_dp r] <;> rfl
theorem tyx_l {K : PySem.W.Frag} {H : Hp} {a : Addr} {xs : List V} (h : SqL K H a xs) : TyX K H (.ref a) (.type "list") := by
  rcases h with (h | ⟨o, h⟩) | ⟨o, its, n, h, hc, _⟩
  · exact .base (.lst h)
  · exact .base (.frz h)
  · exact .kList h hc
theorem tyx_t {K : PySem.W.Frag} {H : Hp} {a : Addr} {xs : List V} (h : SqT K H a xs) : TyX K H (.ref a) (.type "tuple") := by
  rcases h with (h | ⟨o, h⟩) | ⟨o, its, n, h, hc, _⟩
  · exact .base (.tup h)
  · exact .fTuple h
  · exact .kTuple h hc
theorem walk_zipT {K : PySem.W.Frag} {a b : Addr} {xs ys : List V} {n : Nat} (hn : n = min xs.length ys.length) : Walk (RZ.ItzT K a b) n (fun H => SqT K H a xs ∧ SqT K H b ys) (YPair (fun i => xs[i]?) (fun i => ys[i]?)) := by
  subst hn
  refine ⟨fun i _ hi q => ?_, fun _ q => ⟨xs, ys, q.1, q.2, by omega⟩, fun i H v H' _ q y => ?_⟩
  · have h1 : i < xs.length := by omega
    have h2 : i < ys.length := by omega
    exact ⟨xs, ys, xs[i], ys[i], q.1, q.2, by simp [h1], by simp [h2]⟩
  · obtain ⟨T, x, z, h1, h2, h3, h4, h5⟩ := y
    exact ⟨T, x, z, h1, h2, h3, h4 xs q.1, h5 ys q.2⟩
/-! ### alike -/
/- data of so many levels, no list of it too long -/
mutual
def okD : Nat → PyData → Bool
  | 0, _ => false
  | _ + 1, .none => true
  | _ + 1, .bool _ => true
  | _ + 1, .int _ => true
  | _ + 1, .str _ => true
  | n + 1, .list ds => decide (ds.length ≤ 1000000) && okAll n ds
  | n + 1, .tuple ds => decide (ds.length ≤ 1000000) && okAll n ds
  | _ + 1, _ => false
def okAll : Nat → List PyData → Bool
  | _, [] => true
  | n, d :: ds => okD n d && okAll n ds
end
theorem okAll_get : ∀ {n : Nat} {ds : List PyData} {i : Nat} {d : PyData}, okAll n ds = true → ds[i]? = some d → okD n d = true
  | _, [], _, _, _, h => by simp at h
  | n, a :: r, 0, d, o, h => by
    simp at h
    subst h
    simp only [okAll, Bool.and_eq_true] at o
    exact o.1
  | n, a :: r, i + 1, d, o, h => by
    simp only [okAll, Bool.and_eq_true] at o
    exact okAll_get (i := i) o.2 (by simpa using h)
theorem okAll_of : ∀ {n : Nat} {ds : List PyData}, (∀ d ∈ ds, okD n d = true) → okAll n ds = true
  | _, [], _ => rfl
  | n, a :: r, h => by
    simp only [okAll, Bool.and_eq_true]
    exact ⟨h a List.mem_cons_self, okAll_of fun d hd => h d (List.mem_cons_of_mem _ hd)⟩
def spSame (K : PySem.W.Frag) (n : Nat) : Sp := fun vs H Q _ => ∃ (x y : V) (d : PyData), vs = [x, y] ∧ Dp K H x d ∧ Dp K H y d ∧ okD n d = true ∧ ∀ H', Same H H' → Q (.bl true) H'
theorem inV_rep : ∀ n : Nat, inV (.bl false) (List.replicate n (V.bl true)) = false
  | 0 => rfl
  | n + 1 => by
    rw [List.replicate_succ]
    exact inV_rep n
theorem flat_rep : ∀ n : Nat, (List.replicate n (V.bl true)).all flatV = true
  | 0 => rfl
  | n + 1 => by
    rw [List.replicate_succ]
    exact flat_rep n
theorem ifT {c : Bool} {A B : Prop} (h : c = true) (a : A) : if c = true then A else B := by
  rw [if_pos h]
  exact a
theorem ifF {c : Bool} {A B : Prop} (h : c = false) (b : B) : if c = true then A else B := by
  rw [h, if_neg Bool.false_ne_true]
  exact b
/-! ### what is shown (repr) asks that no showing is under way: a def's promise where the guards are known to be none -/
def Around.calmG (A : Around) : Prop := A.guards = some []
structure FnG (P : Program) (w : World) (K : PySem.W.Frag) (mg : Str → Option Value) (base : Heap) (k : Nat) (f : Addr) (fd : FuncData) (ps : List Str) (sp : Sp) : Prop where
  len : ∀ vs H Q E, sp vs H Q E → vs.length = ps.length
  run : ∀ (A : Around), Around.calmG A → Room k A → ∀ (outer : List Env) (s : Shared) (H : Hp) (args : Args) (us : List Value) (vs : List V) (Q : VK) (E : XK),
    Env0 P w K mg base A outer s H → BindsTo s fd args (ps.zip us) → Vals vs us → sp vs H Q E → codeAny (model P w) A (.call (.ref f) args) (CR CX0 outer P w H s Q E) s
section
variable {P : Program} {w : World} {K : PySem.W.Frag} {mg : Str → Option Value} {base : Heap}
theorem fnG_of_ok {k : Nat} {f : Addr} {fd : FuncData} {ps : List Str} {sp : Sp} (F : FnOk P w K mg base CX0 k f fd ps sp) : FnG P w K mg base k f fd ps sp :=
  ⟨F.len, fun A _ r outer s H args us vs Q E => F.run A outer s H args us vs Q E r⟩
theorem FnG.mono {j k : Nat} {f : Addr} {fd : FuncData} {ps : List Str} {sp : Sp} (F : FnG P w K mg base j f fd ps sp) (h : j ≤ k) : FnG P w K mg base k f fd ps sp :=
  ⟨F.len, fun A g r => F.run A g (r.mono h)⟩
/-- a body walked where no showing is under way -/
theorem fnG_body {x qual : Str} {st : Stmt} {f : Addr} {fd : FuncData} {N ps : List Str} {k : Nat} {sp : Sp} (F : Fun K x qual st f fd) (S : FnScope N ps (defScope st)) (len : ∀ vs H Q E, sp vs H Q E → vs.length = ps.length)
    (walk : ∀ (cdv : Value) (A : Around), Around.calmG A → ∀ (outer : List Env) (s : Shared) (H : Hp) (vs : List V) (Q : VK) (E : XK), Room k (A.deeper (envOfC qual (defScope st) s.heap.objs.size f cdv)) → sp vs H Q E →
      ∃ t, PSs (cxOf CX0 P w K mg base N qual (defScope st) f cdv A outer s H E).nox (defBody st) t ∧ t { nx := fun _ H' => Q .non H', rt := Q } (start N vs) H) :
    FnG P w K mg base (k + 1) f fd ps sp := by
  refine ⟨len, fun A g room outer s H args us vs Q E at0 bnd vals wants => ?_⟩
  obtain ⟨oc, od, kV, doc, pm, an, cdv, ct, osl, rfl, there, code⟩ := F.ex
  have sizes := len _ _ _ _ wants
  have inK : K.In s.heap := at0.mod.kin.keeps fun b o q => (at0.bs b o q).1
  have noLim : s.heap.NoLimit := at0.mod.nolimit.keeps fun b o q => (at0.bs b o q).1
  have params : ∀ y ∈ ps.zip us, (defScope st).names.lookup y.1 = some .local ∨ ((defScope st).names.lookup y.1 = some .cell ∧ ((cellsFrom (s.heap.objs.size + 1) (defScope st).names []).lookup y.1).isSome = true) := by
    rintro ⟨n, v⟩ hy
    have hn : n ∈ ps := (List.of_mem_zip hy).1
    exact (S.par n hn).imp id fun q => ⟨q, PySem.W.cellsFrom_some _ _ _ (.inl q)⟩
  refine codeAny_call_function room.depth (inK _ _ there) rfl S.co S.gen rfl (PySem.W.codeRec_of inK code) (bnd _ _ _ _ (wpAny_newFunctionEnv_cells S.kind params fun env eqv s1 inside => ?_))
  subst eqv
  obtain ⟨t, good, reads⟩ := walk cdv A g outer s H vs Q E (room.deeper _) wants
  have inv : Inv (cxOf CX0 P w K mg base N qual (defScope st) f cdv A outer s H E) [] (start N vs) H s1 := inv_start S room.hd at0 sizes vals inside
  refine ⟨noLim.keeps inside.toInCall.keep, codeAny_func (wpAny_mono (good.nox.run [] s1 (start N vs) H _ inv reads) (fun ends s' after => ?_) fun _ _ bad => bad)⟩
  cases ends with
  | ret u =>
    obtain ⟨v, σ', H', J, rv, q⟩ := after
    exact ⟨v, H', J.os, J.bare, J.base, J.hok, rv, q⟩
  | next =>
    obtain ⟨σ', H', J, q⟩ := after
    exact ⟨.non, H', J.os, J.bare, J.base, J.hok, rfl, q⟩
  | brk => exact (after.elim fun _ z => z.elim fun _ z => z.2).elim
  | cont => exact (after.elim fun _ z => z.elim fun _ z => z.2).elim
end
theorem calmG_deeper {A : Around} (g : Around.calmG A) (env : Env) : Around.calmG (A.deeper env) := g
section
variable {X : Cx}
/-- a call, made where no showing is under way, of a def that may show -/
theorem pe_callG {k : Nat} {f : Addr} {fd : FuncData} {ps : List Str} {sp : Sp} {x : Str} {p pos : Pos} {e : Expr} {es : List Expr} {t : TA} (F : FnG X.prog X.w X.K X.mg X.base k f fd ps sp) (g : Around.calmG X.A) (room : Room k X.A) (hg : Gl X x) (hm : X.mg x = some (.ref f))
    (hk : PySem.W.keepIn X.K (.ref f) = true) (hb : Binds X.K fd ps []) (ha : PA X (e :: es) t) (hdb : (x == ("__debug__" : Str)) = false := by decide)
    (he : starEach (e :: es) X.env = (false, eval e X.env) :: starEach es X.env := by rfl) (hpl : (backTo pos (starEach es X.env)).any (·.1) = false := by rfl) : PE X (.Call (.Name x p) (e :: es) [] pos) (tCall sp [] E0 t) := by
  refine ⟨fun pins s σ H Q I h => wpAny_Call_Name_kw (ld_glob I hg hm ?_ hdb)⟩
  refine PySem.W.callWith_K (h₀ := X.base) I.ok.mod.kin hk (thn (ha.run pos pins s σ H _ I h) fun us s1 ⟨vs, H1, I1, r, q⟩ => ⟨I1.kIn, ?_⟩) he hpl
  have r2 : Vals (vs ++ []) (us ++ []) := r.append .nil
  have sizes : (us ++ []).length = ps.length := by rw [← r2.length]; exact F.len _ _ _ _ q
  refine wpAny_call (codeAny_mono (F.run X.A g room X.stack s1 H1 ⟨us, []⟩ (us ++ []) (vs ++ []) Q E0 I1.env0 (hb s1 us I1.kIn sizes) r2 q) fun r s' after => ?_)
  match r, after with
  | .error e, bad => exact bad.elim
  | .ok (.ret u), good => exact I1.after good
  | .ok .next, bad => exact bad.elim
  | .ok .brk, bad => exact bad.elim
  | .ok .cont, bad => exact bad.elim
/-- repr of data -/
def rShow (K : PySem.W.Frag) : List V → Hp → VK → Prop := fun xs H Q => ∃ (a : Addr) (d : PyData), xs = [V.ref a] ∧ Dp K H (.ref a) d ∧ d.showable = true ∧ d.hasDict = false ∧ d.depth ≤ 20 ∧ d.shown.length ≤ sizeLine ∧ Q (.str d.shown) H
theorem call_show {k : Nat} (g : Around.calmG X.A) (room : Room k X.A) : CallR X (.builtin "repr") (rShow X.K) := by
  intro pins s σ H xs us Q I r h
  obtain ⟨a, d, rfl, hd, h1, h2, h3, h4, q⟩ := h
  obtain ⟨u, rfl, ru⟩ := vals1 r
  obtain ⟨as, reads⟩ := Dp.reads I d _ _ hd ru
  cases ru
  have hu := room.un
  exact repr_of_reads' reads h1 (PyData.noDict_hsm h2) g (by omega) (fun _ _ e => e) (fun h' u tk keeps => ⟨.str d.shown, H, I.kept keeps, ⟨u, rfl⟩, q⟩) h4
end
/-! ### the law's own call, by a promise where no showing is under way -/
theorem law_calledG {P : Program} {w : World} {K : PySem.W.Frag} {mg mb : Str → Option Value} {k : Nat} {fa a : Addr} {fd : FuncData} {x : Str} {sp : Sp} {s : Shared} {vs : List Value} {ns : List Int}
    (inK : K.In s.heap) (nsG : s.heap.Ns mainGlobals mg) (nsB : s.heap.Ns builtinsNs mb) (boot : ∀ x : Str, x ≠ "__name__" → mb x = bootBuiltins x) (noLim : s.heap.NoLimit) (gens : s.gens = #[])
    (obj : s.heap.get? a = some { cls := .type "list", data := .seq vs.toArray }) (areI : IntsAre vs ns) (short : ns.length ≤ sizeLine) (room : Room k callerA)
    (F : ∀ base : Heap, K.In base → base.Ns mainGlobals mg → FnG P w K mg base k fa fd [x] sp) (bnd : ∀ (s : Shared) (u : Value), BindsTo s fd ⟨[u], []⟩ [(x, u)])
    (wants : ∀ H : Hp, Only H → SqL K H a (ns.map V.int) → sp [.ref a] H (fun v _ => v = .bl true) E0) :
    codeAny (model P w) callerA (.call (.ref fa) ⟨[.ref a], []⟩) (fun r s' => r = .ok (.ret (.bool true)) ∧ OldK s.heap s'.heap ∧ s'.os = s.os ∧ AllBare s'.gens) s := by
  have vals := vals_ints areI
  -- either nothing is tracked, or the script alone, known to the object
  have go : ∀ H : Hp, Only H → SqL K H a (ns.map V.int) → HOk P w H s.heap → (∀ b, H b = none ∨ (b = a ∧ K.lookup a = none)) →
      codeAny (model P w) callerA (.call (.ref fa) ⟨[.ref a], []⟩) (fun r s' => r = .ok (.ret (.bool true)) ∧ OldK s.heap s'.heap ∧ s'.os = s.os ∧ AllBare s'.gens) s := by
    intro H only seq hok few
    have dictFree : ∀ {b : Addr} {o : Obj} {es : Array DictEntry} {ep : Nat}, s.heap.get? b = some o → o.data = .dict es ep → H b = none := by
      intro b o es ep e d
      refine (few b).elim id fun ⟨hb, _⟩ => ?_
      subst hb
      rw [obj] at e
      cases e
      exact nomatch d
    have nsH : ∀ {b : Addr} {m : Str → Option Value}, s.heap.Ns b m → (hidT s.heap H).Ns b m := by
      rintro b m ⟨o, es, ep, e, d, r⟩
      exact ⟨o, es, ep, hidT_get e (dictFree e d), d, r⟩
    have kH : K.In (hidT s.heap H) := fun b o e => hidT_get (inK b o e) ((few b).elim id fun ⟨hb, noK⟩ => by rw [hb, noK] at e; cases e)
    have modH : Mod K mg (hidT s.heap H) := ⟨kH, nsH nsG, ⟨mb, nsH nsB, boot⟩, noLim.elim fun mc h => ⟨mc, nsH h.1, h.2⟩⟩
    have start0 : Env0 P w K mg (hidT s.heap H) callerA [] s H :=
      { frames := rfl, mod := modH, bs := fun b o e => of_hidT e, bsz := Nat.le_of_eq (hidT_size _ _), funs := trivial, frf := fun b hb => (List.not_mem_nil hb).elim, hok := hok, bare := .of_eq gens }
    refine codeAny_mono ((F _ kH (nsH nsG)).run callerA rfl room [] s H ⟨[.ref a], []⟩ [.ref a] [.ref a] _ _ start0 (bnd s (.ref a)) (.cons rfl .nil) (wants H only seq)) fun r s' after => ?_
    match r, after with
    | .error e, bad => exact bad.elim
    | .ok .next, bad => exact bad.elim
    | .ok .brk, bad => exact bad.elim
    | .ok .cont, bad => exact bad.elim
    | .ok (.ret u), ⟨v, H', os, bare, un, hok', rv, isT⟩ =>
      obtain rfl : v = .bl true := isT
      obtain rfl : u = Value.bool true := rv
      refine ⟨rfl, OldK.of_keep fun b o e => ?_, os, bare⟩
      cases q : H b with
      | none => exact un.keep b o e q (fun z => (List.not_mem_nil (show b ∈ ([] : List Addr) from z)).elim) (by simp)
      | some u =>
        obtain ⟨ob, xs, z⟩ := (only b).resolve_left (by rw [q]; simp)
        obtain ⟨e1, _⟩ := hok b _ z
        obtain ⟨e2, _⟩ := hok' b _ (un.frzs b ob _ z)
        exact (e.symm.trans e1) ▸ e2
  have lenV := areI.length
  by_cases there : ∃ o, K.lookup a = some o
  · obtain ⟨o, ho⟩ := there
    obtain rfl : o = _ := Option.some.inj ((inK a o ho).symm.trans obj)
    exact go (fun _ => none) (fun _ => .inl rfl) (.inr ⟨_, vs.toArray, _, ho, rfl, rfl, rfl, by rw [List.size_toArray, lenV]; exact short, by simpa using vals⟩) (fun b u z => nomatch z) fun _ => .inl rfl
  · have noK : K.lookup a = Option.none := by
      cases e : K.lookup a with
      | none => rfl
      | some o => exact (there ⟨o, e⟩).elim
    refine go (fun b => if b = a then some (.frz { cls := .type "list", data := .seq vs.toArray } (.lst (ns.map V.int))) else Option.none) (fun b => ?_) (.inl (.inr ⟨_, if_pos rfl⟩)) (fun b u z => ?_) fun b => ?_
    all_goals by_cases hb : b = a
    · exact .inr ⟨_, _, if_pos hb⟩
    · exact .inl (if_neg hb)
    · obtain rfl := Option.some.inj (z.symm.trans (if_pos hb))
      subst hb
      exact ⟨obj, by rw [List.length_map]; exact short, vs, _, vals, obj⟩
    · exact nomatch z.symm.trans (if_neg hb)
    · exact .inr ⟨hb, noK⟩
    · exact .inl (if_neg hb)
theorem walkG {l : PySem.W.OpenLaw} {k : Nat} {q : Program} {loose : List Str} {XP : (Str → Option Value) → Heap → Prop} {YP : World → Heap → Prop} {d : DefRec} {K : Params → PySem.W.Frag} {sp : PySem.W.Frag → Sp} {x : Str}
    (most : l.most = some 63) (noDef : d.params.defaults = []) (room : Room k callerA) (hY : ∀ (w : World) (h : Heap), YP w h → (K w.params).In h)
    (F : ∀ (w : World) (mg : Str → Option Value) (fa : Addr) (h : Heap), (K w.params).In h → h.Ns mainGlobals mg → mg d.name = some (.ref fa) → ∃ fd : FuncData, (∀ (s : Shared) (u : Value), BindsTo s fd ⟨[u], []⟩ [(x, u)]) ∧
      ∀ base : Heap, (K w.params).In base → base.Ns mainGlobals mg → FnG l.prog w (K w.params) mg base k fa fd [x] (sp (K w.params)))
    (wants : ∀ (K : PySem.W.Frag) (H : Hp) (a : Addr) (ns : List Int), ns.length ≤ 63 → Only H → SqL K H a (ns.map V.int) → sp K [.ref a] H (fun v _ => v = .bl true) E0) :
    PySem.W.WalkO q loose XP YP l.row.toRowW d [] (fun f vs => PySem.call f vs) := by
  refine Att.attach_call most noDef fun w s₀ s₁ mg mb fa o pm cd doc a vs ns G Y ho hd hcd hmg hobj hints hlen hg => ?_
  obtain ⟨fd, hb, hF⟩ := F w mg fa _ (hY w _ Y) G.T.g hmg
  exact law_calledG (hY w _ Y) G.T.g G.T.b G.T.builtins G.T.nolimit hg hobj hints (Nat.le_trans hlen (by decide)) room hF hb (fun H only seq => wants _ H a ns hlen only seq)
/-! ### enumerate over a tuple -/
theorem draws_tuple {prog : Program} {w : World} {A : Around} (hh : A.handled = none) (it l : Addr) (ne : l ≠ it) (vs : Array Value) :
    Draws prog w A it [it, l] vs.size (fun i v => vs[i]? = some v) (fun i h => h.IsTupleIter it l i ∧ h.IsTuple l vs) where
  live := fun _ _ st => st.1.elim fun o ho => ⟨o, ho.1⟩
  frame := fun _ _ _ st keep => by
    obtain ⟨⟨o, ho, ro⟩, ⟨u, hu, ru⟩⟩ := st
    exact ⟨⟨o, keep it (by simp) o ho, ro⟩, ⟨u, keep l (by simp) u hu, ru⟩⟩
  item := fun i s Q E hi st hQ => by
    refine RZ.nextOf_tuple_item st.1 st.2 (x := vs[i]) (by simp [hi]) fun h' it' but => ?_
    exact hQ _ h' s.toks (by simp [hi]) ⟨it', st.2.extBut but.extBut ne⟩ but
  done := fun s Q E st hE => RZ.nextOf_tuple_end hh st.1 st.2 (by simp) hE
set_option maxHeartbeats 1000000 in
theorem enum_made_tuple (l : Addr) (vs : Array Value) (n : Nat) (dct : Option Addr) (sl : Array (Option Value)) :
    Meets (Builtin.«enumerate.__new__» ⟨[.type "enumerate", .ref l], []⟩) (fun _ R s => s.heap.get? l = some { cls := .type "tuple", dict := dct, data := .seq vs n, slots := sl } ∧
      R (.ok (.ret (.ref (s.heap.push { cls := .type "tuple_iterator", data := .fields #[.ref l, .int 0 0] }).objs.size)))
        { s with heap := (s.heap.push { cls := .type "tuple_iterator", data := .fields #[.ref l, .int 0 0] }).push { cls := .type "enumerate", data := .fields #[.none, .bool false, .ref s.heap.objs.size, rawInt 0, .none, .none] } }) := by
  refine .of_wp fun prog w A R s given => ?_
  obtain ⟨hp, g, d, tk, os⟩ := s
  obtain ⟨there, goal⟩ := given
  have sub := sub_enumerate
  have isT : Heap.IsTuple (Shared.heap ⟨hp, g, d, tk, os⟩) l vs := ⟨_, there, rfl, n, rfl⟩
  wp_walk using AutoSeq1.wpAny_loadPart' there
  refine wpAny_stack_any fun st => wpAny_pure ?_
  split
  · rename_i c _ _ _ _ _
    cases (c == Value.type "enumerate") <;> (wp_walk using AutoSeq1.wpAny_loadPart' there, wpAny_pyIter_tuple isT; exact ⟨_, rfl, goal⟩)
  · wp_walk using AutoSeq1.wpAny_loadPart' there, wpAny_pyIter_tuple isT
    exact ⟨_, rfl, goal⟩
theorem call_enum_tuple {prog : Program} {w : World} {A : Around} {E : Value → Shared → Prop} {s : Shared} {l : Addr} {vs : Array Value} {Q : Value → Shared → Prop} (isT : s.heap.IsTuple l vs)
    (hQ : ∀ h', IsEnum h' (s.heap.objs.size + 1) s.heap.objs.size 0 .none → h'.IsTupleIter s.heap.objs.size l 0 → (∀ b o, s.heap.get? b = some o → h'.get? b = some o) → Q (.ref (s.heap.objs.size + 1)) { s with heap := h' }) :
    wpAny (model prog w) A (call (.type "enumerate") [.ref l]) Q E s := by
  obtain ⟨⟨c, dct, dt, sl⟩, there, hc, n, hd⟩ := isT
  obtain rfl : c = .type "tuple" := hc
  obtain rfl : dt = .seq vs n := hd
  have sz : (s.heap.push { cls := .type "tuple_iterator", data := .fields #[.ref l, .int 0 0] }).objs.size = s.heap.objs.size + 1 := Heap.size_push ..
  refine callType_new F.called_enumerate (by decide) (F.typeCall_enumerate_1 _) (F.newCall_enumerate_1 _) (fun obj => F.args_object_init_2 obj _) F.entry_enumerate_new (enum_made_tuple l vs n dct sl) ⟨there, ?_⟩
  rw [sz]
  have made : IsEnum ((s.heap.push { cls := .type "tuple_iterator", data := .fields #[.ref l, .int 0 0] }).push { cls := .type "enumerate", data := .fields #[.none, .bool false, .ref s.heap.objs.size, rawInt 0, .none, .none] }) (s.heap.objs.size + 1) s.heap.objs.size 0 .none := by
    show Heap.get? _ _ = _
    rw [← sz]
    exact Heap.get?_push_size _ rfl
  exact ⟨⟨_, made, rfl⟩, hQ _ made ⟨_, Heap.get?_push_of_some _ (Heap.get?_push_size _ rfl), rfl, rfl⟩ fun b o e => Heap.get?_push_of_some _ (Heap.get?_push_of_some _ e)⟩
/-- the tuple at a, by its items' numbers -/
def ItnT (K : PySem.W.Frag) (a : Addr) : It where
  go := fun i H => ∃ (xs : List V) (x : V), SqT K H a xs ∧ xs[i]? = some x
  yld := fun i H v H' => ∃ T x, v = .ref T ∧ H T = none ∧ H' = upd H T (.tup [.int (i : Nat), x]) ∧ ∀ xs, SqT K H a xs → xs[i]? = some x
  stop := fun i H => ∃ xs : List V, SqT K H a xs ∧ xs.length = i
theorem walk_enumT {K : PySem.W.Frag} {a : Addr} {xs : List V} : Walk (ItnT K a) xs.length (fun H => SqT K H a xs) (YPair (fun i => some (.int (i : Nat))) (fun i => xs[i]?)) where
  goes := fun i _ hi q => ⟨xs, xs[i], q, by simp [hi]⟩
  stops := fun _ q => ⟨xs, q, rfl⟩
  yields := fun i H v H' _ q ⟨T, x, h1, h2, h3, h4⟩ => ⟨T, .int (i : Nat), x, h1, h2, h3, rfl, h4 xs q⟩
theorem turn_enumT {P : Program} {w : World} {K : PySem.W.Frag} {elts : List Expr} {kk : Nat} {tpos : Pos} (a e it : Addr) :
    Turn P w K (.Tuple elts kk tpos) (ItnT K a) [e, it] e (fun i h => (∃ old, IsEnum h e it ((i : Nat) : Int) old) ∧ h.IsTupleIter it a i ∧ e ≠ it) where
  mem := List.mem_cons_self
  obj := fun i h st b hb => by
    obtain ⟨⟨old, he⟩, ⟨o, ho, _, hd⟩, _⟩ := st
    rcases List.mem_cons.mp hb with rfl | hb
    · exact ⟨_, he, fun v q => nomatch q⟩
    · rw [List.mem_singleton.mp hb]
      exact ⟨o, ho, fun v q => by rw [hd] at q; cases q⟩
  keep := fun i h h' st keep => by
    obtain ⟨⟨old, he⟩, ⟨o, ho, r⟩, ne⟩ := st
    exact ⟨⟨old, keep e (by simp) _ he⟩, ⟨o, keep it (by simp) _ ho, r⟩, ne⟩
  item := by
    intro X hP hw hK hc i pins s σ H E I free st going
    subst hP hw hK
    obtain ⟨⟨old, he⟩, hit, ne⟩ := st
    obtain ⟨xs, x, seq, hx⟩ := going
    obtain ⟨its, vals, isT, _⟩ := I.tuple seq
    obtain ⟨u, hu, ru⟩ := vals.get hx
    have elt : e < s.heap.objs.size := Heap.lt_size he
    obtain ⟨oi, hoi, ci, di⟩ := id hit
    have ilt : it < s.heap.objs.size := Heap.lt_size hoi
    have isT' : s.heap.IsTuple a its.toArray := isT
    obtain ⟨oa, hoa, ca, na, da⟩ := id isT'
    have ai : a ≠ it := by
      rintro rfl
      rw [hoa] at hoi
      rw [Option.some.inj hoi, di] at da
      cases da
    have ea : e ≠ a := by
      rintro rfl
      have he' := hoa.symm.trans (show s.heap.get? e = some _ from he)
      rw [Option.some.inj he'] at da
      cases da
    have hlt : i < its.toArray.size := by
      rw [List.size_toArray, ← vals.length]
      exact (List.getElem?_eq_some_iff.mp hx).1
    have D := draws_tuple (prog := X.prog) (w := X.w) (A := X.A.in1) (I.ok.hd hc) it a ai its.toArray
    refine wpAny_pyNext_enum_itemD D he ⟨hit, isT'⟩ hlt ne (by simp [ne, ea]) fun v h' tk hv eo st' hT sz keeps => ?_
    obtain rfl : u = v := by
      have hv' : its[i]? = some v := by simpa using hv
      exact Option.some.inj (hu.symm.trans hv')
    refine ⟨_, rfl, wpAny_letOwnedTupleGo_enum (s := { s with heap := h', toks := tk + 1 }) eo fun h'' e'' sb => ?_⟩
    have hT2 : h''.get? s.heap.objs.size = some { cls := .type "tuple", data := .seq #[.int i tk, u] } := (sb.2 _ (Nat.ne_of_gt elt)).trans hT
    have fresh : ObjOk X.prog X.w (upd H s.heap.objs.size (.tup [.int (i : Nat), x])) h'' s.heap.objs.size (.tup [.int (i : Nat), x]) :=
      ⟨by show 2 ≤ sizeLine; decide, [.int i tk, u], .cons ⟨_, rfl⟩ (.cons ru .nil), ⟨_, hT2, rfl, _, rfl⟩⟩
    have J : Inv X pins σ (upd H s.heap.objs.size (.tup [.int (i : Nat), x])) { s with heap := h'', toks := tk + 1 } :=
      I.turnedNew (ch := [e, it]) (fun b ob hb q => (sb.2 b fun z => hb (by simp [z])).trans (keeps b ob (fun z => hb (by simp [z])) (fun z => hb (by simp [z])) q)) free (Nat.le_refl _) fresh
    refine ⟨.ref s.heap.objs.size, _, J, rfl, ⟨_, x, rfl, I.hok.fresh (Nat.le_refl _), rfl, fun ys hy => ?_⟩, ⟨⟨u, ?_⟩, ?_, ne⟩, fun b hb => ?_⟩
    · obtain ⟨its2, vals2, isT2, _⟩ := I.tuple hy
      rw [I.tuple_inj hy seq]
      exact hx
    · rw [show ((i + 1 : Nat) : Int) = (i : Int) + 1 by omega]
      exact e''
    · obtain ⟨o, ho, r⟩ := st'.1
      exact ⟨o, (sb.2 it (Ne.symm ne)).trans ho, r⟩
    · have : b < s.heap.objs.size := by
        rcases List.mem_cons.mp hb with rfl | hb
        · exact elt
        · rw [List.mem_singleton.mp hb]
          exact ilt
      rw [upd_ne (Nat.ne_of_lt this)]
      exact (free b hb).1
  done := by
    intro X hP hw hK hc i pins s σ H E I free st ends
    subst hP hw hK
    obtain ⟨⟨old, he⟩, hit, ne⟩ := st
    obtain ⟨xs, seq, hx⟩ := ends
    obtain ⟨its, vals, isT, _⟩ := I.tuple seq
    obtain ⟨oi, hoi, ci, di⟩ := id hit
    have isT' : s.heap.IsTuple a its.toArray := isT
    obtain ⟨oa, hoa, ca, na, da⟩ := id isT'
    have ai : a ≠ it := by
      rintro rfl
      rw [hoa] at hoi
      rw [Option.some.inj hoi, di] at da
      cases da
    have sz : i = its.toArray.size := by
      rw [List.size_toArray, ← vals.length, hx]
    subst sz
    have D := draws_tuple (prog := X.prog) (w := X.w) (A := X.A.in1) (I.ok.hd hc) it a ai its.toArray
    obtain ⟨f0, f1, f2, f3, f4, f5⟩ := free it (by simp)
    exact wpAny_pyNext_enum_endD D he ⟨hit, isT'⟩ fun h' eb => ⟨rfl, I.turned (t' := s.toks) (fun b o hb q => eb b o hb q) f0 f1 f3 f4 f5⟩
  self := fun A i s Q E st h => st.1.elim fun _ he => wpAny_pyIter_enum he h
def iEnumT (K : PySem.W.Frag) (ta : TA) : TI := fun σ H R => ta σ H fun vs H1 => ∃ a xs, vs = [.ref a] ∧ SqT K H1 a xs ∧ R (ItnT K a) H1
theorem pi_enumT {X : Cx} {e : Expr} {ta : TA} {p pos tpos : Pos} {elts : List Expr} {kk : Nat} (hg : Gl X "enumerate") (hm : X.mg "enumerate" = none) (ha : PA X [e] ta) (hs : starEach [e] X.env = [(false, eval e X.env)] := by rfl) :
    PI X (.Tuple elts kk tpos) (.Call (.Name "enumerate" p) [e] [] pos) (iEnumT X.K ta) := by
  refine ⟨fun pins s σ H R I h => Call_ (ld_blt I hg hm boot_enumerate (PyProof.Rows.callWith_type1 (thn (ha.run pos pins s σ H _ I h) fun us s1 ⟨vs, H1, I1, r1, q1⟩ => ?_) hs rfl))⟩
  obtain ⟨a, xs, rfl, seq, q⟩ := q1
  obtain ⟨u, rfl, ru⟩ := vals1 r1
  cases ru
  obtain ⟨its, vals, isT, _⟩ := I1.tuple seq
  refine call_enum_tuple isT fun h' he hit keeps => wpAny_pyIter_enum he ?_
  refine ⟨s1.heap.objs.size + 1, [s1.heap.objs.size + 1, s1.heap.objs.size], _, _, H1, rfl, I1.kept (t' := s1.toks) keeps, turn_enumT a (s1.heap.objs.size + 1) s1.heap.objs.size, ⟨⟨.none, he⟩, hit, Nat.succ_ne_self _⟩, fun b hb => ?_, q⟩
  have le : s1.heap.objs.size ≤ b := by
    rcases List.mem_cons.mp hb with rfl | hb
    · exact Nat.le_succ _
    · rw [List.mem_singleton.mp hb]
      exact Nat.le_refl _
  exact I1.fpOk le (I1.hok.fresh le)
/-! ### min of a tuple of ints -/
theorem ints_readsAll {h : Heap} : ∀ {vs : List Value} {ns : List Int}, Vals (ns.map V.int) vs → ∃ as, ReadsAll h vs (ns.map PyData.int) as
  | [], [], _ => ⟨[], .nil⟩
  | v :: vs, n :: ns, r => by
    cases r with
    | cons r rr =>
      obtain ⟨t, rfl⟩ := r
      obtain ⟨as, q⟩ := ints_readsAll (h := h) rr
      exact ⟨_, .cons (.int n t) q⟩
  | _ :: _, [], r => nomatch r
  | [], _ :: _, r => nomatch r
theorem depthAll_ints : ∀ ns : List Int, PyData.depthAll (ns.map PyData.int) ≤ 1
  | [] => Nat.zero_le _
  | n :: ns => by
    have := depthAll_ints ns
    show max (PyData.depth (.int n)) (PyData.depthAll (ns.map PyData.int)) ≤ 1
    have e : PyData.depth (.int n) ≤ 1 := by first | decide | simp [PyData.depth]
    omega
def rMinT (K : PySem.W.Frag) : List V → Hp → VK → Prop := fun vs H Q => ∃ (a : Addr) (n : Int) (ns : List Int), vs = [V.ref a] ∧ SqT K H a ((n :: ns).map V.int) ∧ Q (.int (ns.foldl min n)) H
theorem cr_minT {X : Cx} {k : Nat} (hc : X.calm = true) (room : Room k X.A) : CallR X (.builtin "min") (rMinT X.K) := by
  intro pins s σ H vs us Q I r h
  obtain ⟨a, n, ns, rfl, seq, q⟩ := h
  obtain ⟨its, vals, isT, _⟩ := I.tuple seq
  rw [Vals.ref1 r]
  obtain ⟨as, reads⟩ := ints_readsAll (h := s.heap) vals
  have alike : PySem.W.AlikeAll ((n :: ns).map PyData.int) := by
    refine ⟨fun x hx y hy => ?_, fun x hx e => ?_⟩
    · obtain ⟨i, _, rfl⟩ := List.mem_map.mp hx
      obtain ⟨j, _, rfl⟩ := List.mem_map.mp hy
      simp [PySem.W.alike]
    · obtain ⟨i, _, rfl⟩ := List.mem_map.mp hx
      cases e
  have un := room.un
  have dp := depthAll_ints (n :: ns)
  refine PySem.W.min_tuple_data (I.ok.hd hc) (show s.heap.IsTuple a its.toArray from isT) (by simpa using reads) alike (by show X.A.units + 1 + _ < _; have : PyData.depthAll (PyData.int n :: ns.map PyData.int) ≤ 1 := dp; omega) fun i v h' tk bs hv rd keeps => ?_
  rw [PySem.W.minD_ints] at rd
  cases rd with
  | int _ t => exact ⟨.int _, H, I.kept keeps, ⟨t, rfl⟩, q⟩
theorem foldl_min_le : ∀ (ns : List Int) (n b : Int), b ≤ ns.foldl min n ↔ b ≤ n ∧ ∀ m ∈ ns, b ≤ m
  | [], n, b => by simp
  | m :: r, n, b => by
    rw [List.foldl_cons, foldl_min_le r (min n m) b, List.forall_mem_cons]
    constructor
    · rintro ⟨h1, h2⟩
      exact ⟨by omega, by omega, h2⟩
    · rintro ⟨h1, h2, h3⟩
      exact ⟨by omega, h3⟩
/-! ### drawn houses -/
def sHouse : Stmt := topS 33
def wayD (l : List Int) : PyData := .tuple (l.map PyData.int)
def askD (a : List (List Int)) : PyData := .tuple (a.map wayD)
def houseD (h : List (List (List Int))) : PyData := .tuple (h.map askD)
structure WayOk (kinds size : Int) (l : List Int) : Prop where
  len : (l.length : Int) = kinds
  all : ∀ x ∈ l, -size ≤ x ∧ x ≤ size
structure AskOk (kinds ways size : Int) (a : List (List Int)) : Prop where
  one : 1 ≤ a.length
  five : a.length ≤ 5
  most : (a.length : Int) ≤ ways + 1
  all : ∀ l ∈ a, WayOk kinds size l
structure HouseOk (kinds asks ways size : Int) (h : List (List (List Int))) : Prop where
  one : 1 ≤ h.length
  most : (h.length : Int) ≤ asks
  all : ∀ a ∈ h, AskOk kinds ways size a
theorem noLAll_map {α : Type} {f : α → PyData} (hf : ∀ x, noL (f x) = true) : ∀ l : List α, noLAll (l.map f) = true
  | [] => by simp [noLAll]
  | a :: r => by
    rw [List.map_cons]
    simp only [noLAll, Bool.and_eq_true]
    exact ⟨hf a, noLAll_map hf r⟩
theorem noL_int (i : Int) : noL (.int i) = true := by simp [noL]
theorem noL_way (l : List Int) : noL (wayD l) = true := by
  unfold wayD
  simp only [noL]
  exact noLAll_map noL_int l
theorem noL_ask (a : List (List Int)) : noL (askD a) = true := by
  unfold askD
  simp only [noL]
  exact noLAll_map noL_way a
theorem noL_house (h : List (List (List Int))) : noL (houseD h) = true := by
  unfold houseD
  simp only [noL]
  exact noLAll_map noL_ask h
theorem Pen.at {H : Hp} {p c : Addr} {ns : List Int} {n : Nat} (h : Pen H p c ns n) : ∃ l, H p = some (.lst l) := by
  obtain ⟨⟨a, l, h1, _⟩, _⟩ := h
  exact ⟨_, h1⟩
theorem Pen.dp {K : PySem.W.Frag} {H H' : Hp} {p c : Addr} {ns : List Int} {n : Nat} {v : V} {d : PyData} (h : Pen H p c ns n) (k : Kp p H H') (q : Dp K H v d) (nl : noL d = true) : Dp K H' v d := by
  obtain ⟨l, hp⟩ := h.at
  exact dp_kp k hp q nl
theorem Pen.dpAll {K : PySem.W.Frag} {H H' : Hp} {p c : Addr} {ns : List Int} {n : Nat} {v : List V} {d : List PyData} (h : Pen H p c ns n) (k : Kp p H H') (q : DpAll K H v d) (nl : noLAll d = true) : DpAll K H' v d := by
  obtain ⟨l, hp⟩ := h.at
  exact dpAll_kp k hp q nl
/-- a tuple of such data, laid anew -/
theorem dp_tup {K : PySem.W.Frag} {H : Hp} {q : Addr} {vs : List V} {ds : List PyData} (nq : H q = none) (h : DpAll K H vs ds) : Dp K (upd H q (.tup vs)) (.ref q) (.tuple ds) :=
  .tup (SqT.of upd_same) (dpAll_same (same_upd nq) h)
theorem Kp.free {p a : Addr} {H H' : Hp} (k : Kp p H H') (h : H' a = none) (ne : a ≠ p) : H a = none := by
  cases e : H a with
  | none => rfl
  | some o =>
    rw [k _ _ e ne] at h
    cases h
theorem Kp.put {p a : Addr} {H H' : Hp} {o : HO} (k : Kp p H H') (h : H a = none) : Kp p H (upd H' a o) := fun b x e n => by
  rw [upd_ne (ne_of_none e h)]
  exact k _ _ e n
theorem Pen.put {H : Hp} {p c a : Addr} {ns : List Int} {n : Nat} {o : HO} (h : Pen H p c ns n) (hp : p ≠ a) (hc : c ≠ a) : Pen (upd H a o) p c ns n := by
  obtain ⟨⟨x, y, h1, h2⟩, h3⟩ := h
  exact ⟨⟨x, y, by rw [upd_ne hp]; exact h1, h2⟩, by rw [upd_ne hc]; exact h3⟩
theorem Pen.nep {H : Hp} {p c a : Addr} {ns : List Int} {n : Nat} (h : Pen H p c ns n) (q : H a = none) : p ≠ a ∧ c ≠ a := by
  obtain ⟨⟨x, y, h1, h2⟩, h3⟩ := h
  exact ⟨ne_of_none h1 q, ne_of_none h3 q⟩
theorem dpAll_put {K : PySem.W.Frag} {H : Hp} {a : Addr} {l : List V} {o : HO} {v : List V} {d : List PyData} (h : H a = some (.lst l)) (q : DpAll K H v d) (nl : noLAll d = true) : DpAll K (upd H a o) v d := dpAll_kp (kp_upd a H o) h q nl
theorem at3 {size r : Int} (s0 : 0 ≤ size) (h0 : 0 ≤ r) (h1 : r < 3) : ∃ z, atI [V.int size, V.int (0 - size), V.int 0] r = some (.int z) ∧ -size ≤ z ∧ z ≤ size := by
  have : r = 0 ∨ r = 1 ∨ r = 2 := by omega
  rcases this with rfl | rfl | rfl
  · exact ⟨size, atI_nat (j := 0) rfl, by omega, by omega⟩
  · exact ⟨0 - size, atI_nat (j := 1) rfl, by omega, by omega⟩
  · exact ⟨0, atI_nat (j := 2) rfl, by omega, by omega⟩
theorem atI_some {xs : List V} {k : Int} (h0 : 0 ≤ k) (h1 : k < xs.length) : ∃ v, atI xs k = some v ∧ xs[k.toNat]? = some v := by
  obtain ⟨j, rfl⟩ : ∃ j : Nat, k = (j : Int) := ⟨k.toNat, by omega⟩
  have hj : j < xs.length := by omega
  exact ⟨xs[j], atI_nat (List.getElem?_eq_getElem hj), by simp [hj]⟩
theorem mem_app1 {α : Type} {P : α → Prop} {l : List α} {x : α} (h : ∀ a ∈ l, P a) (hx : P x) : ∀ a ∈ l ++ [x], P a := fun a ha => by
  rcases List.mem_append.mp ha with h' | h'
  · exact h a h'
  · rw [List.mem_singleton.mp h']
    exact hx
theorem dpAll_app1 {K : PySem.W.Frag} {H : Hp} {α : Type} {f : α → PyData} {vs : List V} {l : List α} {v : V} {x : α} (h : DpAll K H vs (l.map f)) (q : Dp K H v (f x)) : DpAll K H (vs ++ [v]) ((l ++ [x]).map f) := by
  rw [List.map_append]
  exact dpAll_app h (.cons q .nil)
theorem small_line {n : Nat} (h : n ≤ 100000) : n < sizeLine := Nat.lt_of_le_of_lt h (by decide)
def spHouse (K : PySem.W.Frag) : Sp := fun vs H Q _ => ∃ (p c : Addr) (ns : List Int) (n : Nat) (kinds asks ways size : Int), vs = [.ref p, .int kinds, .int asks, .int ways, .int size] ∧ Pen H p c ns n ∧ n + 600 < penMost ∧
  (1 ≤ kinds ∧ kinds ≤ 4) ∧ (1 ≤ asks ∧ asks ≤ 8) ∧ (1 ≤ ways ∧ ways ≤ 5) ∧ (0 ≤ size ∧ size ≤ 99) ∧
  ∀ a H' h, Kp p H H' → Pen H' p c ns (n + 600) → Dp K H' (.ref a) (houseD h) → HouseOk kinds asks ways size h → Q (.ref a) H'
section
variable {P : Program} {w : World} {K : PySem.W.Frag} {mg : Str → Option Value} {base : Heap}
theorem scHouse : FnScope ["pen", "kinds", "asks", "ways", "size", "found", "i", "ask", "k", "way", "kind", "one"] ["pen", "kinds", "asks", "ways", "size"] (defScope sHouse) := ⟨rfl, rfl, rfl, by decide +kernel, rfl, by decide +kernel, by decide +kernel⟩
theorem ok_house {f fT : Addr} {fd fdT : FuncData} {k : Nat} (F : Fun K "_law_house" "_law_house" sHouse f fd) (GT : FnOk P w K mg base CX0 (k + 2) fT fdT ["pen", "amount"] spTake) (kT : PySem.W.keepIn K (.ref fT) = true) (bT : Binds K fdT ["pen", "amount"] []) (gT : mg "_law_take" = some (.ref fT))
    (mr : mg "range" = none) (mt : mg "tuple" = none) (ml : mg "len" = none) : FnOk P w K mg base CX0 (k + 3) f fd ["pen", "kinds", "asks", "ways", "size"] (spHouse K) := by
  refine F.ok scHouse (fun vs H Q E h => ?_) (fun cdv A outer s H vs Q E hr h => ?_)
  · obtain ⟨p, c, ns, n, kinds, asks, ways, size, rfl, _⟩ := h
    rfl
  · obtain ⟨p, c, ns, n, kinds, asks, ways, size, rfl, hP, hn, ⟨k0, k1⟩, ⟨a0, a1⟩, ⟨w0, w1⟩, ⟨s0, s1⟩, q⟩ := h
    unfold penMost at hn
    refine ⟨_, pss_cons (ps_set (i := 5) scHouse.nd rfl (.inl rfl) (pe_lst pa_nil))
      (pss_cons (ps_for PassesOwn.never rfl (pi_range1 (by rfl) mr (pa_cons (pe_op op_add pe_int (pe_call GT hr (by rfl) gT kT bT .nil pass0 (pa_cons (pv 0) (pa_cons (pv 2) pa_nil)))) pa_nil)) (pg_name (i := 6) scHouse.nd rfl (.inl rfl))
        (pss_cons (ps_set (i := 7) scHouse.nd rfl (.inl rfl) (pe_lst pa_nil))
        (pss_cons (ps_for PassesOwn.never rfl (pi_range1 (by rfl) mr (pa_cons (pe_op op_add pe_int (pe_call GT hr (by rfl) gT kT bT .nil pass0 (pa_cons (pv 0) (pa_cons (pv 3) pa_nil)))) pa_nil)) (pg_name (i := 8) scHouse.nd rfl (.inl rfl))
          (pss_cons (ps_setLc (i := 9) (own := [("kind", 10)]) (g := gName 10) (tt := tYes) rfl scHouse.nd rfl rfl (sw_true rfl rfl rfl (by decide +kernel)) (pi_range1 (by rfl) mr (pa_cons (pv 1) pa_nil))
              (blkOk_by (N := ["pen", "kinds", "asks", "ways", "size", "found", "i", "ask", "k", "way", "kind", "one"]) (sc := defScope sHouse) (by decide +kernel)) (fun _ _ _ _ _ => by exact pg_name (i := 10) scHouse.nd rfl (.inl rfl)) (fun _ _ _ _ _ => pts_nil)
              (fun _ _ _ _ _ => by exact pe_op op_sub (pe_call GT hr (by rfl) gT kT bT .nil pass0 (pa_cons (pv 0) (pa_cons (pe_op op_add (pe_op op_mul pe_int (pv 4)) pe_int) pa_nil))) (pv 4)))
          (pss_cut (ps_if (pt_cmpR op_eq (pe_call GT hr (by rfl) gT kT bT .nil pass0 (pa_cons (pv 0) (pa_cons pe_int pa_nil))) pe_int (nomark _))
              (pss_one (ps_asg (pe_ix ix_list (pe_lst (pa_cons (pv 4) (pa_cons (pe_op op_sub pe_int (pv 4)) (pa_cons pe_int pa_nil)))) (pe_call GT hr (by rfl) gT kT bT .nil pass0 (pa_cons (pv 0) (pa_cons pe_int pa_nil))) (fun _ _ => rfl))
                (pg_sub (pv 9) (pe_call GT hr (by rfl) gT kT bT .nil pass0 (pa_cons (pv 0) (pa_cons (pv 1) pa_nil))) set_list))) pss_nil)
          (pss_one (ps_expr (pe_bm PySem.F.plainAttrs_list PySem.F.slot_list_append PySem.F.type_list_append mt_append (pv 7) (pa_cons (pe_callTy call_tuple_of (by rfl) mt (by decide +kernel) (pa_cons (pv 9) pa_nil)) pa_nil)))))))
        (pss_cut (ps_if (PW.pt (pw_and (pt_cmpR op_eq (pe_call GT hr (by rfl) gT kT bT .nil pass0 (pa_cons (pv 0) (pa_cons pe_int pa_nil))) pe_int (nomark _)) (pw_and1 (pt_cmpR op_lt (pe_callB call_len_seq (by rfl) ml PySem.boot_len (pa_cons (pv 7) pa_nil)) pe_int (nomark _)))))
            (pss_one (ps_expr (pe_bm PySem.F.plainAttrs_list PySem.F.slot_list_append PySem.F.type_list_append mt_append (pv 7) (pa_cons (pe_callTy call_tuple_of (by rfl) mt (by decide +kernel) (pa_cons
              (pe_lc (own := [("one", 11)]) (g := gName 11) (tt := tYes) rfl scHouse.nd (pi_tup (pe_ix ix_list (pv 7) (pe_call GT hr (by rfl) gT kT bT .nil pass0 (pa_cons (pv 0) (pa_cons (pe_callB call_len_seq (by rfl) ml PySem.boot_len (pa_cons (pv 7) pa_nil)) pa_nil))) (fun _ _ => rfl)))
                (blkOk_by (N := ["pen", "kinds", "asks", "ways", "size", "found", "i", "ask", "k", "way", "kind", "one"]) (sc := defScope sHouse) (by decide +kernel)) (fun _ _ _ _ _ => by exact pg_name (i := 11) scHouse.nd rfl (.inl rfl)) (fun _ _ _ _ _ => pts_nil)
                (fun _ _ _ _ _ => by exact pe_op op_sub pe_int (pv 11))) pa_nil)) pa_nil)))) pss_nil)
        (pss_one (ps_expr (pe_bm PySem.F.plainAttrs_list PySem.F.slot_list_append PySem.F.type_list_append mt_append (pv 5) (pa_cons (pe_callTy call_tuple_of (by rfl) mt (by decide +kernel) (pa_cons (pv 7) pa_nil)) pa_nil))))))))
      (pss_one (ps_ret (pe_callTy call_tuple_of (by rfl) mt (by decide +kernel) (pa_cons (pv 5) pa_nil))))), ?_⟩
    have npc : ∀ {H' : Hp} {m : Nat} {a : Addr}, Pen H' p c ns m → H' a = none → p ≠ a ∧ c ≠ a := fun h q => h.nep q
    -- found = []
    refine ⟨by show 0 ≤ sizeLine; decide, fun F nF => ?_⟩
    have sF := same_upd (o := .lst []) nF
    obtain ⟨npF, ncF⟩ := hP.nep nF
    refine ⟨_, rfl, _, rfl, p, c, ns, n, asks, rfl, hP.same sF, by unfold penMost; omega, a0, by omega, fun r H1 r0 r1 kp1 P1 => ?_⟩
    refine ⟨1, r, rfl, rfl, _, rfl, by omega, by omega, ?_⟩
    refine for_range (lo := 0) (n := (1 + r).toNat) (fun i σ H2 => ∃ (y6 y7 y8 y9 : Option V) (fs : List V) (hs : List (List (List Int))), σ = [some (.ref p), some (.int kinds), some (.int asks), some (.int ways), some (.int size), some (.ref F), y6, y7, y8, y9, none, none] ∧
      Kp p H H2 ∧ Pen H2 p c ns (n + 1 + 60 * i) ∧ H2 F = some (.lst fs) ∧ DpAll K H2 fs (hs.map askD) ∧ hs.length = i ∧ ∀ a ∈ hs, AskOk kinds ways size a)
      ⟨none, none, none, none, [], [], rfl, sF.kp.trans kp1, P1, kp1 _ _ upd_same npF.symm, .nil, rfl, by simp⟩ ?_ ?_
    · rintro i σ H2 hi ⟨y6, y7, y8, y9, fs, hs, rfl, kp2, P2, hF, dF, lF, okF⟩
      have hi8 : i < 8 := by omega
      -- ask = []
      refine ⟨by show 0 ≤ sizeLine; decide, fun A nA => ?_⟩
      have sA := same_upd (o := .lst []) nA
      obtain ⟨npA, ncA⟩ := P2.nep nA
      have nFA : F ≠ A := ne_of_none hF nA
      have nHA : H A = none := kp2.free nA npA.symm
      refine ⟨_, rfl, _, rfl, p, c, ns, _, ways, rfl, P2.same sA, by unfold penMost; omega, w0, by omega, fun r' H3 r0' r1' kp3 P3 => ?_⟩
      refine ⟨1, r', rfl, rfl, _, rfl, by omega, by omega, ?_⟩
      refine for_range (lo := 0) (n := (1 + r').toNat) (fun j σ H4 => ∃ (y8 y9 : Option V) (ws : List V) (ls : List (List Int)), σ = [some (.ref p), some (.int kinds), some (.int asks), some (.int ways), some (.int size), some (.ref F), some (.int (0 + (i : Int))), some (.ref A), y8, y9, none, none] ∧
        Kp p H H4 ∧ Pen H4 p c ns (n + 2 + 60 * i + 10 * j) ∧ H4 F = some (.lst fs) ∧ DpAll K H4 fs (hs.map askD) ∧ H4 A = some (.lst ws) ∧ DpAll K H4 ws (ls.map wayD) ∧ ls.length = j ∧ ∀ l ∈ ls, WayOk kinds size l)
        ⟨y8, y9, [], [], rfl, (kp2.same sA).trans kp3, P3.mono (by omega), kp3 _ _ (sA _ _ hF) npF.symm, (P2.same sA).dpAll kp3 (dpAll_same sA dF) (noLAll_map noL_ask hs), kp3 _ _ upd_same npA.symm, .nil, rfl, by simp⟩ ?_ ?_
      · rintro j σ H4 hj ⟨y8, y9, ws, ls, rfl, kp4, P4, hF4, dF4, hA4, dA4, lA, okA⟩
        have hj5 : j < 5 := by omega
        -- way = [.. for kind in range(kinds)]
        refine ⟨_, rfl, kinds, rfl, by omega, by omega, fun D nD => ?_⟩
        have sD := same_upd (o := .lst []) nD
        obtain ⟨npD, ncD⟩ := P4.nep nD
        refine lc_range (lo := 0) (n := kinds.toNat) (fun t H5 => Kp p H4 H5 ∧ Pen H5 p c ns (n + 2 + 60 * i + 10 * j + t) ∧ ∃ xs : List Int, H5 D = some (.lst (xs.map V.int)) ∧ xs.length = t ∧ ∀ x ∈ xs, -size ≤ x ∧ x ≤ size)
          ⟨sD.kp, P4.same sD, [], upd_same, rfl, by simp⟩ ?_ ?_
        · rintro t H5 ht ⟨kp5, P5, xs, hD, lx, bx⟩
          refine ⟨rfl, ?_⟩
          refine ⟨_, rfl, _, rfl, 2, size, rfl, rfl, .inl ⟨by decide, by decide⟩, _, 1, rfl, rfl, p, c, ns, _, _, rfl, P5, by unfold penMost; omega, by omega, by omega, fun z H6 z0 z1 kp6 P6 => ?_⟩
          refine ⟨_, rfl, z, size, rfl, rfl, _, kp6 _ _ hD npD.symm, by rw [List.length_map]; exact small_line (by omega), ?_⟩
          refine ⟨(kp5.trans kp6).put nD, P6.put npD ncD, xs ++ [z - size], ?_, by rw [List.length_append, lx]; rfl, mem_app1 bx ⟨by omega, by omega⟩⟩
          rw [upd_same, List.map_append]
          rfl
        · rintro H5 ⟨kp5, P5, xs, hD, lx, bx⟩
          have okx : WayOk kinds size xs := ⟨by omega, bx⟩
          -- now and then a number otherwise
          refine ⟨fun σ H6 => ∃ xs : List Int, σ = [some (.ref p), some (.int kinds), some (.int asks), some (.int ways), some (.int size), some (.ref F), some (.int (0 + (i : Int))), some (.ref A), some (.int (0 + (j : Int))), some (.ref D), none, none] ∧
            Kp p H4 H6 ∧ Pen H6 p c ns (n + 2 + 60 * i + 10 * j + 8) ∧ H6 D = some (.lst (xs.map V.int)) ∧ WayOk kinds size xs, ?_, ?_⟩
          · refine ⟨_, rfl, p, c, ns, _, 6, rfl, P5, by unfold penMost; omega, by decide, by decide, fun z H6 z0 z1 kp6 P6 => ?_⟩
            have hD6 := kp6 _ _ hD npD.symm
            refine ⟨rfl, _, rfl, ite2 (fun _ => ?_) (fun _ => ?_)⟩
            · refine ⟨_, rfl, _, rfl, 0, size, rfl, rfl, by show 3 ≤ sizeLine; decide, fun L nL => ?_⟩
              have sL := same_upd (o := .lst [V.int size, V.int (0 - size), V.int 0]) nL
              have nDL : D ≠ L := ne_of_none hD6 nL
              obtain ⟨npL, ncL⟩ := P6.nep nL
              refine ⟨_, rfl, p, c, ns, _, 3, rfl, P6.same sL, by unfold penMost; omega, by decide, by decide, fun z2 H7 z20 z21 kp7 P7 => ?_⟩
              obtain ⟨u, hu, u0, u1⟩ := at3 s0 z20 z21
              refine ⟨L, _, z2, _, rfl, rfl, SqL.of (kp7 _ _ upd_same npL.symm), hu, ?_⟩
              refine ⟨_, rfl, _, rfl, _, rfl, p, c, ns, _, kinds, rfl, P7, by unfold penMost; omega, k0, by omega, fun z3 H8 z30 z31 kp8 P8 => ?_⟩
              have hD8 := kp8 _ _ (kp7 _ _ (sL _ _ hD6) npD.symm) npD.symm
              refine ⟨D, _, z3, _, rfl, rfl, hD8, ixN_of z30 (by rw [List.length_map, lx]; omega), ?_⟩
              refine ⟨xs.set z3.toNat u, rfl, ((((kp5.trans kp6).same sL).trans kp7).trans kp8).put nD, (P8.put npD ncD).mono (by omega), ?_, ⟨by rw [List.length_set]; exact okx.len, fun x hx => ?_⟩⟩
              · rw [upd_same, List.map_set]
              · rcases List.mem_or_eq_of_mem_set hx with h | h
                · exact bx x h
                · rw [h]
                  exact ⟨u0, u1⟩
            · exact ⟨xs, rfl, kp5.trans kp6, P6.mono (by omega), hD6, okx⟩
          · rintro σ H6 ⟨xs, rfl, kp6, P6, hD6, okx⟩
            -- ask.append(tuple(way))
            have hA6 := kp6 _ _ hA4 npA.symm
            refine ⟨_, rfl, .inl ⟨rfl, _, SqL.of hA6⟩, _, rfl, D, _, rfl, .inl ⟨SqL.of hD6, fun W nW => ?_⟩⟩
            have sW := same_upd (o := .tup (xs.map V.int)) nW
            have dW : Dp K (upd H6 W (.tup (xs.map V.int))) (.ref W) (wayD xs) := dp_tup nW (dpAll_ints xs)
            have hAW := sW _ _ hA6
            refine ⟨A, ws, _, rfl, rfl, hAW, small_line (by rw [dpAll_len dA4, List.length_map]; omega), ?_⟩
            refine ⟨_, _, ws ++ [.ref W], ls ++ [xs], rfl, (kp4.trans (kp6.same sW)).put nHA, ((P6.same sW).put npA ncA).mono (by omega), ?_, ?_, upd_same, ?_, by rw [List.length_append, lA]; rfl, mem_app1 okA okx⟩
            · rw [upd_ne nFA]
              exact sW _ _ (kp6 _ _ hF4 npF.symm)
            · exact dpAll_put hAW (dpAll_same sW (P4.dpAll kp6 dF4 (noLAll_map noL_ask hs))) (noLAll_map noL_ask hs)
            · exact dpAll_put hAW (dpAll_app1 (dpAll_same sW (P4.dpAll kp6 dA4 (noLAll_map noL_way ls))) dW) (noLAll_map noL_way _)
      · rintro σ H4 ⟨y8', y9', ws, ls, rfl, kp4, P4, hF4, dF4, hA4, dA4, lA, okA⟩
        have l1 : 1 ≤ ls.length := by omega
        have l5 : ls.length ≤ 5 := by omega
        have lw : (ls.length : Int) ≤ ways := by omega
        -- now and then one turned about
        refine ⟨fun σ H5 => ∃ (ws : List V) (ls : List (List Int)), σ = [some (.ref p), some (.int kinds), some (.int asks), some (.int ways), some (.int size), some (.ref F), some (.int (0 + (i : Int))), some (.ref A), y8', y9', none, none] ∧
          Kp p H H5 ∧ Pen H5 p c ns (n + 2 + 60 * i + 55) ∧ H5 F = some (.lst fs) ∧ DpAll K H5 fs (hs.map askD) ∧ H5 A = some (.lst ws) ∧ DpAll K H5 ws (ls.map wayD) ∧ AskOk kinds ways size ls, ?_, ?_⟩
        · refine ⟨_, rfl, p, c, ns, _, 3, rfl, P4, by unfold penMost; omega, by decide, by decide, fun z H5 z0 z1 kp5 P5 => ?_⟩
          have hA5 := kp5 _ _ hA4 npA.symm
          have hF5 := kp5 _ _ hF4 npF.symm
          have dF5 := P4.dpAll kp5 dF4 (noLAll_map noL_ask hs)
          have dA5 := P4.dpAll kp5 dA4 (noLAll_map noL_way ls)
          refine ⟨rfl, _, rfl, ite2 (fun _ => ?_) (fun _ => ?_)⟩
          · refine ⟨_, rfl, A, ws, rfl, .inl (SqL.of hA5), _, 5, rfl, rfl, _, rfl, ite2 (fun hl => ?_) (fun _ => ?_)⟩
            · have hl := of_decide_eq_true hl
              have lws : ws.length = ls.length := by rw [dpAll_len dA4, List.length_map]
              refine ⟨_, rfl, .inl ⟨rfl, _, SqL.of hA5⟩, _, rfl, _, rfl, _, rfl, A, ws, rfl, .inl (SqL.of hA5), p, c, ns, _, _, rfl, P5, by unfold penMost; omega, by omega, by omega, fun z2 H6 z20 z21 kp6 P6 => ?_⟩
              have hA6 := kp6 _ _ hA5 npA.symm
              have dA6 := P5.dpAll kp6 dA5 (noLAll_map noL_way ls)
              obtain ⟨v, hv, hv2⟩ := atI_some z20 z21
              obtain ⟨d, hd, hdp⟩ := dpAll_get dA6 hv2
              rw [List.getElem?_map] at hd
              obtain ⟨xs, hx, rfl⟩ := Option.map_eq_some_iff.mp hd
              cases hdp with
              | @tup ta vs' _ hT hall =>
                obtain rfl := ints_of_dp hall
                refine ⟨A, ws, z2, _, rfl, rfl, SqL.of hA6, hv, ta, rfl, ⟨_, hT⟩, fun D nD => ?_⟩
                have sD := same_upd (o := .lst []) nD
                refine lc_tup (K := K) (a := ta) (xs := xs.map V.int) (fun t H7 => Same H6 H7 ∧ H7 D = some (.lst ((xs.take t).map fun x => V.int (0 - x)))) ⟨sD, upd_same⟩ (fun t H7 _ ⟨s7, _⟩ => s7.seqT hT) ?_ ?_
                · rintro t v H7 hv3 ⟨s7, hD7⟩
                  obtain ⟨y, hy, rfl⟩ := ints_get hv3
                  refine ⟨rfl, _, rfl, 0, y, rfl, rfl, _, hD7, ?_, ?_, ?_⟩
                  · rw [List.length_map, List.length_take]
                    have okl := okA xs (List.mem_of_getElem? hx)
                    have := okl.len
                    exact small_line (by omega)
                  · intro b o e
                    rw [upd_ne (ne_of_none e nD)]
                    exact s7 _ _ e
                  · rw [upd_same, List.take_add_one, hy, List.map_append]
                    rfl
                · rintro H7 ⟨s7, hD7⟩
                  rw [List.length_map, List.take_length] at hD7
                  have okl := okA xs (List.mem_of_getElem? hx)
                  have hA7 := s7 _ _ hA6
                  refine ⟨D, _, rfl, .inl ⟨SqL.of hD7, fun W nW => ?_⟩⟩
                  have sW := same_upd (o := .tup (xs.map fun x => V.int (0 - x))) nW
                  have s8 := s7.trans sW
                  have eW : (xs.map fun x => V.int (0 - x)) = (xs.map fun x => 0 - x).map V.int := by rw [List.map_map]; rfl
                  have dW : Dp K (upd H7 W (.tup (xs.map fun x => V.int (0 - x)))) (.ref W) (wayD (xs.map fun x => 0 - x)) := dp_tup nW (by rw [eW]; exact dpAll_ints _)
                  have hA8 := sW _ _ hA7
                  refine ⟨A, ws, _, rfl, rfl, hA8, small_line (by omega), ?_⟩
                  have okn : WayOk kinds size (xs.map fun x => 0 - x) := ⟨by rw [List.length_map]; exact okl.len, fun x hx => by
                    obtain ⟨y, hy, rfl⟩ := List.mem_map.mp hx
                    have := okl.all y hy
                    exact ⟨by omega, by omega⟩⟩
                  refine ⟨ws ++ [.ref W], ls ++ [xs.map fun x => 0 - x], rfl, (((kp4.trans kp5).trans kp6).same s8).put nHA, ((P6.same s8).put npA ncA).mono (by omega), ?_, ?_, upd_same, ?_, ⟨?_, ?_, ?_, mem_app1 okA okn⟩⟩
                  · rw [upd_ne nFA]
                    exact s8 _ _ (kp6 _ _ hF5 npF.symm)
                  · exact dpAll_put hA8 (dpAll_same s8 (P5.dpAll kp6 dF5 (noLAll_map noL_ask hs))) (noLAll_map noL_ask hs)
                  · exact dpAll_put hA8 (dpAll_app1 (dpAll_same s8 dA6) dW) (noLAll_map noL_way _)
                  · rw [List.length_append]
                    omega
                  · rw [List.length_append]
                    show ls.length + 1 ≤ 5
                    omega
                  · rw [List.length_append]
                    show ((ls.length + 1 : Nat) : Int) ≤ ways + 1
                    omega
            · exact ⟨ws, ls, rfl, kp4.trans kp5, P5.mono (by omega), hF5, dF5, hA5, dA5, ⟨l1, l5, by omega, okA⟩⟩
          · exact ⟨ws, ls, rfl, kp4.trans kp5, P5.mono (by omega), hF5, dF5, hA5, dA5, ⟨l1, l5, by omega, okA⟩⟩
        · rintro σ H5 ⟨ws, ls, rfl, kp5, P5, hF5, dF5, hA5, dA5, okL⟩
          -- found.append(tuple(ask))
          refine ⟨_, rfl, .inl ⟨rfl, _, SqL.of hF5⟩, _, rfl, A, _, rfl, .inl ⟨SqL.of hA5, fun W nW => ?_⟩⟩
          have sW := same_upd (o := .tup ws) nW
          have dW : Dp K (upd H5 W (.tup ws)) (.ref W) (askD ls) := dp_tup nW dA5
          have hFW := sW _ _ hF5
          refine ⟨F, fs, _, rfl, rfl, hFW, small_line (by rw [dpAll_len dF5, List.length_map]; omega), ?_⟩
          refine ⟨_, _, _, _, fs ++ [.ref W], hs ++ [ls], rfl, (kp5.same sW).put ?_, ((P5.same sW).put npF ncF).mono (by omega), upd_same, ?_, by rw [List.length_append, lF]; rfl, mem_app1 okF okL⟩
          · exact nF
          · exact dpAll_put hFW (dpAll_app1 (dpAll_same sW dF5) dW) (noLAll_map noL_ask _)
    · rintro σ H2 ⟨y6, y7, y8, y9, fs, hs, rfl, kp2, P2, hF, dF, lF, okF⟩
      refine ⟨_, rfl, F, _, rfl, .inl ⟨SqL.of hF, fun W nW => ?_⟩⟩
      have sW := same_upd (o := .tup fs) nW
      exact q W _ hs (kp2.same sW) ((P2.same sW).mono (by omega)) (dp_tup nW dF) ⟨by omega, by omega, okF⟩
end
/-! ### what the functions on four numbers speak of (no def of the program) -/
abbrev stsD (S : List (List Int)) : PyData := .list (S.map wayD)
theorem way_of {K : PySem.W.Frag} {H : Hp} {v : V} {l : List Int} (h : Dp K H v (wayD l)) : ∃ a, v = .ref a ∧ SqT K H a (l.map V.int) := by
  cases h with
  | @tup a vs _ hT hall =>
    obtain rfl := ints_of_dp hall
    exact ⟨a, rfl, hT⟩
theorem of_way {K : PySem.W.Frag} {H : Hp} {a : Addr} {l : List Int} (h : SqT K H a (l.map V.int)) : Dp K H (.ref a) (wayD l) := .tup h (dpAll_ints l)
theorem sts_of {K : PySem.W.Frag} {H : Hp} {v : V} {S : List (List Int)} (h : Dp K H v (stsD S)) : ∃ l vs, v = .ref l ∧ SqL K H l vs ∧ DpAll K H vs (S.map wayD) := by
  cases h with
  | @lst a vs _ hL hall => exact ⟨a, vs, rfl, hL, hall⟩
theorem sts_get {K : PySem.W.Frag} {H : Hp} {vs : List V} {S : List (List Int)} {j : Nat} {v : V} (h : DpAll K H vs (S.map wayD)) (e : vs[j]? = some v) : ∃ t, S[j]? = some t ∧ Dp K H v (wayD t) := by
  obtain ⟨d, hd, dv⟩ := dpAll_get h e
  rw [List.getElem?_map] at hd
  obtain ⟨t, ht, rfl⟩ := Option.map_eq_some_iff.mp hd
  exact ⟨t, ht, dv⟩
theorem sts_len {K : PySem.W.Frag} {H : Hp} {vs : List V} {S : List (List Int)} (h : DpAll K H vs (S.map wayD)) : vs.length = S.length := by rw [dpAll_len h, List.length_map]
theorem four_of {l : List Int} (h : l.length = 4) : ∃ a b c d, l = [a, b, c, d] := by
  match l, h with
  | [a, b, c, d], _ => exact ⟨a, b, c, d, rfl⟩
theorem take_snoc {α : Type} {l : List α} {j : Nat} {x : α} (h : l[j]? = some x) : l.take (j + 1) = l.take j ++ [x] := by
  rw [List.take_succ, h]
  rfl
theorem take_all {α β : Type} {l : List α} {m : List β} (h : m.length = l.length) : l.take m.length = l := by rw [h, List.take_length]
theorem maxI (i j : Int) : (if j > i then j else i) = max i j := by
  split <;> omega
/-- with noughts behind -/
def four (l : List Int) : List Int := l ++ List.replicate (4 - l.length) 0
theorem ok4_len {x : List Int} (h : Ok4 x) : x.length = 4 := by
  obtain ⟨a, b, c, d, rfl, _⟩ := h
  rfl
theorem noL_app (A B : List (List Int)) : noLAll (A.map wayD ++ B.map wayD) = true := by
  rw [← List.map_append]
  exact noLAll_map noL_way _
/-- a list of tuples, with their addresses -/
theorem sts_refs {K : PySem.W.Frag} {H : Hp} : ∀ {vs : List V} {S : List (List Int)}, DpAll K H vs (S.map wayD) → ∃ ks : List (Addr × List Int), vs = ks.map (fun p => V.ref p.1) ∧ ks.map (·.2) = S ∧ ∀ p ∈ ks, SqT K H p.1 (p.2.map V.int)
  | _, [], .nil => ⟨[], rfl, rfl, fun _ h => nomatch h⟩
  | _, t :: S, .cons q r => by
    obtain ⟨a, rfl, hT⟩ := way_of q
    obtain ⟨ks, e1, e2, e3⟩ := sts_refs r
    refine ⟨(a, t) :: ks, by rw [List.map_cons, e1], by rw [List.map_cons, e2], fun p hp => ?_⟩
    rcases List.mem_cons.mp hp with rfl | hp
    · exact hT
    · exact e3 p hp
theorem refs_sts {K : PySem.W.Frag} {H : Hp} : ∀ {ks : List (Addr × List Int)}, (∀ p ∈ ks, SqT K H p.1 (p.2.map V.int)) → DpAll K H (ks.map fun p => V.ref p.1) ((ks.map (·.2)).map wayD)
  | [], _ => .nil
  | p :: ks, h => .cons (of_way (h p List.mem_cons_self)) (refs_sts fun q hq => h q (List.mem_cons_of_mem _ hq))
theorem bothL_snoc (A B : List (List Int)) (x : List Int) : bothL (A ++ [x]) B = bothL A B ++ (if anyLe x B then [x] else B.map (join4 x)) := by
  unfold bothL
  rw [List.flatMap_append, List.flatMap_cons, List.flatMap_nil, List.append_nil]
/-! ### the functions on asks -/
/-- a walk by an invariant, whatever a turn is -/
theorem walk_gen {J : It} {n : Nat} {G : Hp → Prop} {Y : Nat → Hp → V → Hp → Prop} (w : Walk J n G Y) {H0 : Hp} {Qd : Hp → Prop} (T : V → Hp → (Hp → Prop) → Prop) (Pv : Nat → Hp → Prop) (h0 : Pv 0 H0) (hG : ∀ i H, i ≤ n → Pv i H → G H)
    (hs : ∀ i x H H', i < n → Pv i H → Y i H x H' → T x H' (Pv (i + 1))) (hd : ∀ H, Pv n H → Qd H) :
    ∃ W : Nat → Nat → Hp → Prop, (∃ m, W 0 m H0) ∧ ∀ i m H, W i m H → (J.stop i H ∧ Qd H) ∨ (J.go i H ∧ ∃ Nx : Hp → Prop, (∀ H', Nx H' → ∃ m', m' < m ∧ W (i + 1) m' H') ∧ ∀ x H', J.yld i H x H' → T x H' Nx) := by
  refine ⟨fun i m H => m = n - i ∧ i ≤ n ∧ Pv i H, ⟨n, by simp, Nat.zero_le _, h0⟩, ?_⟩
  rintro i m H ⟨rfl, hi, p⟩
  have q := hG i H hi p
  by_cases lt : i < n
  · exact .inr ⟨w.goes i H lt q, Pv (i + 1), fun H' p' => ⟨n - (i + 1), by omega, rfl, lt, p'⟩, fun x H' y => hs i x H H' lt p (w.yields i H x H' lt q y)⟩
  · obtain rfl : i = n := by omega
    exact .inl ⟨w.stops H q, hd H p⟩
abbrev asksD (h : Asks) : PyData := .list (h.map stsD)
def rTupOf (K : PySem.W.Frag) : List V → Hp → VK → Prop := fun xs H Q => ∃ p ys, xs = [.ref p] ∧ ((SqL K H p ys ∧ ∀ l, H l = none → Q (.ref l) (upd H l (.tup ys))) ∨ (SqT K H p ys ∧ Q (.ref p) H))
abbrev lcSc (ns : List (Str × NameKind)) : Scope := { kind := .function, names := ns, isGenerator := false, isCoroutine := false }
def lcScope : Expr → Scope
  | .ListComp _ _ sc _ => sc
  | _ => { kind := .function, names := [], isGenerator := false, isCoroutine := false }
def retE (s : Stmt) : Expr := match defBody s with
  | [.Return (some e) _] => e
  | _ => .Constant .none 0 ⟨0, 0, 0, 0⟩
/-- the heap without a -/
def rmv (H : Hp) (a : Addr) : Hp := fun b => if b = a then none else H b
theorem rmv_ne {H : Hp} {a b : Addr} (h : b ≠ a) : rmv H a b = H b := if_neg h
theorem rmv_kp (H : Hp) (a : Addr) : Kp a H (rmv H a) := fun b o e n => by rw [rmv_ne n]; exact e
theorem rmv_some {H : Hp} {a b : Addr} {o : HO} (e : rmv H a b = some o) : b ≠ a ∧ H b = some o := by
  by_cases h : b = a
  · rw [h, show rmv H a a = none from if_pos rfl] at e
    cases e
  · rw [rmv_ne h] at e
    exact ⟨h, e⟩
theorem rmv_same {H H' : Hp} {a : Addr} (k : ∀ b o, b ≠ a → H b = some o → H' b = some o) : Same (rmv H a) H' := fun b o e => k b o (rmv_some e).1 (rmv_some e).2
theorem rmv_rmv {H H' : Hp} {a : Addr} (k : ∀ b o, b ≠ a → H b = some o → H' b = some o) : Same (rmv H a) (rmv H' a) := fun b o e => by
  obtain ⟨n, e⟩ := rmv_some e
  rw [rmv_ne n]
  exact k b o n e
theorem flat_len {l B : List (List Int)} : (l.flatMap fun w => B.map (need4 w)).length = l.length * B.length := by
  induction l with
  | nil => simp
  | cons w l ih =>
    rw [List.flatMap_cons, List.length_append, List.length_map, ih, List.length_cons, Nat.succ_mul]
    omega
/-! ### one ask more -/
theorem perm_lift {α β : Type} (f : α → β) : ∀ {l : List β} {t : List α}, l.Perm (t.map f) → ∃ t' : List α, t'.Perm t ∧ t'.map f = l
  | [], t, h => by
    have e : t = [] := by
      have := h.length_eq
      rw [List.length_nil, List.length_map] at this
      exact List.eq_nil_of_length_eq_zero this.symm
    exact ⟨[], by rw [e], rfl⟩
  | b :: l, t, h => by
    have hb : b ∈ t.map f := h.mem_iff.mp List.mem_cons_self
    obtain ⟨a, ha, rfl⟩ := List.mem_map.mp hb
    obtain ⟨t1, t2, rfl⟩ := List.append_of_mem ha
    have h2 : (f a :: l).Perm (f a :: (t1 ++ t2).map f) := by
      refine h.trans ?_
      rw [List.map_append, List.map_cons, List.map_append]
      exact List.perm_middle
    obtain ⟨t', p, e⟩ := perm_lift f (List.Perm.cons_inv h2)
    exact ⟨a :: t', (p.cons a).trans List.perm_middle.symm, by rw [List.map_cons, e]⟩
theorem ways_flat : ∀ ns : List Int, PyData.depthAll (ns.map PyData.int) ≤ 1 ∧ PyData.canLayAll0 (ns.map PyData.int) = true
  | [] => ⟨Nat.zero_le _, rfl⟩
  | n :: ns => by
    obtain ⟨h1, h2⟩ := ways_flat ns
    refine ⟨?_, by simp [PyData.canLayAll0, PyData.canLay0, h2]⟩
    show max (PyData.depth (.int n)) (PyData.depthAll (ns.map PyData.int)) ≤ 1
    have e : PyData.depth (.int n) ≤ 1 := by simp [PyData.depth]
    omega
theorem sts_flat : ∀ S : List (List Int), PyData.depthAll (S.map wayD) ≤ 3 ∧ PyData.canLayAll0 (S.map wayD) = true
  | [] => ⟨Nat.zero_le _, rfl⟩
  | t :: S => by
    obtain ⟨h1, h2⟩ := sts_flat S
    obtain ⟨w1, w2⟩ := ways_flat t
    refine ⟨?_, by simp [PyData.canLayAll0, PyData.canLay0, wayD, h2, w2]⟩
    show max (PyData.depth (wayD t)) (PyData.depthAll (S.map wayD)) ≤ 3
    have e : PyData.depth (wayD t) ≤ 3 := by
      unfold wayD
      simp only [PyData.depth]
      omega
    omega
theorem sts_shaped (S : List (List Int)) : SeqAt.shaped (stsD S) = true := by
  obtain ⟨h1, h2⟩ := sts_flat S
  unfold SeqAt.shaped
  rw [Bool.and_eq_true, decide_eq_true_iff]
  refine ⟨by simp only [PyData.canLay0]; exact h2, ?_⟩
  simp only [PyData.depth]
  omega
theorem eqv_ints : ∀ l m : List Int, PyData.eqvAll (l.map PyData.int) (m.map PyData.int) = true → l = m
  | [], [], _ => rfl
  | [], _ :: _, h => by simp [PyData.eqvAll] at h
  | _ :: _, [], h => by simp [PyData.eqvAll] at h
  | a :: l, b :: m, h => by
    simp only [List.map_cons, PyData.eqvAll, PyData.eqv, Bool.and_eq_true, beq_iff_eq] at h
    rw [h.1, eqv_ints l m h.2]
theorem eqv_stsA : ∀ S T : List (List Int), PyData.eqvAll (S.map wayD) (T.map wayD) = true → S = T
  | [], [], _ => rfl
  | [], _ :: _, h => by simp [PyData.eqvAll] at h
  | _ :: _, [], h => by simp [PyData.eqvAll] at h
  | a :: l, b :: m, h => by
    simp only [List.map_cons, PyData.eqvAll, Bool.and_eq_true] at h
    have e : a = b := eqv_ints a b (by have := h.1; unfold wayD at this; simpa only [PyData.eqv] using this)
    rw [e, eqv_stsA l m h.2]
theorem eqv_sts {S T : List (List Int)} (h : PyData.eqv (stsD S) (stsD T) = true) : S = T := eqv_stsA S T (by simpa only [PyData.eqv] using h)
theorem cut_take {l : List Int} {k : Nat} (h : k ≤ l.length) : cutV (l.map V.int) none (some (k : Int)) = (l.take k).map V.int := by
  unfold cutV
  rw [show HT.sIx (l.map V.int).length (l.map V.int).length (some (k : Int)) = min k (l.map V.int).length from HT.sIx_nat _ _ k, HT.sIx_none, List.map_take, List.drop_zero, Nat.sub_zero, Nat.min_eq_left (by rw [List.length_map]; exact h)]
def asks4 (h : Asks) : Asks := h.map fun a => a.map four
theorem four_len {l : List Int} (h : l.length ≤ 4) : (four l).length = 4 := by
  unfold four
  rw [List.length_append, List.length_replicate]
  omega
structure HsOk (h : Asks) (kd : Nat) : Prop where
  ne : ∃ a0 w0, h[0]? = some a0 ∧ a0[0]? = some w0
  k1 : 1 ≤ kd
  k4 : kd ≤ 4
  len : ∀ a ∈ h, ∀ l ∈ a, l.length = kd
  five : ∀ a ∈ h, a.length ≤ 5
  few : h.length ≤ 100
theorem HsOk.asks {h : Asks} {kd : Nat} (o : HsOk h kd) : (∀ a ∈ asks4 h, a.length ≤ 5 ∧ ∀ w ∈ a, w.length = 4) ∧ (asks4 h).length ≤ 1000 := by
  refine ⟨fun a ha => ?_, by unfold asks4; rw [List.length_map]; have := o.few; omega⟩
  obtain ⟨b, hb, rfl⟩ := List.mem_map.mp ha
  refine ⟨by rw [List.length_map]; exact o.five b hb, fun w hw => ?_⟩
  obtain ⟨l, hl, rfl⟩ := List.mem_map.mp hw
  exact four_len (by rw [o.len b hb l hl]; exact o.k4)
theorem four_ok {s : List Int} (h1 : 1 ≤ s.length) (h4 : s.length ≤ 4) (h0 : ∀ z ∈ s, 0 ≤ z) : Ok4 (four s) := by
  match s, h1, h4, h0 with
  | [a], _, _, h => exact ⟨a, 0, 0, 0, rfl, h a (by simp), by decide, by decide, by decide⟩
  | [a, b], _, _, h => exact ⟨a, b, 0, 0, rfl, h a (by simp), h b (by simp), by decide, by decide⟩
  | [a, b, c], _, _, h => exact ⟨a, b, c, 0, rfl, h a (by simp), h b (by simp), h c (by simp), by decide⟩
  | [a, b, c, d], _, _, h => exact ⟨a, b, c, d, rfl, h a (by simp), h b (by simp), h c (by simp), h d (by simp)⟩
  | _ :: _ :: _ :: _ :: _ :: _, _, h, _ => simp at h
theorem nothing_at {K : PySem.W.Frag} {an : Addr} {o : Obj} {its : Array Value} {nn : Nat} {t0 t1 t2 t3 : Tok} (l : K.lookup an = some o) (hc : o.cls = .type "tuple") (hd : o.data = .seq #[.int 0 t0, .int 0 t1, .int 0 t2, .int 0 t3] nn) (H : Hp) : Dp K H (.ref an) (wayD [0, 0, 0, 0]) :=
  of_way (.inr ⟨o, _, nn, l, hc, hd, by show 4 ≤ sizeLine; rw [sizeLine_eq]; omega, .cons ⟨_, rfl⟩ (.cons ⟨_, rfl⟩ (.cons ⟨_, rfl⟩ (.cons ⟨_, rfl⟩ .nil)))⟩)
/-! ### max of a tuple of ints -/
def rMaxT (K : PySem.W.Frag) : List V → Hp → VK → Prop := fun vs H Q => ∃ (a : Addr) (n : Int) (ns : List Int), vs = [V.ref a] ∧ SqT K H a ((n :: ns).map V.int) ∧ Q (.int (ns.foldl max n)) H
theorem cr_maxT {X : Cx} {k : Nat} (hc : X.calm = true) (room : Room k X.A) : CallR X (.builtin "max") (rMaxT X.K) := by
  intro pins s σ H vs us Q I r h
  obtain ⟨a, n, ns, rfl, seq, q⟩ := h
  obtain ⟨its, vals, isT, _⟩ := I.tuple seq
  rw [Vals.ref1 r]
  obtain ⟨as, reads⟩ := ints_readsAll (h := s.heap) vals
  have alike : PySem.W.AlikeAll ((n :: ns).map PyData.int) := by
    refine ⟨fun x hx y hy => ?_, fun x hx e => ?_⟩
    · obtain ⟨i, _, rfl⟩ := List.mem_map.mp hx
      obtain ⟨j, _, rfl⟩ := List.mem_map.mp hy
      simp [PySem.W.alike]
    · obtain ⟨i, _, rfl⟩ := List.mem_map.mp hx
      cases e
  have un := room.un
  have dp := depthAll_ints (n :: ns)
  refine PySem.W.max_tuple_data (I.ok.hd hc) (show s.heap.IsTuple a its.toArray from isT) (by simpa using reads) alike (by show X.A.units + 1 + _ < _; have : PyData.depthAll (PyData.int n :: ns.map PyData.int) ≤ 1 := dp; omega) fun i v h' tk bs hv rd keeps => ?_
  rw [PySem.W.maxD_ints] at rd
  cases rd with
  | int _ t => exact ⟨.int _, H, I.kept keeps, ⟨t, rfl⟩, q⟩
theorem foldl_max_le : ∀ (ns : List Int) (n b : Int), ns.foldl max n ≤ b ↔ n ≤ b ∧ ∀ m ∈ ns, m ≤ b
  | [], n, b => by simp
  | m :: r, n, b => by
    rw [List.foldl_cons, foldl_max_le r (max n m) b, List.forall_mem_cons]
    constructor
    · rintro ⟨h1, h2⟩
      exact ⟨by omega, by omega, h2⟩
    · rintro ⟨h1, h2, h3⟩
      exact ⟨by omega, h3⟩
/-! ### the functions on stores of four numbers -/
def sInFour : Stmt := topS 10
def sCovOne : Stmt := topS 11
def sLeastOf : Stmt := topS 12
def sNeeded : Stmt := topS 13
def sJoined : Stmt := topS 14
def sBoth : Stmt := topS 15
def spInFour (K : PySem.W.Frag) : Sp := fun vs H Q _ => ∃ (x : V) (l : List Int), vs = [x] ∧ Dp K H x (wayD l) ∧ 1 ≤ l.length ∧ l.length ≤ 4 ∧ ∀ v H', Same H H' → Dp K H' v (wayD (four l)) → Q v H'
def spCovOne (K : PySem.W.Frag) : Sp := fun vs H Q _ => ∃ (x y : V) (s : List Int) (S : List (List Int)), vs = [x, y] ∧ Dp K H x (wayD s) ∧ Dp K H y (stsD S) ∧ s.length = 4 ∧ (∀ t ∈ S, t.length = 4) ∧ ∀ H', Same H H' → Q (.bl (anyLe s S)) H'
def spNeeded (K : PySem.W.Frag) (f : List Int → List Int → List Int) : Sp := fun vs H Q _ => ∃ (x y : V) (w : List Int) (S : List (List Int)), vs = [x, y] ∧ Dp K H x (wayD w) ∧ Dp K H y (stsD S) ∧ w.length = 4 ∧ (∀ t ∈ S, t.length = 4) ∧ S.length ≤ 5000 ∧
  ∀ q H' ps, Same H H' → H q = none → H' q = some (.lst ps) → DpAll K H' ps ((S.map (f w)).map wayD) → Q (.ref q) H'
/-- the least ones of some, sorted -/
def spLeastOf (K : PySem.W.Frag) : Sp := fun vs H Q _ => ∃ (x : V) (S : List (List Int)), vs = [x] ∧ Dp K H x (stsD S) ∧ (∀ t ∈ S, Ok4 t) ∧ S.length < 4096 ∧
  ∀ q H' ps M, Same H H' → H q = none → H' q = some (.lst ps) → DpAll K H' ps (M.map wayD) → Canon M (UpS S) → M.length ≤ S.length → Q (.ref q) H'
/-- the same, where what may come is told -/
def spLeastU (K : PySem.W.Frag) : Sp := fun vs H Q _ => ∃ (x : V) (S U : List (List Int)), vs = [x] ∧ Dp K H x (stsD S) ∧ (∀ t ∈ S, Ok4 t) ∧ S.length ≤ 100000 ∧ U.length < 4096 ∧ (∀ t ∈ S, t ∈ U) ∧
  ∀ q H' ps M, Same H H' → H q = none → H' q = some (.lst ps) → DpAll K H' ps (M.map wayD) → Canon M (UpS S) → M.length ≤ S.length → Q (.ref q) H'
theorem leastU_imp {K : PySem.W.Frag} : ∀ vs H Q E, spLeastOf K vs H Q E → spLeastU K vs H Q E := fun _ _ _ _ ⟨x, S, e, dx, ok, fw, q⟩ => ⟨x, S, S, e, dx, ok, by omega, fw, fun _ h => h, q⟩
/-- what comes where some stores and some others are joined: few in all -/
def JB (A B : List (List Int)) : Prop := ∃ U : List (List Int), U.length < 4096 ∧ (∀ s ∈ A, s ∈ U) ∧ ∀ s ∈ A, ∀ m ∈ B.map (join4 s), (∀ y ∈ B.map (join4 s), le4 y m = true → y = m) → m ∈ U
theorem jb_prod {A B : List (List Int)} (h : A.length * (B.length + 1) < 4096) : JB A B := by
  refine ⟨A ++ A.flatMap fun s => B.map (join4 s), ?_, fun s hs => List.mem_append_left _ hs, fun s hs m hm _ => List.mem_append_right _ (List.mem_flatMap.mpr ⟨s, hs, hm⟩)⟩
  rw [List.length_append, boxflat_len (q := B.length) fun s => List.length_map _]
  have : A.length * (B.length + 1) = A.length * B.length + A.length := Nat.mul_succ ..
  omega
/-- of the least of some each is one of them, below which none lies -/
theorem canon_min {M S : List (List Int)} (c : Canon M (UpS S)) (ok : ∀ s ∈ S, Ok4 s) : ∀ x ∈ M, x ∈ S ∧ ∀ y ∈ S, le4 y x = true → y = x := fun x hx => by
  have key : ∀ y ∈ S, le4 y x = true → y = x := fun y hy l => by
    obtain ⟨z, hz, lz⟩ := (c.up y (ok y hy)).mpr ⟨y, hy, le4_refl (ok y hy)⟩
    have e := c.anti z hz x hx (le4_trans lz l)
    subst e
    exact le4_anti l lz
  obtain ⟨y, hy, l⟩ := (c.up x (c.ok x hx)).mp ⟨x, hx, le4_refl (c.ok x hx)⟩
  have e := key y hy l
  subst e
  exact ⟨hy, key⟩
def spBothJ (K : PySem.W.Frag) : Sp := fun vs H Q _ => ∃ (x y : V) (A B : List (List Int)), vs = [x, y] ∧ Dp K H x (stsD A) ∧ Dp K H y (stsD B) ∧ (∀ t ∈ A, Ok4 t) ∧ (∀ t ∈ B, Ok4 t) ∧ A.length * (B.length + 1) ≤ 100000 ∧ B.length < 4096 ∧ JB A B ∧
  ∀ q H' ps M, Same H H' → H q = none → H' q = some (.lst ps) → DpAll K H' ps (M.map wayD) → Canon M (fun z => UpS A z ∧ UpS B z) → Q (.ref q) H'
def spBoth (K : PySem.W.Frag) : Sp := fun vs H Q _ => ∃ (x y : V) (A B : List (List Int)), vs = [x, y] ∧ Dp K H x (stsD A) ∧ Dp K H y (stsD B) ∧ (∀ t ∈ A, Ok4 t) ∧ (∀ t ∈ B, Ok4 t) ∧ A.length * (B.length + 1) < 4096 ∧
  ∀ q H' ps M, Same H H' → H q = none → H' q = some (.lst ps) → DpAll K H' ps (M.map wayD) → Canon M (fun z => UpS A z ∧ UpS B z) → Q (.ref q) H'
section
variable {P : Program} {w : World} {K : PySem.W.Frag} {mg : Str → Option Value} {base : Heap}
theorem scInFour : FnScope ["numbers"] ["numbers"] (defScope sInFour) := ⟨rfl, rfl, rfl, by decide +kernel, rfl, by decide +kernel, by decide +kernel⟩
theorem ok_inFour {f : Addr} {fd : FuncData} {k : Nat} {tk : Tok} (F : Fun K "in_four" "in_four" sInFour f fd) (g4 : mg "FOUR" = some (.int 4 tk)) (ml : mg "len" = none) : FnOk P w K mg base CX0 (k + 1) f fd ["numbers"] (spInFour K) := by
  refine F.ok scInFour (fun vs H Q E h => ?_) (fun cdv A outer s H vs Q E hr h => ?_)
  · obtain ⟨x, l, rfl, _⟩ := h
    rfl
  · obtain ⟨x, l, rfl, hx, l1, l4, q⟩ := h
    refine ⟨_, pss_one (ps_ret (pe_op op_catT (pv 0) (pe_op op_rep1 (pe_tup (pa_cons pe_int pa_nil)) (pe_op op_sub (pe_glob (v := .int 4) (by rfl) g4 ⟨_, rfl⟩) (pe_callB call_len_seq (by rfl) ml PySem.boot_len (pa_cons (pv 0) pa_nil)))))), ?_⟩
    obtain ⟨a, rfl, hT⟩ := way_of hx
    refine ⟨_, rfl, by show 1 ≤ sizeLine; decide, fun z nz => ?_⟩
    have sz := same_upd (o := .tup [V.int 0]) nz
    have hTz := sz.seqT hT
    have hz : SqT K (upd H z (.tup [V.int 0])) z [V.int 0] := SqT.of upd_same
    refine ⟨_, rfl, a, _, rfl, .inr hTz, 4, _, rfl, rfl, ?_⟩
    rw [List.length_map]
    have ne : l.map V.int ≠ [] := by
      intro e
      rw [List.map_eq_nil_iff] at e
      rw [e] at l1
      simp at l1
    have fin : ∀ (b : Addr) (H2 : Hp), Same (upd H z (.tup [V.int 0])) H2 → SqT K H2 b (List.replicate (4 - l.length) (V.int 0)) → rCatT K (.ref a) (.ref b) H2 Q := fun b H2 s2 hb => by
      refine ⟨a, b, _, _, rfl, rfl, s2.seqT hTz, hb, ne, by simp only [List.length_map, List.length_replicate]; rw [sizeLine_eq]; omega, fun e => ?_, fun e p np => ?_⟩
      · have e0 : 4 - l.length = 0 := by simpa using e
        refine q _ _ (sz.trans s2) ?_
        unfold four
        rw [e0]
        simpa using of_way (s2.seqT hTz)
      · refine q _ _ ((sz.trans s2).trans (same_upd np)) ?_
        have m : l.map V.int ++ List.replicate (4 - l.length) (V.int 0) = (four l).map V.int := by unfold four; rw [List.map_append, List.map_replicate]
        rw [m]
        exact of_way (SqT.of upd_same)
    refine ⟨z, 4 - (l.length : Int), V.int 0, rfl, rfl, hz, by omega, by omega, fun e => ?_, fun e p np => ?_⟩
    · have e1 : 4 - l.length = 1 := by omega
      refine fin z _ (Same.refl _) ?_
      rw [e1]
      exact hz
    · have et : (4 - (l.length : Int)).toNat = 4 - l.length := by omega
      rw [et]
      exact fin p _ (same_upd np) (SqT.of upd_same)
theorem scCovOne : FnScope ["store", "stores", "a", "b", "c", "d", "e", "f", "g", "h"] ["store", "stores"] (defScope sCovOne) := ⟨rfl, rfl, rfl, by decide +kernel, rfl, by decide +kernel, by decide +kernel⟩
theorem ok_covOne {f : Addr} {fd : FuncData} {k : Nat} (F : Fun K "covers_one" "covers_one" sCovOne f fd) : FnOk P w K mg base CX0 (k + 1) f fd ["store", "stores"] (spCovOne K) := by
  refine F.ok scCovOne (fun vs H Q E h => ?_) (fun cdv A outer s H vs Q E hr h => ?_)
  · obtain ⟨x, y, s, S, rfl, _⟩ := h
    rfl
  · obtain ⟨x, y, s, S, rfl, hx, hy, l4, lS, q⟩ := h
    refine ⟨_, pss_cons (ps_asg (pv 0) (pg_tup (by rfl) (pgs_cons (pg_name (i := 2) scCovOne.nd rfl (.inl rfl)) (pgs_cons (pg_name (i := 3) scCovOne.nd rfl (.inl rfl)) (pgs_cons (pg_name (i := 4) scCovOne.nd rfl (.inl rfl)) (pgs_cons (pg_name (i := 5) scCovOne.nd rfl (.inl rfl)) pgs_nil))))))
      (pss_cons (ps_for PassesOwn.never rfl (pi_list (pv 1)) (pg_tup (by rfl) (pgs_cons (pg_name (i := 6) scCovOne.nd rfl (.inl rfl)) (pgs_cons (pg_name (i := 7) scCovOne.nd rfl (.inl rfl)) (pgs_cons (pg_name (i := 8) scCovOne.nd rfl (.inl rfl)) (pgs_cons (pg_name (i := 9) scCovOne.nd rfl (.inl rfl)) pgs_nil)))))
        (pss_one (ps_if (PW.pt (pw_and (pt_cmpR op_ge (pv 2) (pv 6) (nomark _)) (pw_and (pt_cmpR op_ge (pv 3) (pv 7) (nomark _)) (pw_and (pt_cmpR op_ge (pv 4) (pv 8) (nomark _)) (pw_and1 (pt_cmpR op_ge (pv 5) (pv 9) (nomark _))))))) (pss_one (ps_ret pe_bl)) pss_nil)))
      (pss_one (ps_ret pe_bl))), ?_⟩
    obtain ⟨sa, rfl, hT⟩ := way_of hx
    obtain ⟨l, vs, rfl, hL, hall⟩ := sts_of hy
    obtain ⟨a, b, c, d, rfl⟩ := four_of l4
    refine ⟨_, rfl, sa, _, rfl, hT, rfl, _, _, rfl, _, _, rfl, _, _, rfl, _, _, rfl, rfl, ?_⟩
    refine ⟨_, rfl, l, rfl, ⟨_, hL⟩, ?_⟩
    refine for_list (K := K) (a := l) (xs := vs) (fun j σ H1 => ∃ (y6 y7 y8 y9 : Option V), σ = [some (.ref sa), some (.ref l), some (.int a), some (.int b), some (.int c), some (.int d), y6, y7, y8, y9] ∧ H1 = H ∧ anyLe [a, b, c, d] (S.take j) = false)
      ⟨none, none, none, none, rfl, rfl, rfl⟩ ?_ ?_ ?_
    · rintro j σ H1 _ ⟨_, _, _, _, _, rfl, _⟩
      exact hL
    · rintro j v σ H1 hj ⟨y6, y7, y8, y9, rfl, rfl, no⟩
      obtain ⟨t, ht, dv⟩ := sts_get hall hj
      obtain ⟨ta, rfl, hTt⟩ := way_of dv
      obtain ⟨e, f, g, h, rfl⟩ := four_of (lS t (List.mem_of_getElem? ht))
      refine ⟨ta, _, rfl, hTt, rfl, _, _, rfl, _, _, rfl, _, _, rfl, _, _, rfl, rfl, ?_⟩
      have yes : a ≥ e → b ≥ f → c ≥ g → d ≥ h → Q (.bl true) H1 := fun h1 h2 h3 h4 => by
        have z : anyLe [a, b, c, d] S = true := anyLe_iff.mpr ⟨[e, f, g, h], List.mem_of_getElem? ht, le4_iff.mpr ⟨h1, h2, h3, h4⟩⟩
        rw [← z]
        exact q _ (Same.refl _)
      have next : ¬ (e ≤ a ∧ f ≤ b ∧ g ≤ c ∧ h ≤ d) → anyLe [a, b, c, d] (S.take (j + 1)) = false := fun nn => by
        rw [take_snoc ht]
        unfold anyLe at no ⊢
        rw [List.any_append, no, Bool.false_or, List.any_cons, List.any_nil, Bool.or_false]
        exact Bool.eq_false_iff.mpr fun z => nn (le4_iff.mp z)
      refine ⟨_, rfl, _, rfl, a, e, rfl, rfl, _, rfl, ite2 (fun c1 => ?_) fun c1 => ?_⟩
      · refine ⟨_, rfl, _, rfl, b, f, rfl, rfl, _, rfl, ite2 (fun c2 => ?_) fun c2 => ?_⟩
        · refine ⟨_, rfl, _, rfl, c, g, rfl, rfl, _, rfl, ite2 (fun c3 => ?_) fun c3 => ?_⟩
          · refine ⟨_, rfl, _, rfl, d, h, rfl, rfl, _, rfl, ite2 (fun c4 => ?_) fun c4 => ?_⟩
            · exact yes (of_decide_eq_true c1) (of_decide_eq_true c2) (of_decide_eq_true c3) (of_decide_eq_true c4)
            · exact ⟨_, _, _, _, rfl, rfl, next fun z => c4 (decide_eq_true z.2.2.2)⟩
          · exact ⟨_, _, _, _, rfl, rfl, next fun z => c3 (decide_eq_true z.2.2.1)⟩
        · exact ⟨_, _, _, _, rfl, rfl, next fun z => c2 (decide_eq_true z.2.1)⟩
      · exact ⟨_, _, _, _, rfl, rfl, next fun z => c1 (decide_eq_true z.1)⟩
    · rintro σ H1 ⟨y6, y7, y8, y9, rfl, rfl, no⟩
      rw [take_all (sts_len hall)] at no
      rw [← no]
      exact q _ (Same.refl _)
end

section
variable {P : Program} {w : World} {K : PySem.W.Frag} {mg : Str → Option Value} {base : Heap}
theorem scNeeded : FnScope ["way", "stores", "a", "b", "c", "d", "e", "f", "g", "h"] ["way", "stores"] (defScope sNeeded) := ⟨rfl, rfl, rfl, by decide +kernel, rfl, by decide +kernel, by decide +kernel⟩
theorem scJoined : FnScope ["store", "stores", "a", "b", "c", "d", "e", "f", "g", "h"] ["store", "stores"] (defScope sJoined) := ⟨rfl, rfl, rfl, by decide +kernel, rfl, by decide +kernel, by decide +kernel⟩
theorem ok_needed {f : Addr} {fd : FuncData} {k : Nat} (F : Fun K "needed" "needed" sNeeded f fd) (mx : mg "max" = none) : FnOk P w K mg base CX0 (k + 1) f fd ["way", "stores"] (spNeeded K need4) := by
  refine F.ok scNeeded (fun vs H Q E h => ?_) (fun cdv A outer s H vs Q E hr h => ?_)
  · obtain ⟨x, y, s, S, rfl, _⟩ := h
    rfl
  · obtain ⟨x, y, s, S, rfl, hx, hy, l4, lS, fw, q⟩ := h
    refine ⟨_, pss_cons (ps_asg (pv 0) (pg_tup (by rfl) (pgs_cons (pg_name (i := 2) scNeeded.nd rfl (.inr rfl)) (pgs_cons (pg_name (i := 3) scNeeded.nd rfl (.inr rfl)) (pgs_cons (pg_name (i := 4) scNeeded.nd rfl (.inr rfl)) (pgs_cons (pg_name (i := 5) scNeeded.nd rfl (.inr rfl)) pgs_nil))))))
      (pss_one (ps_ret (pe_lc (own := [("e", 6), ("f", 7), ("g", 8), ("h", 9)]) (g := gTup K 4 (gCons (gName 6) (gCons (gName 7) (gCons (gName 8) (gCons (gName 9) gNil))))) (tt := tYes) rfl scNeeded.nd (pi_list (pv 1))
        (blkOk_by (N := ["way", "stores", "a", "b", "c", "d", "e", "f", "g", "h"]) (sc := defScope sNeeded) (by decide +kernel))
        (fun _ _ _ _ _ => by refine pg_tup rfl (pgs_cons ?_ (pgs_cons ?_ (pgs_cons ?_ (pgs_cons ?_ pgs_nil)))); exact pg_name (i := 6) scNeeded.nd rfl (.inl rfl); exact pg_name (i := 7) scNeeded.nd rfl (.inl rfl); exact pg_name (i := 8) scNeeded.nd rfl (.inl rfl); exact pg_name (i := 9) scNeeded.nd rfl (.inl rfl))
        (fun _ _ _ _ _ => pts_nil)
        (fun _ _ _ _ _ => by exact pe_tup (pa_cons (pe_callB (call_max2 rfl) (by rfl) mx (by decide +kernel) (pa_cons pe_int (pa_cons (pe_op op_sub (pv 6) (pv 2)) pa_nil)))
          (pa_cons (pe_callB (call_max2 rfl) (by rfl) mx (by decide +kernel) (pa_cons pe_int (pa_cons (pe_op op_sub (pv 7) (pv 3)) pa_nil)))
          (pa_cons (pe_callB (call_max2 rfl) (by rfl) mx (by decide +kernel) (pa_cons pe_int (pa_cons (pe_op op_sub (pv 8) (pv 4)) pa_nil)))
          (pa_cons (pe_callB (call_max2 rfl) (by rfl) mx (by decide +kernel) (pa_cons pe_int (pa_cons (pe_op op_sub (pv 9) (pv 5)) pa_nil))) pa_nil)))))))), ?_⟩
    obtain ⟨sa, rfl, hT⟩ := way_of hx
    obtain ⟨l, vs, rfl, hL, hall⟩ := sts_of hy
    obtain ⟨a, b, c, d, rfl⟩ := four_of l4
    have lv := sts_len hall
    refine ⟨_, rfl, sa, _, rfl, hT, rfl, _, _, rfl, _, _, rfl, _, _, rfl, _, _, rfl, rfl, ?_⟩
    refine ⟨_, rfl, l, rfl, ⟨_, hL⟩, fun D nD => ?_⟩
    have sD := same_upd (o := .lst []) nD
    refine lc_list (K := K) (a := l) (xs := vs) (fun j H1 => Same H H1 ∧ ∃ ps, H1 D = some (.lst ps) ∧ DpAll K H1 ps (((S.take j).map (need4 [a, b, c, d])).map wayD)) ⟨sD, [], upd_same, .nil⟩ (fun j H1 _ ⟨s1, _⟩ => s1.seq hL) ?_ ?_
    · rintro j v H1 hj ⟨s1, ps, hD, dps⟩
      obtain ⟨t, ht, dv⟩ := sts_get hall hj
      obtain ⟨ta, rfl, hTt⟩ := way_of dv
      obtain ⟨e, f, g, h, rfl⟩ := four_of (lS t (List.mem_of_getElem? ht))
      have lp := dpAll_len dps
      simp only [List.length_map, List.length_take] at lp
      have e0 : wipe [some (V.ref sa), some (V.ref l), some (V.int a), some (V.int b), some (V.int c), some (V.int d), none, none, none, none] [6, 7, 8, 9] = [some (V.ref sa), some (V.ref l), some (V.int a), some (V.int b), some (V.int c), some (V.int d), none, none, none, none] := rfl
      show gTup K 4 (gCons (gName 6) (gCons (gName 7) (gCons (gName 8) (gCons (gName 9) gNil)))) (.ref ta) (wipe [some (V.ref sa), some (V.ref l), some (V.int a), some (V.int b), some (V.int c), some (V.int d), none, none, none, none] [6, 7, 8, 9]) H1 _
      rw [e0]
      refine ⟨ta, _, rfl, s1.seqT hTt, rfl, V.int e, _, rfl, V.int f, _, rfl, V.int g, _, rfl, V.int h, _, rfl, rfl, ?_⟩
      simp only [List.set_cons_succ, List.set_cons_zero]
      refine ⟨rfl, ?_⟩
      refine ⟨_, rfl, _, rfl, e, a, rfl, rfl, 0, _, rfl, ?_⟩
      refine ⟨_, rfl, _, rfl, f, b, rfl, rfl, 0, _, rfl, ?_⟩
      refine ⟨_, rfl, _, rfl, g, c, rfl, rfl, 0, _, rfl, ?_⟩
      refine ⟨_, rfl, _, rfl, h, d, rfl, rfl, 0, _, rfl, ?_⟩
      refine ⟨by show 4 ≤ sizeLine; decide, fun T nT => ?_⟩
      have sT := same_upd (o := .tup [V.int (if e - a > 0 then e - a else 0), V.int (if f - b > 0 then f - b else 0), V.int (if g - c > 0 then g - c else 0), V.int (if h - d > 0 then h - d else 0)]) nT
      have nDT : D ≠ T := ne_of_none hD nT
      have hT2 : SqT K (upd H1 T (.tup [V.int (if e - a > 0 then e - a else 0), V.int (if f - b > 0 then f - b else 0), V.int (if g - c > 0 then g - c else 0), V.int (if h - d > 0 then h - d else 0)])) T ((need4 [a, b, c, d] [e, f, g, h]).map V.int) := by
        have e1 : need4 [a, b, c, d] [e, f, g, h] = [if e - a > 0 then e - a else 0, if f - b > 0 then f - b else 0, if g - c > 0 then g - c else 0, if h - d > 0 then h - d else 0] := by
          show [max 0 (e - a), max 0 (f - b), max 0 (g - c), max 0 (h - d)] = _
          rw [maxI, maxI, maxI, maxI]
        rw [e1]
        exact SqT.of upd_same
      refine ⟨ps, sT _ _ hD, small_line (by omega), fun b2 o e2 => ?_, ps ++ [.ref T], upd_same, ?_⟩
      · rw [upd_ne (ne_of_none e2 nD)]
        exact sT _ _ (s1 _ _ e2)
      · rw [take_snoc ht, List.map_append, List.map_append]
        exact dpAll_put (sT _ _ hD) (dpAll_app (dpAll_same sT dps) (.cons (of_way hT2) .nil)) (noL_app _ _)
    · rintro H1 ⟨s1, ps, hD, dps⟩
      rw [take_all lv] at dps
      exact q D H1 ps s1 nD hD dps
def tGt (i j : Nat) : TE := tIf (tTest (tOp (rI0 fun i j => .bl (decide (j < i))) (tVar i) (tVar j))) (tVar i) (tVar j)
theorem if_vars {σ : L2.St} {H : Hp} {Q : VK} {i j : Nat} {a e : Int} (h1 : σ[i]? = some (some (.int a))) (h2 : σ[j]? = some (some (.int e))) (q : Q (.int (max a e)) H) :
    tGt i j σ H Q := by
  refine ⟨_, h1, _, h2, a, e, rfl, rfl, _, rfl, ite2 (fun c => ?_) fun c => ?_⟩
  · have := of_decide_eq_true c
    rw [show max a e = a by omega] at q
    exact ⟨_, h1, q⟩
  · have : ¬ e < a := fun z => c (decide_eq_true z)
    rw [show max a e = e by omega] at q
    exact ⟨_, h2, q⟩
theorem ok_joined {f : Addr} {fd : FuncData} {k : Nat} (F : Fun K "joined" "joined" sJoined f fd) : FnOk P w K mg base CX0 (k + 1) f fd ["store", "stores"] (spNeeded K join4) := by
  refine F.ok scJoined (fun vs H Q E h => ?_) (fun cdv A outer s H vs Q E hr h => ?_)
  · obtain ⟨x, y, s, S, rfl, _⟩ := h
    rfl
  · obtain ⟨x, y, s, S, rfl, hx, hy, l4, lS, fw, q⟩ := h
    refine ⟨_, pss_cons (ps_asg (pv 0) (pg_tup (by rfl) (pgs_cons (pg_name (i := 2) scJoined.nd rfl (.inr rfl)) (pgs_cons (pg_name (i := 3) scJoined.nd rfl (.inr rfl)) (pgs_cons (pg_name (i := 4) scJoined.nd rfl (.inr rfl)) (pgs_cons (pg_name (i := 5) scJoined.nd rfl (.inr rfl)) pgs_nil))))))
      (pss_one (ps_ret (pe_lc (own := [("e", 6), ("f", 7), ("g", 8), ("h", 9)]) (g := gTup K 4 (gCons (gName 6) (gCons (gName 7) (gCons (gName 8) (gCons (gName 9) gNil))))) (tt := tYes) (te := tTup (tCons (tGt 2 6) (tCons (tGt 3 7) (tCons (tGt 4 8) (tCons (tGt 5 9) tNil))))) rfl scJoined.nd (pi_list (pv 1))
        (blkOk_by (N := ["store", "stores", "a", "b", "c", "d", "e", "f", "g", "h"]) (sc := defScope sJoined) (by decide +kernel))
        (fun _ _ _ _ _ => by refine pg_tup rfl (pgs_cons ?_ (pgs_cons ?_ (pgs_cons ?_ (pgs_cons ?_ pgs_nil)))); exact pg_name (i := 6) scJoined.nd rfl (.inl rfl); exact pg_name (i := 7) scJoined.nd rfl (.inl rfl); exact pg_name (i := 8) scJoined.nd rfl (.inl rfl); exact pg_name (i := 9) scJoined.nd rfl (.inl rfl))
        (fun _ _ _ _ _ => pts_nil)
        (fun _ _ _ _ _ => by refine pe_tup (pa_cons ?_ (pa_cons ?_ (pa_cons ?_ (pa_cons ?_ pa_nil)))); exact (pe_ifExp (pt_cmpR op_gt (pv 2) (pv 6) (nomark _)) (pv 2) (pv 6)); exact (pe_ifExp (pt_cmpR op_gt (pv 3) (pv 7) (nomark _)) (pv 3) (pv 7)); exact (pe_ifExp (pt_cmpR op_gt (pv 4) (pv 8) (nomark _)) (pv 4) (pv 8)); exact (pe_ifExp (pt_cmpR op_gt (pv 5) (pv 9) (nomark _)) (pv 5) (pv 9)))))), ?_⟩
    obtain ⟨sa, rfl, hT⟩ := way_of hx
    obtain ⟨l, vs, rfl, hL, hall⟩ := sts_of hy
    obtain ⟨a, b, c, d, rfl⟩ := four_of l4
    have lv := sts_len hall
    refine ⟨_, rfl, sa, _, rfl, hT, rfl, _, _, rfl, _, _, rfl, _, _, rfl, _, _, rfl, rfl, ?_⟩
    refine ⟨_, rfl, l, rfl, ⟨_, hL⟩, fun D nD => ?_⟩
    have sD := same_upd (o := .lst []) nD
    refine lc_list (K := K) (a := l) (xs := vs) (fun j H1 => Same H H1 ∧ ∃ ps, H1 D = some (.lst ps) ∧ DpAll K H1 ps (((S.take j).map (join4 [a, b, c, d])).map wayD)) ⟨sD, [], upd_same, .nil⟩ (fun j H1 _ ⟨s1, _⟩ => s1.seq hL) ?_ ?_
    · rintro j v H1 hj ⟨s1, ps, hD, dps⟩
      obtain ⟨t, ht, dv⟩ := sts_get hall hj
      obtain ⟨ta, rfl, hTt⟩ := way_of dv
      obtain ⟨e, f, g, h, rfl⟩ := four_of (lS t (List.mem_of_getElem? ht))
      have lp := dpAll_len dps
      simp only [List.length_map, List.length_take] at lp
      have e0 : wipe [some (V.ref sa), some (V.ref l), some (V.int a), some (V.int b), some (V.int c), some (V.int d), none, none, none, none] [6, 7, 8, 9] = [some (V.ref sa), some (V.ref l), some (V.int a), some (V.int b), some (V.int c), some (V.int d), none, none, none, none] := rfl
      show gTup K 4 (gCons (gName 6) (gCons (gName 7) (gCons (gName 8) (gCons (gName 9) gNil)))) (.ref ta) (wipe [some (V.ref sa), some (V.ref l), some (V.int a), some (V.int b), some (V.int c), some (V.int d), none, none, none, none] [6, 7, 8, 9]) H1 _
      rw [e0]
      refine ⟨ta, _, rfl, s1.seqT hTt, rfl, V.int e, _, rfl, V.int f, _, rfl, V.int g, _, rfl, V.int h, _, rfl, rfl, ?_⟩
      simp only [List.set_cons_succ, List.set_cons_zero]
      refine ⟨rfl, ?_⟩
      refine if_vars rfl rfl (if_vars rfl rfl (if_vars rfl rfl (if_vars rfl rfl ?_)))
      refine ⟨by show 4 ≤ sizeLine; decide, fun T nT => ?_⟩
      have sT := same_upd (o := .tup [V.int (max a e), V.int (max b f), V.int (max c g), V.int (max d h)]) nT
      have nDT : D ≠ T := ne_of_none hD nT
      have hT2 : SqT K (upd H1 T (.tup [V.int (max a e), V.int (max b f), V.int (max c g), V.int (max d h)])) T ((join4 [a, b, c, d] [e, f, g, h]).map V.int) := by
        show SqT K _ T ([max a e, max b f, max c g, max d h].map V.int)
        exact SqT.of upd_same
      refine ⟨ps, sT _ _ hD, small_line (by omega), fun b2 o e2 => ?_, ps ++ [.ref T], upd_same, ?_⟩
      · rw [upd_ne (ne_of_none e2 nD)]
        exact sT _ _ (s1 _ _ e2)
      · rw [take_snoc ht, List.map_append, List.map_append]
        exact dpAll_put (sT _ _ hD) (dpAll_app (dpAll_same sT dps) (.cons (of_way hT2) .nil)) (noL_app _ _)
    · rintro H1 ⟨s1, ps, hD, dps⟩
      rw [take_all lv] at dps
      exact q D H1 ps s1 nD hD dps
end

section
variable {P : Program} {w : World} {K : PySem.W.Frag} {mg : Str → Option Value} {base : Heap}
theorem scLeastOf : FnScope ["stores", "found", "store"] ["stores"] (defScope sLeastOf) := ⟨rfl, rfl, rfl, by decide +kernel, rfl, by decide +kernel, by decide +kernel⟩
theorem ok_leastU {f fC : Addr} {fd fdC : FuncData} {k : Nat} (F : Fun K "least_of" "least_of" sLeastOf f fd) (GC : FnOk P w K mg base CX0 (k + 1) fC fdC ["store", "stores"] (spCovOne K)) (kC : PySem.W.keepIn K (.ref fC) = true) (bC : Binds K fdC ["store", "stores"] []) (gC : mg "covers_one" = some (.ref fC))
    (ms : mg "sorted" = none) (mset : mg "set" = none) : FnOk P w K mg base CX0 (k + 2) f fd ["stores"] (spLeastU K) := by
  refine F.ok scLeastOf (fun vs H Q E h => ?_) (fun cdv A outer s H vs Q E hr h => ?_)
  · obtain ⟨x, S, U, rfl, _⟩ := h
    rfl
  · obtain ⟨x, S, U, rfl, hx, okS, lS, fw, inU, q⟩ := h
    refine ⟨_, pss_cons (ps_set (i := 1) scLeastOf.nd rfl (.inl rfl) (pe_lst pa_nil))
      (pss_cons (ps_for PassesOwn.never rfl (pi_list (pe_callB (cr_sortedG rfl) (by rfl) ms (by decide +kernel) (pa_cons (pe_callTy (cr_setG rfl hr.units) (by rfl) mset (by decide +kernel) (pa_cons (pv 0) pa_nil)) pa_nil))) (pg_name (i := 2) scLeastOf.nd rfl (.inl rfl))
        (pss_one (ps_if (pt_not (pt_val (pe_call GC hr (by rfl) gC kC bC .nil pass0 (pa_cons (pv 2) (pa_cons (pv 1) pa_nil)))))
          (pss_one (ps_expr (pe_bm PySem.F.plainAttrs_list PySem.F.slot_list_append PySem.F.type_list_append mt_append (pv 1) (pa_cons (pv 2) pa_nil)))) pss_nil)))
      (pss_one (ps_ret (pv 1)))), ?_⟩
    obtain ⟨l, vs, rfl, hL, hall⟩ := sts_of hx
    obtain ⟨ks, rfl, rfl, hks⟩ := sts_refs hall
    refine ⟨by show 0 ≤ sizeLine; decide, fun F0 nF => ?_⟩
    have sF := same_upd (o := .lst []) nF
    rw [List.length_map] at lS
    refine ⟨_, rfl, l, ks, U, rfl, sF.seq hL, fun p hp => sF.seqT (hks p hp), fw, fun p hp => inU _ (List.mem_map.mpr ⟨p, hp, rfl⟩), fun a L na sub all few => ?_⟩
    have sA := same_upd (o := SetGO P w a L) na
    have sFA := sF.trans sA
    have l4 : ∀ p ∈ L, p.2.length = 4 := fun p hp => ok4_len (okS _ (List.mem_map.mpr ⟨p, sub p hp, rfl⟩))
    refine ⟨a, L, 4, rfl, upd_same, fun p hp => sFA.seqT (hks p (sub p hp)), few, by decide, l4, fun M p pm nd pw np => ?_⟩
    have sP := same_upd (o := .lst (M.map fun q => V.ref q.1)) np
    have s3 := sFA.trans sP
    have hF3 := sP _ _ (sA _ _ (upd_same (H := H) (a := F0) (o := .lst [])))
    obtain ⟨Hs, eHs⟩ : ∃ Hs, Hs = upd (upd (upd H F0 (.lst [])) a (SetGO P w a L)) p (.lst (M.map fun q => V.ref q.1)) := ⟨_, rfl⟩
    have hp3 : Hs p = some (.lst (M.map fun q => V.ref q.1)) := by rw [eHs]; exact upd_same
    have kp0 : Kp F0 Hs (upd (upd (upd H F0 (.lst [])) a (SetGO P w a L)) p (.lst (M.map fun q => V.ref q.1))) := by rw [eHs]; exact Kp.refl _ _
    have hF0 : (upd (upd (upd H F0 (.lst [])) a (SetGO P w a L)) p (.lst (M.map fun q => V.ref q.1))) F0 = some (.lst []) := hF3
    have s3 : Same H Hs := by rw [eHs]; exact s3
    have hF3 : Hs F0 = some (.lst []) := by rw [eHs]; exact hF3
    have nFp : p ≠ F0 := fun e => by
      subst e
      have z := (sA _ _ (upd_same (H := H) (a := p) (o := .lst []))).symm.trans np
      cases z
    have hM : ∀ q ∈ M, SqT K Hs q.1 (q.2.map V.int) := fun q hq => s3.seqT (hks q (sub q (pm.mem_iff.mp hq)))
    have memM : ∀ t, t ∈ M.map (·.2) ↔ t ∈ ks.map (·.2) := fun t => ⟨fun h => by
      obtain ⟨q, hq, rfl⟩ := List.mem_map.mp h
      exact List.mem_map.mpr ⟨q, sub q (pm.mem_iff.mp hq), rfl⟩, fun h => by
      obtain ⟨q, hq, rfl⟩ := List.mem_map.mp h
      exact ((pm.map (·.2)).mem_iff).mpr (all q hq)⟩
    have okM : ∀ t ∈ M.map (·.2), Ok4 t := fun t ht => okS t ((memM t).mp ht)
    have srt : (M.map (·.2)).Pairwise fun x y => HT.lexLt x y = true := by
      have nd' := List.pairwise_map.mp nd
      refine List.pairwise_map.mpr (List.Pairwise.imp_of_mem (fun {x y} hx hy z => ?_) (pw.and nd'))
      rcases lex4_tot ((ok4_len (okM _ (List.mem_map.mpr ⟨x, hx, rfl⟩))).trans (ok4_len (okM _ (List.mem_map.mpr ⟨y, hy, rfl⟩))).symm) z.1 with e | e
      · exact absurd e z.2
      · exact e
    have lenM : (M.map (·.2)).length ≤ (ks.map (·.2)).length := len_among _ _ nd fun t ht => (memM t).mp ht
    have okT : ∀ j, ∀ t ∈ sieve [] ((M.map (·.2)).take j), Ok4 t := fun j t ht => by
      have c := sieve_canon (T := (M.map (·.2)).take j) (fun x hx => okM x (List.mem_of_mem_take hx)) (srt.sublist (List.take_sublist j _))
      exact c.ok t ht
    refine ⟨p, rfl, ⟨_, SqL.of upd_same⟩, ?_⟩
    refine for_list (K := K) (a := p) (xs := M.map fun q => V.ref q.1) (fun j σ H1 => ∃ (y2 : Option V) (ps : List V), σ = [some (.ref l), some (.ref F0), y2] ∧ Kp F0 Hs H1 ∧ H1 F0 = some (.lst ps) ∧ DpAll K H1 ps ((sieve [] ((M.map (·.2)).take j)).map wayD))
      ⟨none, [], rfl, kp0, hF0, .nil⟩ ?_ ?_ ?_
    · rintro j σ H1 _ ⟨_, _, _, kp, _⟩
      exact SqL.of (kp _ _ hp3 nFp)
    · rintro j v σ H1 hj ⟨y2, ps, rfl, kp, hF, dps⟩
      rw [List.getElem?_map] at hj
      obtain ⟨mq, hmq, rfl⟩ := Option.map_eq_some_iff.mp hj
      have hT : SqT K H1 mq.1 (mq.2.map V.int) := kp.seqT hF3 (hM mq (List.mem_of_getElem? hmq))
      have ht : (M.map (·.2))[j]? = some mq.2 := by rw [List.getElem?_map, hmq]; rfl
      have ok := okM mq.2 (List.mem_of_getElem? ht)
      refine ⟨_, rfl, _, rfl, .ref mq.1, .ref F0, mq.2, sieve [] ((M.map (·.2)).take j), rfl, of_way hT, .lst (SqL.of hF) dps, ok4_len ok, fun t h => ok4_len (okT j t h), fun H2 s2 => ?_⟩
      refine ⟨_, rfl, ?_⟩
      have hF2 := s2 _ _ hF
      have kp2 := kp.same s2
      rw [take_snoc ht, sieve_snoc]
      cases c : anyLe mq.2 (sieve [] ((M.map (·.2)).take j)) with
      | true =>
        refine ifF rfl ?_
        rw [if_pos rfl]
        exact ⟨_, ps, rfl, kp2, hF2, dpAll_same s2 dps⟩
      | false =>
        refine ifT rfl ?_
        rw [if_neg (by decide)]
        refine ⟨_, rfl, .inl ⟨rfl, _, SqL.of hF2⟩, _, rfl, F0, _, _, rfl, rfl, hF2, small_line ?_, ?_⟩
        · have lp := sts_len dps
          have := sieve_len ((M.map (·.2)).take j) []
          simp only [List.length_map, List.length_take, List.length_nil] at this lenM
          omega
        · refine ⟨_, ps ++ [.ref mq.1], rfl, kp2.trans (kp_upd F0 H2 _), upd_same, ?_⟩
          rw [List.map_append]
          exact dpAll_put hF2 (dpAll_app (dpAll_same s2 dps) (.cons (of_way (s2.seqT hT)) .nil)) (noL_app _ [mq.2])
    · rintro σ H1 ⟨y2, ps, rfl, kp, hF, dps⟩
      rw [take_all (by rw [List.length_map, List.length_map])] at dps
      have can := sieve_canon okM srt
      refine ⟨_, rfl, q F0 H1 ps _ (fun b o e => kp b o (s3 b o e) (ne_of_none e nF)) nF hF dps (can.congr fun x _ => ⟨fun ⟨y, hy, e⟩ => ⟨y, (memM y).mp hy, e⟩, fun ⟨y, hy, e⟩ => ⟨y, (memM y).mpr hy, e⟩⟩) ?_⟩
      have := sieve_len (M.map (·.2)) []
      simp only [List.length_nil] at this
      omega
theorem ok_leastOf {f fC : Addr} {fd fdC : FuncData} {k : Nat} (F : Fun K "least_of" "least_of" sLeastOf f fd) (GC : FnOk P w K mg base CX0 (k + 1) fC fdC ["store", "stores"] (spCovOne K)) (kC : PySem.W.keepIn K (.ref fC) = true) (bC : Binds K fdC ["store", "stores"] []) (gC : mg "covers_one" = some (.ref fC))
    (ms : mg "sorted" = none) (mset : mg "set" = none) : FnOk P w K mg base CX0 (k + 2) f fd ["stores"] (spLeastOf K) := (ok_leastU F GC kC bC gC ms mset).imp leastU_imp
end
theorem upS_app {A B : List (List Int)} {z : List Int} : UpS (A ++ B) z ↔ UpS A z ∨ UpS B z := by
  constructor
  · rintro ⟨y, hy, l⟩
    rcases List.mem_append.mp hy with hy | hy
    · exact .inl ⟨y, hy, l⟩
    · exact .inr ⟨y, hy, l⟩
  · rintro (⟨y, hy, l⟩ | ⟨y, hy, l⟩)
    · exact ⟨y, List.mem_append_left _ hy, l⟩
    · exact ⟨y, List.mem_append_right _ hy, l⟩
section
variable {P : Program} {w : World} {K : PySem.W.Frag} {mg : Str → Option Value} {base : Heap}
theorem scBoth : FnScope ["stores", "others", "found", "store"] ["stores", "others"] (defScope sBoth) := ⟨rfl, rfl, rfl, by decide +kernel, rfl, by decide +kernel, by decide +kernel⟩
theorem ok_bothJ {f fC fJ fL : Addr} {fd fdC fdJ fdL : FuncData} {k : Nat} (F : Fun K "least_in_both" "least_in_both" sBoth f fd)
    (GC : FnOk P w K mg base CX0 (k + 2) fC fdC ["store", "stores"] (spCovOne K)) (kC : PySem.W.keepIn K (.ref fC) = true) (bC : Binds K fdC ["store", "stores"] []) (gC : mg "covers_one" = some (.ref fC))
    (GJ : FnOk P w K mg base CX0 (k + 2) fJ fdJ ["store", "stores"] (spNeeded K join4)) (kJ : PySem.W.keepIn K (.ref fJ) = true) (bJ : Binds K fdJ ["store", "stores"] []) (gJ : mg "joined" = some (.ref fJ))
    (GL : FnOk P w K mg base CX0 (k + 2) fL fdL ["stores"] (spLeastU K)) (kL : PySem.W.keepIn K (.ref fL) = true) (bL : Binds K fdL ["stores"] []) (gL : mg "least_of" = some (.ref fL)) :
    FnOk P w K mg base CX0 (k + 3) f fd ["stores", "others"] (spBothJ K) := by
  refine F.ok scBoth (fun vs H Q E h => ?_) (fun cdv A' outer s H vs Q E hr h => ?_)
  · obtain ⟨x, y, A, B, rfl, _⟩ := h
    rfl
  · obtain ⟨x, y, A, B, rfl, hx, hy, okA, okB, fw, lB, jb, q⟩ := h
    obtain ⟨U, lU, aU, mU⟩ := jb
    refine ⟨_, pss_cons (ps_set (i := 2) scBoth.nd rfl (.inl rfl) (pe_lst pa_nil))
      (pss_cons (ps_for PassesOwn.never rfl (pi_list (pv 0)) (pg_name (i := 3) scBoth.nd rfl (.inl rfl))
        (pss_one (ps_if (pt_val (pe_call GC hr (by rfl) gC kC bC .nil pass0 (pa_cons (pv 3) (pa_cons (pv 1) pa_nil))))
          (pss_one (ps_expr (pe_bm PySem.F.plainAttrs_list PySem.F.slot_list_append PySem.F.type_list_append mt_append (pv 2) (pa_cons (pv 3) pa_nil))))
          (pss_one (ps_expr (pe_bm PySem.F.plainAttrs_list PySem.F.slot_list_extend PySem.F.type_list_extend mt_extend (pv 2) (pa_cons (pe_call GL hr (by rfl) gL kL bL .nil pass0 (pa_cons (pe_call GJ hr (by rfl) gJ kJ bJ .nil pass0 (pa_cons (pv 3) (pa_cons (pv 1) pa_nil))) pa_nil)) pa_nil)))))))
      (pss_one (ps_ret (pe_call GL hr (by rfl) gL kL bL .nil pass0 (pa_cons (pv 2) pa_nil))))), ?_⟩
    obtain ⟨l, vs, rfl, hL, hall⟩ := sts_of hx
    obtain ⟨m, us, rfl, hM, mall⟩ := sts_of hy
    have lv := sts_len hall
    have bl := bothL_len (A := A) (B := B)
    refine ⟨by show 0 ≤ sizeLine; decide, fun F0 nF => ?_⟩
    have sF := same_upd (o := .lst []) nF
    refine ⟨_, rfl, l, rfl, ⟨_, sF.seq hL⟩, ?_⟩
    refine for_list (K := K) (a := l) (xs := vs) (fun j σ H1 => ∃ (y3 : Option V) (ps : List V), σ = [some (.ref l), some (.ref m), some (.ref F0), y3] ∧ Same H H1 ∧ H1 F0 = some (.lst ps) ∧ ∃ W : List (List Int), DpAll K H1 ps (W.map wayD) ∧ (∀ z ∈ W, Ok4 z) ∧ W.length ≤ (A.take j).length * (B.length + 1) ∧ (∀ z ∈ W, z ∈ U) ∧ ∀ z, Ok4 z → (UpS W z ↔ UpS (bothL (A.take j) B) z))
      ⟨none, [], rfl, sF, upd_same, [], .nil, fun _ h => (nomatch h), Nat.zero_le _, fun _ h => (nomatch h), fun _ _ => Iff.rfl⟩ ?_ ?_ ?_
    · rintro j σ H1 _ ⟨_, _, _, s1, _⟩
      exact s1.seq hL
    · rintro j v σ H1 hj ⟨y3, ps, rfl, s1, hF, W, dps, okW, lenW, inW, upW⟩
      obtain ⟨t, ht, dv⟩ := sts_get hall hj
      have mt := List.mem_of_getElem? ht
      have hyj : Dp K H1 (.ref m) (stsD B) := .lst (s1.seq hM) (dpAll_same s1 mall)
      have lp := sts_len dps
      have jl : (A.take j).length + 1 ≤ A.length := by
        rw [List.length_take]
        have := (List.getElem?_eq_some_iff.mp ht).1
        omega
      have mul : ((A.take j).length + 1) * (B.length + 1) ≤ A.length * (B.length + 1) := Nat.mul_le_mul_right _ jl
      rw [Nat.succ_mul] at mul
      refine ⟨_, rfl, _, rfl, v, .ref m, t, B, rfl, dp_same s1 dv, hyj, ok4_len (okA t mt), fun b hb => ok4_len (okB b hb), fun H2 s2 => ?_⟩
      refine ⟨_, rfl, ?_⟩
      have hF2 := s2 _ _ hF
      have s12 := s1.trans s2
      have out : ∀ (b : Addr) (o : HO) (H3 : Hp), Same H2 H3 → H b = some o → upd H3 F0 (.lst ([] : List V)) b = some o ∨ True := fun _ _ _ _ _ => .inr True.intro
      have lj1 : (A.take (j + 1)).length = (A.take j).length + 1 := by rw [take_snoc ht, List.length_append]; rfl
      have mul2 : (A.take (j + 1)).length * (B.length + 1) = (A.take j).length * (B.length + 1) + (B.length + 1) := by rw [lj1, Nat.succ_mul]
      have up2 : ∀ (V : List (List Int)), (∀ z, Ok4 z → (UpS V z ↔ UpS (if anyLe t B then [t] else B.map (join4 t)) z)) → ∀ z, Ok4 z → (UpS (W ++ V) z ↔ UpS (bothL (A.take (j + 1)) B) z) := fun V hV z oz => by
        rw [take_snoc ht, bothL_snoc, upS_app, upS_app, upW z oz, hV z oz]
      cases c : anyLe t B with
      | true =>
        refine ifT rfl ?_
        refine ⟨_, rfl, .inl ⟨rfl, _, SqL.of hF2⟩, _, rfl, F0, _, _, rfl, rfl, hF2, small_line (by omega), ?_⟩
        refine ⟨_, ps ++ [v], rfl, fun b o e => ?_, upd_same, W ++ [t], ?_, mem_app1 okW (okA t mt), by rw [List.length_append, List.length_singleton]; omega, mem_app1 inW (aU t mt), up2 _ fun z _ => by rw [c, if_pos rfl]⟩
        · rw [upd_ne (ne_of_none e nF)]
          exact s12 _ _ e
        · rw [List.map_append]
          exact dpAll_put hF2 (dpAll_app (dpAll_same s2 dps) (.cons (dp_same s12 dv) .nil)) (noL_app _ [t])
      | false =>
        refine ifF rfl ?_
        refine ⟨_, rfl, .inl ⟨rfl, _, SqL.of hF2⟩, ?_⟩
        refine ⟨_, rfl, _, rfl, v, .ref m, t, B, rfl, dp_same s12 dv, dp_same s2 hyj, ok4_len (okA t mt), fun b hb => ok4_len (okB b hb), ?_, fun qj H3 qs s3 nq hq dqs => ?_⟩
        · have : B.length + 1 ≤ A.length * (B.length + 1) := Nat.le_trans (by omega) (Nat.mul_le_mul_right (B.length + 1) (show 1 ≤ A.length by omega))
          omega
        · have hF3 := s3 _ _ hF2
          have okJ : ∀ z ∈ B.map (join4 t), Ok4 z := fun z hz => by
            obtain ⟨b, hb, rfl⟩ := List.mem_map.mp hz
            exact join4_ok (okA t mt) (okB b hb)
          refine ⟨.ref qj, B.map (join4 t), B.map (join4 t), rfl, .lst (SqL.of hq) dqs, okJ, by rw [List.length_map]; omega, ?_, fun _ h => h, fun qq H4 qs2 M s4 nqq hqq dq2 can lM => ?_⟩
          · rw [List.length_map]
            exact lB
          have hF4 := s4 _ _ hF3
          have lq := sts_len dq2
          rw [List.length_map] at lM
          refine ⟨F0, qq, _, _, rfl, rfl, hF4, hqq, by rw [sizeLine_eq]; omega, ?_⟩
          refine ⟨_, ps ++ qs2, rfl, fun b o e => ?_, upd_same, W ++ M, ?_, fun z hz => ?_, by rw [List.length_append]; omega, fun z hz => ?_, up2 _ fun z oz => ?_⟩
          · rw [upd_ne (ne_of_none e nF)]
            exact s4 _ _ (s3 _ _ (s12 _ _ e))
          · rw [List.map_append]
            exact dpAll_put hF4 (dpAll_app (dpAll_same s4 (dpAll_same s3 (dpAll_same s2 dps))) dq2) (noL_app _ _)
          · rcases List.mem_append.mp hz with hz | hz
            · exact okW z hz
            · exact can.ok z hz
          · rcases List.mem_append.mp hz with hz | hz
            · exact inW z hz
            · obtain ⟨h1, h2⟩ := canon_min can okJ z hz
              exact mU t mt z h1 h2
          · rw [c, if_neg (by decide)]
            exact can.up z oz
    · rintro σ H1 ⟨y3, ps, rfl, s1, hF, W, dps, okW, lenW, inW, upW⟩
      have ll : A.take vs.length = A := by rw [lv, List.take_length]
      rw [ll] at lenW upW
      refine ⟨_, rfl, .ref F0, W, U, rfl, .lst (SqL.of hF) dps, okW, by omega, lU, inW, fun qq H2 qs M s2 nq hq dq can _ => ?_⟩
      exact q qq H2 qs M (s1.trans s2) (s1.free nq) hq dq (can.congr fun x hx => (upW x hx).trans (bothL_up okA okB hx))
end
def sInAll : Stmt := topS 16
/-- some lists of least ones, each the least of its label -/
def spInAll (K : PySem.W.Frag) : Sp := fun vs H Q _ => ∃ (β : Type) (x : V) (D : Addr) (B : List (List Int)) (U : List Int → Prop) (N : β → List Int → Prop) (T : List (Addr × List (List Int) × β)) (m m1 : Nat),
  vs = [x, .ref D] ∧ Dp K H x (stsD B) ∧ SqL K H D (T.map fun t => V.ref t.1) ∧ T.length ≤ 1000 ∧
  (∀ t ∈ T, Canon t.2.1 (N t.2.2) ∧ (∃ ys, H t.1 = some (.lst ys)) ∧ Dp K H (.ref t.1) (stsD t.2.1) ∧ t.2.1.length ≤ m1) ∧ Canon B U ∧ m * (m1 + 1) ≤ 100000 ∧ m1 < 4096 ∧
  (∀ as : List β, (∀ a ∈ as, a ∈ T.map fun t => t.2.2) → ∀ M, Canon M (fun x => U x ∧ ∀ a ∈ as, N a x) → M.length ≤ m ∧ ∀ t ∈ T, JB M t.2.1) ∧
  ∀ v H' M, Same H H' → (v = x ∧ M = B ∨ ∃ q, v = .ref q ∧ H q = none) → Dp K H' v (stsD M) → Canon M (fun x => U x ∧ ∀ a ∈ T.map (fun t => t.2.2), N a x) → Q v H'
section
variable {P : Program} {w : World} {K : PySem.W.Frag} {mg : Str → Option Value} {base : Heap}
theorem scInAll : FnScope ["before", "needs", "found", "need"] ["before", "needs"] (defScope sInAll) := ⟨rfl, rfl, rfl, by decide +kernel, rfl, by decide +kernel, by decide +kernel⟩
theorem ok_inAll {f fB : Addr} {fd fdB : FuncData} {k : Nat} (F : Fun K "least_in_all" "least_in_all" sInAll f fd)
    (GB : FnOk P w K mg base CX0 (k + 3) fB fdB ["stores", "others"] (spBothJ K)) (kB : PySem.W.keepIn K (.ref fB) = true) (bB : Binds K fdB ["stores", "others"] []) (gB : mg "least_in_both" = some (.ref fB))
    (ms : mg "sorted" = none) (ml : mg "len" = none) : FnOk P w K mg base CX0 (k + 4) f fd ["before", "needs"] (spInAll K) := by
  refine F.ok scInAll (fun vs H Q E h => ?_) (fun cdv A outer s H vs Q E hr h => ?_)
  · obtain ⟨β, x, D, B, U, N, T, m, m1, rfl, _⟩ := h
    rfl
  · obtain ⟨β, x, D, B, U, N, T, m, m1, rfl, hx, hD, lT, hT, canB, msq, m1l, few, q⟩ := h
    refine ⟨_, pss_cons (ps_set (i := 2) scInAll.nd rfl (.inl rfl) (pv 0))
      (pss_cons (ps_for PassesOwn.never rfl (pi_list (pe_sortLen (by rfl) ms (by rfl) ml (pv 1))) (pg_name (i := 3) scInAll.nd rfl (.inl rfl))
        (pss_one (ps_set (i := 2) scInAll.nd rfl (.inl rfl) (pe_call GB hr (by rfl) gB kB bB .nil pass0 (pa_cons (pv 2) (pa_cons (pv 3) pa_nil))))))
      (pss_one (ps_ret (pv 2)))), ?_⟩
    refine ⟨_, rfl, ?_⟩
    refine ⟨_, rfl, D, T.map (·.1), rfl, by rw [List.map_map]; exact hD, ?_, fun l hl => ?_, fun ls' p pm np => ?_⟩
    · rw [List.length_map]
      omega
    · obtain ⟨t, ht, rfl⟩ := List.mem_map.mp hl
      exact (hT t ht).2.1
    · obtain ⟨T', pT, rfl⟩ := perm_lift (fun t : Addr × List (List Int) × β => t.1) pm
      have sp := same_upd (o := .lst ((T'.map (·.1)).map V.ref)) np
      have okT : ∀ t ∈ T', Canon t.2.1 (N t.2.2) ∧ t.2.2 ∈ T.map (fun t => t.2.2) ∧ Dp K H (.ref t.1) (stsD t.2.1) ∧ t.2.1.length ≤ m1 ∧ t ∈ T := fun t ht => by
        have ht' := pT.mem_iff.mp ht
        obtain ⟨c1, _, c3, c4⟩ := hT t ht'
        exact ⟨c1, List.mem_map.mpr ⟨t, ht', rfl⟩, c3, c4, ht'⟩
      refine ⟨p, rfl, ⟨_, SqL.of upd_same⟩, ?_⟩
      refine for_list (K := K) (a := p) (xs := (T'.map (·.1)).map V.ref) (fun i σ H2 => ∃ (y3 : Option V) (fv : V) (M : List (List Int)), σ = [some x, some (.ref D), some fv, y3] ∧ Same (upd H p (.lst ((T'.map (·.1)).map V.ref))) H2 ∧ (fv = x ∧ M = B ∨ ∃ q, fv = .ref q ∧ H q = none) ∧ Dp K H2 fv (stsD M) ∧
          Canon M (fun x => U x ∧ ∀ a ∈ (T'.take i).map (fun t => t.2.2), N a x))
        ⟨none, x, B, rfl, Same.refl _, .inl ⟨rfl, rfl⟩, dp_same sp hx, canB.congr fun x _ => ⟨fun h => ⟨h, fun a ha => nomatch ha⟩, fun h => h.1⟩⟩ ?_ ?_ ?_
      · rintro i σ H2 _ ⟨_, _, _, _, s2, _⟩
        exact SqL.of (s2 _ _ upd_same)
      · rintro i v σ H2 hi ⟨y3, fv, M, rfl, s2, fr, dM, can⟩
        rw [List.getElem?_map, List.getElem?_map, Option.map_map] at hi
        obtain ⟨t, ht, rfl⟩ := Option.map_eq_some_iff.mp hi
        obtain ⟨c1, c2, c3, l2, mT⟩ := okT t (List.mem_of_getElem? ht)
        obtain ⟨l1, jb⟩ := few _ (fun a ha => by
          obtain ⟨t', ht', rfl⟩ := List.mem_map.mp ha
          exact (okT t' (List.mem_of_mem_take ht')).2.1) M can
        refine ⟨_, rfl, _, rfl, fv, .ref t.1, M, t.2.1, rfl, dM, dp_same (sp.trans s2) c3, can.ok, c1.ok, ?_, by omega, jb t mT, fun qn H3 qs N2 s3 nq hq dq canN => ?_⟩
        · have : M.length * (t.2.1.length + 1) ≤ m * (m1 + 1) := Nat.mul_le_mul l1 (by omega)
          omega
        · refine ⟨_, .ref qn, N2, rfl, s2.trans s3, .inr ⟨qn, rfl, (sp.trans s2).free nq⟩, .lst (SqL.of hq) dq, canN.congr fun x hx => ?_⟩
          rw [can.up x hx, c1.up x hx, take_snoc ht, List.map_append]
          constructor
          · rintro ⟨⟨h1, h2⟩, h3⟩
            refine ⟨h1, fun a ha => ?_⟩
            rcases List.mem_append.mp ha with ha | ha
            · exact h2 a ha
            · rw [List.mem_singleton.mp ha]
              exact h3
          · rintro ⟨h1, h2⟩
            exact ⟨⟨h1, fun a ha => h2 a (List.mem_append_left _ ha)⟩, h2 _ (List.mem_append_right _ (List.mem_singleton.mpr rfl))⟩
      · rintro σ H2 ⟨y3, fv, M, rfl, s2, fr, dM, can⟩
        rw [take_all (by rw [List.length_map, List.length_map])] at can
        refine ⟨_, rfl, q fv H2 M (sp.trans s2) fr dM (can.congr fun x _ => ?_)⟩
        have all : ∀ a, a ∈ T'.map (fun t => t.2.2) ↔ a ∈ T.map (fun t => t.2.2) := fun a => (pT.map _).mem_iff
        constructor
        · rintro ⟨h1, h⟩
          exact ⟨h1, fun a ha => h a ((all a).mpr ha)⟩
        · rintro ⟨h1, h⟩
          exact ⟨h1, fun a ha => h a ((all a).mp ha)⟩
end
/-! ### plans of rooms: what lasts so many asks, within a box or not (plain Lean) -/
abbrev PAsk := List (List Int × Nat)
abbrev Rooms := List (List PAsk)
def InB (b : Option Int) (z : List Int) : Prop := ∀ r, b = some r → le4 z [r, r, r, r] = true
def inB (b : Option Int) (z : List Int) : Bool := match b with
  | none => true
  | some r => le4 z [r, r, r, r]
theorem inB_iff {b : Option Int} {z : List Int} : inB b z = true ↔ InB b z := by
  cases b with
  | none => exact ⟨fun _ r h => (nomatch h), fun _ => rfl⟩
  | some r => exact ⟨fun h r' e => by cases e; exact h, fun h => h r rfl⟩
theorem InB.down {b : Option Int} {y z : List Int} (h : InB b z) (l : le4 y z = true) : InB b y := fun r e => le4_trans l (h r e)
theorem InB.join {b : Option Int} {y z : List Int} (oy : Ok4 y) (oz : Ok4 z) (hy : InB b y) (hz : InB b z) : InB b (join4 y z) := fun r e => by
  have h1 := hy r e
  have h2 := hz r e
  obtain ⟨a, b, c, d, rfl, _⟩ := oy
  obtain ⟨e, f, g, h, rfl, _⟩ := oz
  obtain ⟨p1, p2, p3, p4⟩ := le4_iff.mp h1
  obtain ⟨q1, q2, q3, q4⟩ := le4_iff.mp h2
  show le4 [max a e, max b f, max c g, max d h] [r, r, r, r] = true
  exact le4_iff.mpr ⟨by omega, by omega, by omega, by omega⟩
def roomAt (R : Rooms) (r : Nat) : List PAsk := R.getD r []
theorem roomAt_of {R : Rooms} {r : Nat} {l : List PAsk} (h : R[r]? = some l) : roomAt R r = l := by
  unfold roomAt
  rw [List.getD_eq_getElem?_getD, h, Option.getD_some]
theorem roomAt_out {R : Rooms} {r : Nat} (h : R.length ≤ r) : roomAt R r = [] := by
  unfold roomAt
  rw [List.getD_eq_getElem?_getD, List.getElem?_eq_none h, Option.getD_none]
/-- some pair of the ask leads from what x has within the box to what B tells of its room -/
def NdB (b : Option Int) (B : Nat → List Int → Prop) (a : PAsk) (x : List Int) : Prop := ∃ z, Ok4 z ∧ le4 z x = true ∧ InB b z ∧ ∃ p ∈ a, Ok4 (add4 z p.1) ∧ B p.2 (add4 z p.1)
theorem NdB.mono {b : Option Int} {B : Nat → List Int → Prop} {a : PAsk} {x y : List Int} (h : NdB b B a x) (l : le4 x y = true) : NdB b B a y :=
  let ⟨z, oz, lz, iz, q⟩ := h
  ⟨z, oz, le4_trans lz l, iz, q⟩
theorem NdB.imp {b : Option Int} {B C : Nat → List Int → Prop} {a : PAsk} {x : List Int} (i : ∀ p ∈ a, ∀ y, Ok4 y → B p.2 y → C p.2 y) (h : NdB b B a x) : NdB b C a x :=
  let ⟨z, oz, lz, iz, p, mp, o, q⟩ := h
  ⟨z, oz, lz, iz, p, mp, o, i p mp _ o q⟩
/-- what lasts n asks in room r -/
def PB (b : Option Int) (R : Rooms) : Nat → Nat → List Int → Prop
  | 0, _, _ => True
  | n + 1, r, x => PB b R n r x ∧ ∀ a ∈ roomAt R r, NdB b (PB b R n) a x
theorem PB.down {b : Option Int} {R : Rooms} {n r : Nat} {x : List Int} (h : PB b R (n + 1) r x) : PB b R n r x := h.1
theorem PB.le {b : Option Int} {R : Rooms} {n m r : Nat} {x : List Int} (h : PB b R m r x) (l : n ≤ m) : PB b R n r x := by
  obtain ⟨k, rfl⟩ := Nat.le.dest l
  clear l
  induction k with
  | zero => exact h
  | succ k ih => exact ih h.down
theorem PB.mono {b : Option Int} {R : Rooms} : ∀ {n r : Nat} {x y : List Int}, PB b R n r x → le4 x y = true → PB b R n r y
  | 0, _, _, _, _, _ => True.intro
  | _ + 1, _, _, _, h, l => ⟨PB.mono h.1 l, fun a ha => (h.2 a ha).mono l⟩
theorem PB.rest {b : Option Int} {R : Rooms} {j : Nat} (e : ∀ r x, Ok4 x → (PB b R j r x ↔ PB b R (j + 1) r x)) : ∀ (k r : Nat) (x : List Int), Ok4 x → (PB b R j r x ↔ PB b R (j + k) r x)
  | 0, _, _, _ => Iff.rfl
  | k + 1, r, x, hx => by
    refine ⟨fun h => ⟨(PB.rest e k r x hx).mp h, fun a ha => ?_⟩, fun h => (PB.rest e k r x hx).mpr h.down⟩
    exact (((e r x hx).mp h).2 a ha).imp fun p _ y oy z => (PB.rest e k p.2 y oy).mp z
theorem PB.out {b : Option Int} {R : Rooms} {r : Nat} (h : R.length ≤ r) : ∀ (n : Nat) (x : List Int), PB b R n r x
  | 0, _ => True.intro
  | n + 1, x => ⟨PB.out h n x, fun a ha => by rw [roomAt_out h] at ha; cases ha⟩
/-- a list for each room: the least ones of what is told of the room -/
structure RowOk (N : Nat) (B : Nat → List Int → Prop) (L : List (List (List Int))) : Prop where
  len : L.length = N
  can : ∀ r l, L[r]? = some l → Canon l (B r)
theorem RowOk.at {N : Nat} {B : Nat → List Int → Prop} {L : List (List (List Int))} (o : RowOk N B L) {r : Nat} (h : r < N) : ∃ l, L[r]? = some l ∧ Canon l (B r) :=
  ⟨_, List.getElem?_eq_getElem (by rw [o.len]; exact h), o.can r _ (List.getElem?_eq_getElem (by rw [o.len]; exact h))⟩
theorem RowOk.uniq {N : Nat} {B : Nat → List Int → Prop} {L M : List (List (List Int))} (o : RowOk N B L) (p : RowOk N B M) : L = M := by
  refine List.ext_getElem? fun r => ?_
  by_cases h : r < N
  · obtain ⟨l, hl, cl⟩ := o.at h
    obtain ⟨m, hm, cm⟩ := p.at h
    rw [hl, hm, cl.uniq cm]
  · rw [List.getElem?_eq_none (by rw [o.len]; omega), List.getElem?_eq_none (by rw [p.len]; omega)]
theorem RowOk.congr {N : Nat} {B C : Nat → List Int → Prop} {L : List (List (List Int))} (o : RowOk N B L) (h : ∀ r, r < N → ∀ x, Ok4 x → (B r x ↔ C r x)) : RowOk N C L :=
  ⟨o.len, fun r l hl => (o.can r l hl).congr (h r (by rw [← o.len]; exact (List.getElem?_eq_some_iff.mp hl).1))⟩
/-- two lists alike: from there on all is alike -/
theorem RowOk.rest {b : Option Int} {R : Rooms} {j : Nat} {L : List (List (List Int))} (o : RowOk R.length (PB b R j) L) (p : RowOk R.length (PB b R (j + 1)) L) (k : Nat) : RowOk R.length (PB b R (j + k)) L := by
  have e : ∀ r x, Ok4 x → (PB b R j r x ↔ PB b R (j + 1) r x) := fun r x hx => by
    by_cases h : r < R.length
    · obtain ⟨l, hl, cl⟩ := o.at h
      exact (cl.up x hx).symm.trans ((p.can r l hl).up x hx)
    · exact ⟨fun _ => PB.out (by omega) _ _, fun _ => PB.out (by omega) _ _⟩
  exact o.congr fun r _ x hx => PB.rest e k r x hx
/-- what an ask needs, as it is listed -/
def ndL (a : PAsk) (L : List (List (List Int))) : List (List Int) := a.flatMap fun p => (L.getD p.2 []).map (need4 p.1)
theorem ndL_ok {a : PAsk} {L : List (List (List Int))} (hw : ∀ p ∈ a, p.1.length = 4) (hL : ∀ l ∈ L, ∀ s ∈ l, Ok4 s) : ∀ t ∈ ndL a L, Ok4 t := fun t ht => by
  obtain ⟨p, mp, ht⟩ := List.mem_flatMap.mp ht
  obtain ⟨s, hs, rfl⟩ := List.mem_map.mp ht
  refine need4_ok (hw p mp) ?_
  rw [List.getD_eq_getElem?_getD] at hs
  cases e : L[p.2]? with
  | none =>
    rw [e] at hs
    cases hs
  | some l =>
    rw [e] at hs
    exact hL l (List.mem_of_getElem? e) s hs
theorem ndL_up {b : Option Int} {B : Nat → List Int → Prop} {a : PAsk} {L : List (List (List Int))} {N : Nat} (o : RowOk N B L) (hw : ∀ p ∈ a, p.1.length = 4 ∧ p.2 < N) {x : List Int} (hx : Ok4 x) : UpS ((ndL a L).filter (inB b)) x ↔ NdB b B a x := by
  constructor
  · rintro ⟨t, ht, l⟩
    obtain ⟨ht, ib⟩ := List.mem_filter.mp ht
    obtain ⟨p, mp, ht⟩ := List.mem_flatMap.mp ht
    obtain ⟨w4, pN⟩ := hw p mp
    obtain ⟨l0, hl0, c0⟩ := o.at pN
    rw [List.getD_eq_getElem?_getD, hl0, Option.getD_some] at ht
    obtain ⟨s, hs, rfl⟩ := List.mem_map.mp ht
    have os := c0.ok s hs
    have ot := need4_ok w4 os
    obtain ⟨h1, h2⟩ := (need4_le w4 os ot).mp (le4_refl ot)
    exact ⟨need4 p.1 s, ot, l, inB_iff.mp ib, p, mp, h1, (c0.up _ h1).mp ⟨s, hs, h2⟩⟩
  · rintro ⟨z, oz, lz, iz, p, mp, o1, q⟩
    obtain ⟨w4, pN⟩ := hw p mp
    obtain ⟨l0, hl0, c0⟩ := o.at pN
    obtain ⟨s, hs, l1⟩ := (c0.up _ o1).mpr q
    have l2 := (need4_le w4 (c0.ok s hs) oz).mpr ⟨o1, l1⟩
    refine ⟨need4 p.1 s, List.mem_filter.mpr ⟨List.mem_flatMap.mpr ⟨p, mp, ?_⟩, inB_iff.mpr (iz.down l2)⟩, le4_trans l2 lz⟩
    rw [List.getD_eq_getElem?_getD, hl0, Option.getD_some]
    exact List.mem_map.mpr ⟨s, hs, rfl⟩
theorem ndL_len {a : PAsk} {L : List (List (List Int))} {m : Nat} (h : ∀ l ∈ L, l.length ≤ m) : (ndL a L).length ≤ a.length * m := by
  induction a with
  | nil => exact Nat.zero_le _
  | cons p a ih =>
    have e : ndL (p :: a) L = (L.getD p.2 []).map (need4 p.1) ++ ndL a L := rfl
    have l1 : (L.getD p.2 []).length ≤ m := by
      rw [List.getD_eq_getElem?_getD]
      cases e2 : L[p.2]? with
      | none => exact Nat.zero_le _
      | some l => exact h l (List.mem_of_getElem? e2)
    rw [e, List.length_append, List.length_map, List.length_cons, Nat.succ_mul]
    omega
/-- one ask more: never too many come up -/
structure FewB (b : Option Int) (R : Rooms) (B : Nat → List Int → Prop) (m : Nat) : Prop where
  fv : m * 5 < 4096
  all : ∀ r, r < R.length → ∀ as : List PAsk, (∀ a ∈ as, a ∈ roomAt R r) → ∀ M, Canon M (fun x => B r x ∧ ∀ a ∈ as, NdB b B a x) → M.length ≤ m
  two : ∃ m1, m * (m1 + 1) ≤ 100000 ∧ m1 < 4096 ∧ (∀ r, r < R.length → ∀ a ∈ roomAt R r, ∀ M, Canon M (NdB b B a) → M.length ≤ m1) ∧
    ∀ r, r < R.length → ∀ as : List PAsk, (∀ a ∈ as, a ∈ roomAt R r) → ∀ a ∈ roomAt R r, ∀ M N, Canon M (fun x => B r x ∧ ∀ a ∈ as, NdB b B a x) → Canon N (NdB b B a) → JB M N
/-- few enough by their numbers alone -/
theorem fewB_of {b : Option Int} {R : Rooms} {B : Nat → List Int → Prop} {m m1 : Nat} (fv : m * 5 < 4096) (all : ∀ r, r < R.length → ∀ as : List PAsk, (∀ a ∈ as, a ∈ roomAt R r) → ∀ M, Canon M (fun x => B r x ∧ ∀ a ∈ as, NdB b B a x) → M.length ≤ m)
    (sq : m * (m1 + 1) < 4096) (l1 : m1 < 4096) (one : ∀ r, r < R.length → ∀ a ∈ roomAt R r, ∀ M, Canon M (NdB b B a) → M.length ≤ m1) : FewB b R B m :=
  ⟨fv, all, m1, by omega, l1, one, fun r hr as sub a ha M N cM cN => jb_prod (Nat.lt_of_le_of_lt (Nat.mul_le_mul (all r hr as sub M cM) (Nat.succ_le_succ (one r hr a ha N cN))) sq)⟩
def FewP (b : Option Int) (R : Rooms) (n : Nat) : Prop := ∀ j, j < n → ∃ m, FewB b R (PB b R j) m
theorem FewP.le {b : Option Int} {R : Rooms} {n k : Nat} (f : FewP b R n) (h : k ≤ n) : FewP b R k := fun j hj => f j (by omega)
/-- what one ask more leaves of B -/
def PBn (b : Option Int) (R : Rooms) (B : Nat → List Int → Prop) (r : Nat) (x : List Int) : Prop := B r x ∧ ∀ a ∈ roomAt R r, NdB b B a x
theorem FewB.len {b : Option Int} {R : Rooms} {B : Nat → List Int → Prop} {m : Nat} (f : FewB b R B m) {L : List (List (List Int))} (o : RowOk R.length B L) (r : Nat) (l : List (List Int)) (hl : L[r]? = some l) : l.length ≤ m :=
  f.all r (by rw [← o.len]; exact (List.getElem?_eq_some_iff.mp hl).1) [] (fun a h => nomatch h) l ((o.can r l hl).congr fun x _ => ⟨fun h => ⟨h, fun a ha => nomatch ha⟩, fun h => h.1⟩)
/-- the rooms of a plan, in four -/
structure RmOk (R : Rooms) : Prop where
  few : R.length ≤ 1000
  asks : ∀ l ∈ R, l.length ≤ 1000
  five : ∀ l ∈ R, ∀ a ∈ l, a.length ≤ 5
  pair : ∀ l ∈ R, ∀ a ∈ l, ∀ p ∈ a, p.1.length = 4 ∧ p.2 < R.length
/-! ### a plan's data -/
def pairP (p : List Int × Nat) : PyData := .tuple [wayD p.1, .int p.2]
abbrev paskD (a : PAsk) : PyData := .list (a.map pairP)
abbrev roomD (r : List PAsk) : PyData := .list (r.map paskD)
abbrev roomsD (R : Rooms) : PyData := .list (R.map roomD)
abbrev lvD (L : List (List (List Int))) : PyData := .list (L.map stsD)
theorem noL_pairP (p : List Int × Nat) : noL (pairP p) = true := by
  unfold pairP
  simp only [noL, noLAll, noL_way, Bool.and_true]
theorem pairP_of {K : PySem.W.Frag} {H : Hp} {v : V} {p : List Int × Nat} (h : Dp K H v (pairP p)) : ∃ a x, v = .ref a ∧ SqT K H a [x, .int p.2] ∧ Dp K H x (wayD p.1) := by
  cases h with
  | @tup a vs _ hT hall =>
    cases hall with
    | @cons v1 _ _ _ d1 r1 =>
    cases r1 with
    | @cons v2 _ _ _ d2 r2 =>
    cases r2
    cases d2
    exact ⟨a, v1, rfl, hT, d1⟩
theorem mapD_get {K : PySem.W.Frag} {H : Hp} {α : Type} {f : α → PyData} {vs : List V} {l : List α} {j : Nat} {v : V} (h : DpAll K H vs (l.map f)) (e : vs[j]? = some v) : ∃ t, l[j]? = some t ∧ Dp K H v (f t) := by
  obtain ⟨d, hd, dv⟩ := dpAll_get h e
  rw [List.getElem?_map] at hd
  obtain ⟨t, ht, rfl⟩ := Option.map_eq_some_iff.mp hd
  exact ⟨t, ht, dv⟩
theorem mapD_len {K : PySem.W.Frag} {H : Hp} {α : Type} {f : α → PyData} {vs : List V} {l : List α} (h : DpAll K H vs (l.map f)) : vs.length = l.length := by rw [dpAll_len h, List.length_map]
theorem mapD_at {K : PySem.W.Frag} {H : Hp} {α : Type} {f : α → PyData} {vs : List V} {l : List α} {j : Nat} {t : α} (h : DpAll K H vs (l.map f)) (e : l[j]? = some t) : ∃ v, vs[j]? = some v ∧ Dp K H v (f t) :=
  dpAll_getD h (by rw [List.getElem?_map, e]; rfl)
theorem lst_of {K : PySem.W.Frag} {H : Hp} {v : V} {α : Type} {f : α → PyData} {S : List α} (h : Dp K H v (.list (S.map f))) : ∃ l vs, v = .ref l ∧ SqL K H l vs ∧ DpAll K H vs (S.map f) := by
  cases h with
  | @lst a vs _ hL hall => exact ⟨a, vs, rfl, hL, hall⟩
theorem tup_of {K : PySem.W.Frag} {H : Hp} {v : V} {α : Type} {f : α → PyData} {S : List α} (h : Dp K H v (.tuple (S.map f))) : ∃ l vs, v = .ref l ∧ SqT K H l vs ∧ DpAll K H vs (S.map f) := by
  cases h with
  | @tup a vs _ hL hall => exact ⟨a, vs, rfl, hL, hall⟩
/-! ### the lists of one ask more -/
def sNoMore : Stmt := topS 21
def sForAsk : Stmt := topS 20
/-- the box's number, if there is one -/
def boxV : Option Int → V
  | none => .non
  | some r => .int r
theorem max4_le {a b c d r : Int} : decide ([b, c, d].foldl max a ≤ r) = inB (some r) [a, b, c, d] := by
  rw [Bool.eq_iff_iff, decide_eq_true_iff, foldl_max_le]
  show _ ↔ le4 [a, b, c, d] [r, r, r, r] = true
  rw [le4_iff]
  simp only [List.mem_cons, List.not_mem_nil, or_false, forall_eq_or_imp, forall_eq]
def spNoMore (K : PySem.W.Frag) : Sp := fun vs H Q _ => ∃ (x : V) (b : Option Int) (S : List (List Int)), vs = [boxV b, x] ∧ Dp K H x (stsD S) ∧ (∀ t ∈ S, t.length = 4) ∧ S.length ≤ 5000 ∧ ∀ v H', Same H H' → Dp K H' v (stsD (S.filter (inB b))) → Q v H'
def spForAsk (K : PySem.W.Frag) : Sp := fun vs H Q _ => ∃ (x y : V) (b : Option Int) (B : Nat → List Int → Prop) (a : PAsk) (L : List (List (List Int))) (N : Nat), vs = [x, y, boxV b] ∧ Dp K H x (paskD a) ∧ Dp K H y (lvD L) ∧ (∀ p ∈ a, p.1.length = 4 ∧ p.2 < N) ∧ RowOk N B L ∧ (ndL a L).length < 4096 ∧ (∀ l ∈ L, l.length ≤ 4095) ∧
  ∀ q H' ps M, Same H H' → H q = none → H' q = some (.lst ps) → DpAll K H' ps (M.map wayD) → Canon M (NdB b B a) → Q (.ref q) H'
section
variable {P : Program} {w : World} {K : PySem.W.Frag} {mg : Str → Option Value} {base : Heap}
theorem scNoMore : FnScope ["b", "stores", "store"] ["b", "stores"] (defScope sNoMore) := ⟨rfl, rfl, rfl, by decide +kernel, rfl, by decide +kernel, by decide +kernel⟩
theorem ok_noMore {f : Addr} {fd : FuncData} {k : Nat} (F : Fun K "no_more_than" "no_more_than" sNoMore f fd) (mx : mg "max" = none) : FnOk P w K mg base CX0 (k + 1) f fd ["b", "stores"] (spNoMore K) := by
  refine F.ok scNoMore (fun vs H Q E h => ?_) (fun cdv A outer s H vs Q E hr h => ?_)
  · obtain ⟨x, b, S, rfl, _⟩ := h
    rfl
  · obtain ⟨x, b, S, rfl, hx, l4, fw, q⟩ := h
    refine ⟨_, pss_one (ps_ret (pe_ifExp (pt_cmp (pc_isN (pv 0))) (pv 1)
      (pe_lc (own := [("store", 2)]) (g := gName 2) (tt := tTest (tOp (rI0 fun i j => .bl (decide (i ≤ j))) (tCB (rMaxT K) (tCons (tVar 2) tNil)) (tVar 0))) rfl scNoMore.nd (pi_list (pv 1))
        (blkOk_by (N := ["b", "stores", "store"]) (sc := defScope sNoMore) (by decide +kernel))
        (fun _ _ _ _ _ => by exact pg_name (i := 2) scNoMore.nd rfl (.inl rfl)) (fun _ _ _ _ _ => by exact pts_one (pt_cmpR op_le (pe_callB (cr_maxT rfl hr) (by rfl) mx (by decide +kernel) (pa_cons (pv 2) pa_nil)) (pv 0) (nomark _)))
        (fun _ _ _ _ _ => by exact pv 2)))), ?_⟩
    obtain ⟨l, vs, rfl, hL, hall⟩ := sts_of hx
    have lv := sts_len hall
    cases b with
    | none =>
      refine ⟨_, rfl, true, rfl, ifT rfl ⟨_, rfl, q _ H (Same.refl _) ?_⟩⟩
      rw [show S.filter (inB none) = S from List.filter_eq_self.mpr fun _ _ => rfl]
      exact .lst hL hall
    | some r =>
      refine ⟨_, rfl, false, rfl, ifF rfl ⟨_, rfl, l, rfl, ⟨_, hL⟩, fun D nD => ?_⟩⟩
      have sD := same_upd (o := .lst []) nD
      refine lc_list (K := K) (a := l) (xs := vs) (fun j H1 => Same H H1 ∧ ∃ ps, H1 D = some (.lst ps) ∧ DpAll K H1 ps (((S.take j).filter (inB (some r))).map wayD)) ⟨sD, [], upd_same, .nil⟩ (fun j H1 _ ⟨s1, _⟩ => s1.seq hL) ?_ ?_
      · rintro j v H1 hj ⟨s1, ps, hD, dps⟩
        obtain ⟨t, ht, dv⟩ := sts_get hall hj
        obtain ⟨ta, rfl, hT⟩ := way_of dv
        obtain ⟨a, b, c, d, rfl⟩ := four_of (l4 t (List.mem_of_getElem? ht))
        have lp := sts_len dps
        have lf := List.length_filter_le (inB (some r)) (S.take j)
        rw [List.length_take] at lf
        refine ⟨rfl, _, rfl, ta, a, [b, c, d], rfl, s1.seqT hT, _, rfl, _, r, rfl, rfl, _, rfl, ?_⟩
        rw [max4_le, take_snoc ht, List.filter_append]
        refine ite2 (fun y => ?_) fun y => ?_
        · rw [show [[a, b, c, d]].filter (inB (some r)) = [[a, b, c, d]] by rw [List.filter_cons, if_pos y]; rfl]
          refine ⟨_, rfl, ps, hD, small_line (by omega), fun b2 o e2 => ?_, ps ++ [.ref ta], upd_same, ?_⟩
          · rw [upd_ne (ne_of_none e2 nD)]
            exact s1 _ _ e2
          · rw [List.map_append]
            exact dpAll_put hD (dpAll_app dps (.cons (dp_same s1 dv) .nil)) (noL_app _ [[a, b, c, d]])
        · rw [show [[a, b, c, d]].filter (inB (some r)) = [] by rw [List.filter_cons, if_neg y]; rfl, List.append_nil]
          exact ⟨s1, ps, hD, dps⟩
      · rintro H1 ⟨s1, ps, hD, dps⟩
        rw [take_all lv] at dps
        exact q _ H1 s1 (.lst (SqL.of hD) dps)
theorem scForAsk : FnScope ["ask", "before", "b", "way", "to", "store"] ["ask", "before", "b"] (defScope sForAsk) := ⟨rfl, rfl, rfl, by decide +kernel, rfl, by decide +kernel, by decide +kernel⟩
theorem ok_forAsk {f fN fM fL : Addr} {fd fdN fdM fdL : FuncData} {k : Nat} (F : Fun K "least_for_ask" "least_for_ask" sForAsk f fd)
    (GN : FnOk P w K mg base CX0 (k + 2) fN fdN ["way", "stores"] (spNeeded K need4)) (kN : PySem.W.keepIn K (.ref fN) = true) (bN : Binds K fdN ["way", "stores"] []) (gN : mg "needed" = some (.ref fN))
    (GM : FnOk P w K mg base CX0 (k + 2) fM fdM ["b", "stores"] (spNoMore K)) (kM : PySem.W.keepIn K (.ref fM) = true) (bM : Binds K fdM ["b", "stores"] []) (gM : mg "no_more_than" = some (.ref fM))
    (GL : FnOk P w K mg base CX0 (k + 2) fL fdL ["stores"] (spLeastOf K)) (kL : PySem.W.keepIn K (.ref fL) = true) (bL : Binds K fdL ["stores"] []) (gL : mg "least_of" = some (.ref fL)) :
    FnOk P w K mg base CX0 (k + 3) f fd ["ask", "before", "b"] (spForAsk K) := by
  refine F.ok scForAsk (fun vs H Q E h => ?_) (fun cdv A outer s H vs Q E hr h => ?_)
  · obtain ⟨x, y, b, B, a, L, N, rfl, _⟩ := h
    rfl
  · obtain ⟨x, y, b, B, a, L, N, rfl, hx, hy, hw, o, fw, lL, q⟩ := h
    refine ⟨_, pss_one (ps_ret (pe_call GL hr (by rfl) gL kL bL .nil pass0 (pa_cons (pe_call GM hr (by rfl) gM kM bM .nil pass0 (pa_cons (pv 2) (pa_cons
      (pe_lc2 (wi1 := iList K (tCall (spNeeded K need4) [] E0 (tCons (tVar 3) (tCons (tOp (rIxL K) (tVar 1) (tVar 4)) tNil)))) (own := [("way", 3), ("to", 4), ("store", 5)]) (vs1 := [5]) (g := gTup K 2 (gCons (gName 3) (gCons (gName 4) gNil))) (tt := tYes) (g1 := gName 5) (tt1 := tYes) rfl scForAsk.nd (pi_list (pv 0))
        (blkOk_by (N := ["ask", "before", "b", "way", "to", "store"]) (sc := defScope sForAsk) (by decide +kernel)) (by decide)
        (fun _ _ _ _ _ => by refine pg_tup rfl (pgs_cons ?_ (pgs_cons ?_ pgs_nil)); exact pg_name (i := 3) scForAsk.nd rfl (.inl rfl); exact pg_name (i := 4) scForAsk.nd rfl (.inl rfl)) (fun _ _ _ _ _ => pts_nil)
        (fun _ _ _ _ _ => by exact pi_list (pe_call GN hr (by rfl) gN kN bN .nil pass0 (pa_cons (pv 3) (pa_cons (pe_ix ix_list (pv 1) (pv 4) (fun _ _ => rfl)) pa_nil))))
        (fun _ _ _ _ _ => by exact pg_name (i := 5) scForAsk.nd rfl (.inl rfl)) (fun _ _ _ _ _ => pts_nil)
        (fun _ _ _ _ _ => by exact pv 5)) pa_nil))) pa_nil))), ?_⟩
    obtain ⟨l, vs, rfl, hL, hall⟩ := lst_of hx
    obtain ⟨m, us, rfl, hM, mall⟩ := lst_of hy
    have lv := mapD_len hall
    refine ⟨_, rfl, _, rfl, l, rfl, ⟨_, hL⟩, fun D nD => ?_⟩
    have sD := same_upd (o := .lst []) nD
    refine walk_gen (walk_list (K := K) (a := l) (xs := vs)) _ (fun j H1 => Same H H1 ∧ ∃ ps, H1 D = some (.lst ps) ∧ DpAll K H1 ps ((ndL (a.take j) L).map wayD)) ⟨sD, [], upd_same, .nil⟩ (fun j H1 _ ⟨s1, _⟩ => s1.seq hL) ?_ ?_
    · rintro j v H1 H1' lj ⟨s1, ps, hD, dps⟩ ⟨rfl, hj⟩
      obtain ⟨p, hp, dp⟩ := mapD_get hall hj
      obtain ⟨pa, px, rfl, hpT, dpx⟩ := pairP_of dp
      have mp := List.mem_of_getElem? hp
      obtain ⟨w4, pN⟩ := hw p mp
      obtain ⟨l0, hl0, c0⟩ := o.at pN
      obtain ⟨lv0, hlv0, dl0⟩ := mapD_at mall hl0
      have len0 := lL l0 (List.mem_of_getElem? hl0)
      have esnoc : ndL (a.take (j + 1)) L = ndL (a.take j) L ++ l0.map (need4 p.1) := by
        unfold ndL
        rw [take_snoc hp, List.flatMap_append, List.flatMap_cons, List.flatMap_nil, List.append_nil, List.getD_eq_getElem?_getD, hl0, Option.getD_some]
      have sub : (ndL (a.take (j + 1)) L).length ≤ (ndL a L).length := by
        have e : ndL a L = ndL (a.take (j + 1)) L ++ ndL (a.drop (j + 1)) L := by
          unfold ndL
          rw [← List.flatMap_append, List.take_append_drop]
        rw [e, List.length_append]
        omega
      rw [esnoc, List.length_append, List.length_map] at sub
      refine ⟨pa, _, rfl, s1.seqT hpT, rfl, _, _, rfl, _, _, rfl, rfl, rfl, ?_⟩
      refine ⟨_, rfl, _, rfl, _, rfl, m, us, p.2, lv0, rfl, rfl, s1.seq hM, atI_nat hlv0, px, lv0, p.1, l0, rfl, dp_same s1 dpx, dp_same s1 dl0, w4, fun t ht => ok4_len (c0.ok t ht), by omega, fun qn H3 qs s3 nq hq dqs => ⟨qn, rfl, ⟨_, SqL.of hq⟩, ?_⟩⟩
      have hD3 := s3 _ _ hD
      have nqD : qn ≠ D := (ne_of_none hD nq).symm
      have lq := sts_len dqs
      rw [List.length_map] at lq
      refine walk_gen (walk_list (K := K) (a := qn) (xs := qs)) _ (fun i H4 => Kp D H3 H4 ∧ ∃ ps, H4 D = some (.lst ps) ∧ DpAll K H4 ps ((ndL (a.take j) L ++ (l0.map (need4 p.1)).take i).map wayD)) ⟨Kp.refl _ _, ps, hD3, by rw [List.take_zero, List.append_nil]; exact dpAll_same s3 dps⟩ (fun i H4 _ ⟨k4, _⟩ => SqL.of (k4 _ _ hq nqD)) ?_ ?_
      · rintro i x H4 H4' li ⟨k4, ps4, hD4, dps4⟩ ⟨rfl, hi⟩
        obtain ⟨t, ht, dt⟩ := sts_get dqs hi
        have lp := sts_len dps4
        simp only [List.length_append, List.length_take, List.length_map] at lp
        refine ⟨rfl, ?_⟩
        refine ⟨_, rfl, ps4, hD4, small_line (by omega), fun b o e n => ?_, ps4 ++ [x], upd_same, ?_⟩
        · rw [upd_ne n]
          exact k4 b o e n
        · rw [take_snoc ht, ← List.append_assoc, List.map_append]
          exact dpAll_put hD4 (dpAll_app dps4 (.cons (dp_kp k4 hD3 dt (noL_way _)) .nil)) (noL_app _ [t])
      · rintro H4 ⟨k4, ps4, hD4, dps4⟩
        rw [show (l0.map (need4 p.1)).take qs.length = l0.map (need4 p.1) from take_all (by rw [List.length_map]; exact lq)] at dps4
        refine ⟨fun b o e => k4 b o (s3 b o (s1 b o e)) (ne_of_none e nD), ps4, hD4, ?_⟩
        rw [esnoc]
        exact dps4
    · rintro H1 ⟨s1, ps, hD, dps⟩
      rw [lv, List.take_length] at dps
      have ok := ndL_ok (a := a) (L := L) (fun p hp => (hw p hp).1) fun l hl s hs => by
        obtain ⟨r, hr⟩ := List.mem_iff_getElem?.mp hl
        exact (o.can r l hr).ok s hs
      refine ⟨.ref D, b, ndL a L, rfl, .lst (SqL.of hD) dps, fun t ht => ok4_len (ok t ht), by omega, fun v2 H2 s2 d2 => ?_⟩
      refine ⟨v2, (ndL a L).filter (inB b), rfl, d2, fun t ht => ok t (List.mem_filter.mp ht).1, Nat.lt_of_le_of_lt (List.length_filter_le _ _) fw, fun qq H3 qs M s3 nq hq dq can _ => ?_⟩
      exact q qq H3 qs M ((s1.trans s2).trans s3) ((s1.trans s2).free nq) hq dq (can.congr fun x hx => ndL_up o hw hx)
end
/-! ### one ask more, for each room -/
def sOneMore : Stmt := topS 19
/-- a list of ways that stands elsewhere stands without the one at a -/
theorem sts_rmv {K : PySem.W.Frag} {H : Hp} {a l : Addr} {us : List V} {S : List (List Int)} (h : Dp K H (.ref l) (stsD S)) (ha : H a = some (.lst us)) (ne : l ≠ a) : Dp K (rmv H a) (.ref l) (stsD S) := by
  cases h with
  | @lst _ vs _ hL hall =>
    refine .lst ?_ (dpAll_kp (rmv_kp H a) ha hall (noLAll_map noL_way _))
    rcases hL with (h | ⟨o, h⟩) | h
    · exact .inl (.inl (by rw [rmv_ne ne]; exact h))
    · exact .inl (.inr ⟨o, by rw [rmv_ne ne]; exact h⟩)
    · exact .inr h
theorem rmv_same2 {H H' : Hp} {a d : Addr} (s : Same H H') (nd : H d = none) : Same (rmv H a) (rmv (rmv H' a) d) := fun b o e => by
  obtain ⟨n, e⟩ := rmv_some e
  rw [rmv_ne (ne_of_none e nd), rmv_ne n]
  exact s _ _ e
theorem rmv_to {H H' : Hp} {a : Addr} (s : Same H H') : Same (rmv H a) (rmv H' a) := rmv_rmv fun b o _ e => s _ _ e
def spOneMore (K : PySem.W.Frag) : Sp := fun vs H Q _ => ∃ (x y : V) (b : Option Int) (R : Rooms) (L : List (List (List Int))) (B : Nat → List Int → Prop) (m : Nat) (ll : Addr) (us : List V), vs = [x, y, boxV b] ∧ H ll = some (.lst us) ∧ Dp K (rmv H ll) x (roomsD R) ∧ Dp K (rmv H ll) y (lvD L) ∧
  RmOk R ∧ RowOk R.length B L ∧ FewB b R B m ∧
  ∀ q H' M, Same H H' → H q = none → Dp K (rmv H' ll) (.ref q) (lvD M) → RowOk R.length (PBn b R B) M → Q (.ref q) H'
section
variable {P : Program} {w : World} {K : PySem.W.Frag} {mg : Str → Option Value} {base : Heap}
theorem scOneMore : FnScope ["rooms", "before", "b", "room", "there", "ask"] ["rooms", "before", "b"] (defScope sOneMore) := ⟨rfl, rfl, rfl, by decide +kernel, rfl, by decide +kernel, by decide +kernel⟩
theorem ok_oneMore {f fA fB : Addr} {fd fdA fdB : FuncData} {k : Nat} (F : Fun K "least_one_more" "least_one_more" sOneMore f fd)
    (GA : FnOk P w K mg base CX0 (k + 4) fA fdA ["ask", "before", "b"] (spForAsk K)) (kA : PySem.W.keepIn K (.ref fA) = true) (bA : Binds K fdA ["ask", "before", "b"] []) (gA : mg "least_for_ask" = some (.ref fA))
    (GB : FnOk P w K mg base CX0 (k + 4) fB fdB ["before", "needs"] (spInAll K)) (kB : PySem.W.keepIn K (.ref fB) = true) (bB : Binds K fdB ["before", "needs"] []) (gB : mg "least_in_all" = some (.ref fB)) (mz : mg "zip" = none) :
    FnOk P w K mg base CX0 (k + 5) f fd ["rooms", "before", "b"] (spOneMore K) := by
  refine F.ok scOneMore (fun vs H Q E h => ?_) (fun cdv A outer s H vs Q E hr h => ?_)
  · obtain ⟨x, y, b, R, L, B, m, ll, us, rfl, _⟩ := h
    rfl
  · obtain ⟨x, y, b, R, L, B, m, ll, us, rfl, hll, hx, hy, okR, oL, fw, q⟩ := h
    refine ⟨_, pss_one (ps_ret (pe_lc (own := [("room", 3), ("there", 4)]) (g := gTup K 2 (gCons (gName 3) (gCons (gName 4) gNil))) (tt := tYes)
        (te := tCall (spInAll K) [] E0 (tCons (tVar 4) (tCons (tLc (iList K (tVar 3)) (gName 5) tYes (tCall (spForAsk K) [] E0 (tCons (tVar 5) (tCons (tVar 1) (tCons (tVar 2) tNil)))) [5]) tNil))) rfl scOneMore.nd (pi_zipA (by rfl) mz (pa_cons (pv 0) (pa_cons (pv 1) pa_nil)))
        (blkOk_by (N := ["rooms", "before", "b", "room", "there", "ask"]) (sc := defScope sOneMore) (by decide +kernel))
        (fun _ _ _ _ _ => by refine pg_tup rfl (pgs_cons ?_ (pgs_cons ?_ pgs_nil)); exact pg_name (i := 3) scOneMore.nd rfl (.inl rfl); exact pg_name (i := 4) scOneMore.nd rfl (.inl rfl))
        (fun _ _ _ _ _ => pts_nil)
        (fun _ _ _ _ _ => by exact (by
          refine pe_call GB hr (by rfl) gB kB bB .nil pass0 (pa_cons (pv 4) (pa_cons ?_ pa_nil))
          refine pe_lc (wi := iList K (tVar 3)) (own := [("ask", 5)]) (g := gName 5) (tt := tYes) (te := tCall (spForAsk K) [] E0 (tCons (tVar 5) (tCons (tVar 1) (tCons (tVar 2) tNil)))) ?_ ?_ ?_ ?_ ?_ ?_ ?_
          · rfl
          · exact scOneMore.nd
          · exact pi_list (pv 3)
          · exact blkOk_by (N := ["rooms", "before", "b", "room", "there", "ask"]) (sc := lcSc [(".0", .local), ("room", .local), ("there", .local), ("least_in_all", .globalImplicit), ("b", .cell), ("before", .cell)]) (by decide +kernel)
          · exact fun _ _ _ _ _ => by exact pg_name (i := 5) scOneMore.nd rfl (.inl rfl)
          · exact fun _ _ _ _ _ => pts_nil
          · exact fun _ _ _ _ _ => by exact pe_call GA hr (by rfl) gA kA bA .nil pass0 (pa_cons (pv 5) (pa_cons (pv 1) (pa_cons (pv 2) pa_nil))))))), ?_⟩
    obtain ⟨ra, rvs, rfl, hR0, rall⟩ := lst_of hx
    obtain ⟨ba, bvs, rfl, hB0, ball⟩ := lst_of hy
    have lr := mapD_len rall
    have lb := mapD_len ball
    have lbR : bvs.length = R.length := by rw [lb, oL.len]
    have toH : Same (rmv H ll) H := rmv_same fun b o _ e => e
    have hR := toH.seq hR0
    have hB := toH.seq hB0
    have m5 := fw.fv
    obtain ⟨m1, msq, m1l, fone, fjb⟩ := fw.two
    have fewL : ∀ (r : Nat) (l : List (List Int)), L[r]? = some l → l.length ≤ m := fun r l hl => fw.len oL r l hl
    refine ⟨_, rfl, _, rfl, ra, ba, rvs, bvs, rfl, .inl ⟨hR, hB, fun D nD => ?_⟩⟩
    have sD := same_upd (o := .lst []) nD
    have nDl : D ≠ ll := (ne_of_none hll nD).symm
    refine lc_it (walk_zip (K := K) (a := ra) (b := ba) (xs := rvs) (ys := bvs) (n := R.length) (by rw [lr, lbR, Nat.min_self])) (fun i H1 => Same H H1 ∧ ∃ ps Ls, H1 D = some (.lst ps) ∧ DpAll K (rmv (rmv H1 ll) D) ps (Ls.map stsD) ∧ Ls.length = i ∧ ∀ r l, Ls[r]? = some l → Canon l (PBn b R B r))
      ⟨sD, [], [], upd_same, .nil, rfl, fun r l h => nomatch h⟩ (fun i H1 _ ⟨s1, _⟩ => ⟨s1.seq hR, s1.seq hB⟩) ?_ ?_
    · rintro i v H1 H2 hi ⟨s1, ps, Ls, hD, dps, eLs, cLs⟩ ⟨T, v1, v2, rfl, nT, rfl, f1, f2⟩
      have sT := same_upd (o := .tup [v1, v2]) nT
      obtain ⟨room, hroom, droom⟩ := mapD_get rall f1
      obtain ⟨l0, hl0, dl0⟩ := mapD_get ball f2
      have mroom := List.mem_of_getElem? hroom
      have at_r := roomAt_of hroom
      have c0 := oL.can i l0 hl0
      have lasks := okR.asks room mroom
      obtain ⟨qa, qvs, rfl, hQ0, qall⟩ := lst_of droom
      have lq := mapD_len qall
      have hQ := toH.seq hQ0
      have lps := mapD_len dps
      have lRR := okR.few
      have s1T := s1.trans sT
      refine ⟨T, _, rfl, SqT.of upd_same, rfl, _, _, rfl, _, _, rfl, rfl, rfl, ?_⟩
      refine ⟨_, rfl, ?_⟩
      refine ⟨_, rfl, qa, rfl, ⟨_, s1T.seq hQ⟩, fun G nG => ?_⟩
      have sG := same_upd (o := .lst []) nG
      have hDT := sT _ _ hD
      have nGD : G ≠ D := (ne_of_none hDT nG).symm
      have hllT := s1T _ _ hll
      have nGl : G ≠ ll := (ne_of_none hllT nG).symm
      have nGH : H G = none := s1T.free nG
      -- the needs, ask by ask: their lists, what they are, of which ask
      refine lc_list (K := K) (a := qa) (xs := qvs) (fun t H3 => Same (upd H1 T (.tup [.ref qa, v2])) H3 ∧ ∃ TT : List (Addr × List (List Int) × PAsk), H3 G = some (.lst (TT.map fun t => V.ref t.1)) ∧ TT.map (fun t => t.2.2) = room.take t ∧
          ∀ t ∈ TT, Canon t.2.1 (NdB b B t.2.2) ∧ (∃ ys, rmv H3 G t.1 = some (.lst ys)) ∧ Dp K (rmv H3 G) (.ref t.1) (stsD t.2.1)) ⟨sG, [], upd_same, rfl, fun t h => nomatch h⟩ (fun t H3 _ ⟨s3, _⟩ => s3.seq (s1T.seq hQ)) ?_ ?_
      · rintro t v H3 ht ⟨s3, TT, hG, eT, hT⟩
        obtain ⟨a, ha, da⟩ := mapD_get qall ht
        have ma := List.mem_of_getElem? ha
        have l5 := okR.five room mroom a ma
        have lw := okR.pair room mroom a ma
        have s13 := s1T.trans s3
        have lT : TT.length ≤ 1000 := by
          have := congrArg List.length eT
          rw [List.length_map, List.length_take] at this
          omega
        have nl := ndL_len (a := a) (L := L) (m := m) fun l hl => by
          obtain ⟨r, hr⟩ := List.mem_iff_getElem?.mp hl
          exact fewL r l hr
        refine ⟨rfl, ?_⟩
        refine ⟨_, rfl, _, rfl, _, rfl, v, .ref ba, b, B, a, L, R.length, rfl, dp_same (toH.trans s13) da, dp_same (toH.trans s13) hy, lw, oL, ?_, fun l hl => ?_, fun qn H4 qs M s4 nq hq dq can => ?_⟩
        · have : a.length * m ≤ 5 * m := Nat.mul_le_mul_right m l5
          omega
        · obtain ⟨r, hr⟩ := List.mem_iff_getElem?.mp hl
          have := fewL r l hr
          omega
        · have hG4 := s4 _ _ hG
          have nqG : qn ≠ G := (ne_of_none hG nq).symm
          refine ⟨_, hG4, small_line (by rw [List.length_map]; omega), fun b o e => ?_, TT ++ [(qn, M, a)], by rw [upd_same, List.map_append]; rfl, ?_, fun t ht => ?_⟩
          · rw [upd_ne (ne_of_none e nG)]
            exact s4 _ _ (s3 _ _ e)
          · rw [List.map_append, eT, take_snoc ha]
            rfl
          · have kd : Kp G H4 (rmv (upd H4 G (.lst (TT.map (fun t => V.ref t.1) ++ [.ref qn]))) G) := fun b o e n => by rw [rmv_ne n, upd_ne n]; exact e
            have rr : Same (rmv H3 G) (rmv (upd H4 G (.lst (TT.map (fun t => V.ref t.1) ++ [.ref qn]))) G) := rmv_rmv fun b o n e => by rw [upd_ne n]; exact s4 _ _ e
            rcases List.mem_append.mp ht with ht | ht
            · obtain ⟨c1, ⟨ys, c2⟩, c3⟩ := hT t ht
              exact ⟨c1, ⟨ys, rr _ _ c2⟩, dp_same rr c3⟩
            · rw [List.mem_singleton.mp ht]
              exact ⟨can, ⟨qs, kd _ _ hq nqG⟩, .lst (SqL.of (kd _ _ hq nqG)) (dpAll_kp kd hG4 dq (noLAll_map noL_way _))⟩
      · rintro H3 ⟨s3, TT, hG, eT, hT⟩
        rw [lq, List.take_length] at eT
        have toG : Same (rmv H3 G) H3 := rmv_same fun b o _ e => e
        have memT : ∀ t ∈ TT, t.2.2 ∈ room := fun t ht => by
          rw [← eT]
          exact List.mem_map.mpr ⟨t, ht, rfl⟩
        have s13 := s1T.trans s3
        have iR : i < R.length := hi
        refine ⟨PAsk, v2, G, l0, B i, NdB b B, TT, m, m1, rfl, dp_same (toH.trans s13) dl0, SqL.of hG, ?_, fun t ht => ?_, c0, msq, m1l, fun as sub M cM => ⟨fw.all i iR as (by rw [at_r]; rw [eT] at sub; exact sub) M cM, fun t ht => fjb i iR as (by rw [at_r]; rw [eT] at sub; exact sub) t.2.2 (by rw [at_r]; exact memT t ht) M t.2.1 cM (hT t ht).1⟩, fun v H4 M s4 fr dv can => ?_⟩
        · have := congrArg List.length eT
          rw [List.length_map] at this
          omega
        · obtain ⟨c1, ⟨ys, c2⟩, c3⟩ := hT t ht
          exact ⟨c1, ⟨ys, toG _ _ c2⟩, dp_same toG c3, fone i iR _ (by rw [at_r]; exact memT t ht) _ c1⟩
        · have hD3 := s3 _ _ hDT
          have hD4 := s4 _ _ hD3
          have s14 := s13.trans s4
          have hl4 := s14 _ _ hll
          have dv4 : Dp K (rmv (rmv H4 ll) D) v (stsD M) := by
            rcases fr with ⟨rfl, rfl⟩ | ⟨q0, rfl, nq0⟩
            · exact dp_same (rmv_same2 s14 nD) dl0
            · have nl : q0 ≠ ll := (ne_of_none (s13 _ _ hll) nq0).symm
              have nd : q0 ≠ D := (ne_of_none hD3 nq0).symm
              exact sts_rmv (sts_rmv dv hl4 nl) (by rw [rmv_ne nDl]; exact hD4) nd
          refine ⟨_, hD4, small_line (by omega), fun b o e => ?_, ps ++ [v], Ls ++ [M], upd_same, ?_, ?_, fun r l hl => ?_⟩
          · rw [upd_ne (ne_of_none e nD)]
            exact s14 _ _ e
          · have s24 := (sT.trans s3).trans s4
            have rr : Same (rmv (rmv H1 ll) D) (rmv (rmv (upd H4 D (.lst (ps ++ [v]))) ll) D) := rmv_rmv fun b o n e => by
              obtain ⟨n2, e⟩ := rmv_some e
              rw [rmv_ne n2, upd_ne n]
              exact s24 _ _ e
            have rr2 : Same (rmv (rmv H4 ll) D) (rmv (rmv (upd H4 D (.lst (ps ++ [v]))) ll) D) := rmv_rmv fun b o n e => by
              obtain ⟨n2, e⟩ := rmv_some e
              rw [rmv_ne n2, upd_ne n]
              exact e
            exact dpAll_app1 (dpAll_same rr dps) (dp_same rr2 dv4)
          · rw [List.length_append, eLs]
            rfl
          · by_cases hr : r < Ls.length
            · rw [List.getElem?_append_left hr] at hl
              exact cLs r l hl
            · have e : r = Ls.length := by
                have := (List.getElem?_eq_some_iff.mp hl).1
                rw [List.length_append, List.length_singleton] at this
                omega
              subst e
              rw [List.getElem?_append_right (Nat.le_refl _), Nat.sub_self] at hl
              cases hl
              rw [eLs]
              refine can.congr fun x hx => ?_
              rw [eT, ← at_r]
              exact Iff.rfl
    · rintro H1 ⟨s1, ps, Ls, hD, dps, eLs, cLs⟩
      refine q D H1 Ls s1 nD ?_ ⟨eLs, cLs⟩
      exact .lst (SqL.of (by rw [rmv_ne nDl]; exact hD)) (dpAll_same (rmv_same fun b o _ e => e) dps)
end
/-! ### what is found out of a plan: the object -/
def sChart : Stmt := topS 18
def sChInit : Stmt := inClass sChart 0
def sChLeast : Stmt := inClass sChart 1
def sChLasts : Stmt := inClass sChart 5
def sChTold : Stmt := inClass sChart 8
/-- a target that is an attribute -/
def gFld (K : PySem.W.Frag) (ta : TE) (f : Str) : TG := fun v σ H Q => ta σ H fun x H1 => ∃ a C dx fs, x = .ref a ∧ H1 a = some (.ins C dx fs) ∧ L2.Cls K C ∧ NoAttr K C f ∧ fs.length < 1000 ∧ Q σ (upd H1 a (.ins C dx (putF f v fs)))
theorem pg_fld {X : Cx} {o : Expr} {f : Str} {pos : Pos} {ta : TE} (ha : PE X o ta) : PG X (.Attribute o f pos) (gFld X.K ta f) := by
  refine ⟨fun pins s σ H v u Q I r h => ?_⟩
  have e : assign (.Attribute o f pos) X.env u = (do
      let ov ← holding [u] (eval o X.env)
      standAt pos.atName
      holding [u, ov] (setAttr ov f u)
      release [u, ov] []) := rfl
  rw [e]
  refine wpAny_bind (wpAny_holding (thn (ha.run pins s σ H _ I h) fun ov s1 ⟨x, H1, I1, rx, a, C, dx, fs, ex, ea, c, n, l, q⟩ => ?_))
  subst ex
  obtain rfl : ov = Value.ref a := rx
  exact wpAny_bind (wpAny_standAt (wpAny_bind (wpAny_holding (setattr_ok I1 ea c n l r fun s2 I2 => wpAny_release ⟨σ, _, I2, q⟩))))
/-! data that doesn't lean on an object -/
theorem Kp.seqI {K : PySem.W.Frag} {p a C dx : Addr} {H H' : Hp} {fs : List (Str × V)} {xs : List V} (e : Kp p H H') (hp : H p = some (.ins C dx fs)) (h : SqL K H a xs) : SqL K H' a xs := by
  rcases h with (h | ⟨o, h⟩) | h
  · exact .inl (.inl (e _ _ h fun z => by rw [z, hp] at h; cases h))
  · exact .inl (.inr ⟨o, e _ _ h fun z => by rw [z, hp] at h; cases h⟩)
  · exact .inr h
theorem Kp.seqTI {K : PySem.W.Frag} {p a C dx : Addr} {H H' : Hp} {fs : List (Str × V)} {xs : List V} (e : Kp p H H') (hp : H p = some (.ins C dx fs)) (h : SqT K H a xs) : SqT K H' a xs := by
  rcases h with (h | ⟨o, h⟩) | h
  · exact .inl (.inl (e _ _ h fun z => by rw [z, hp] at h; cases h))
  · exact .inl (.inr ⟨o, e _ _ h fun z => by rw [z, hp] at h; cases h⟩)
  · exact .inr h
mutual
theorem dp_ki {K : PySem.W.Frag} {p C dx : Addr} {H H' : Hp} {fs : List (Str × V)} (s : Kp p H H') (hp : H p = some (.ins C dx fs)) : ∀ {v : V} {d : PyData}, Dp K H v d → Dp K H' v d
  | _, _, .non => .non
  | _, _, .bl b => .bl b
  | _, _, .int i => .int i
  | _, _, .str x => .str x
  | _, _, .lst q r => .lst (s.seqI hp q) (dpAll_ki s hp r)
  | _, _, .tup q r => .tup (s.seqTI hp q) (dpAll_ki s hp r)
theorem dpAll_ki {K : PySem.W.Frag} {p C dx : Addr} {H H' : Hp} {fs : List (Str × V)} (s : Kp p H H') (hp : H p = some (.ins C dx fs)) : ∀ {v : List V} {d : List PyData}, DpAll K H v d → DpAll K H' v d
  | _, _, .nil => .nil
  | _, _, .cons q r => .cons (dp_ki s hp q) (dpAll_ki s hp r)
end
/-! two lists of lists alike -/
theorem lv_flat : ∀ L : List (List (List Int)), PyData.depthAll (L.map stsD) ≤ 4 ∧ PyData.canLayAll0 (L.map stsD) = true
  | [] => ⟨Nat.zero_le _, rfl⟩
  | S :: L => by
    obtain ⟨h1, h2⟩ := lv_flat L
    obtain ⟨w1, w2⟩ := sts_flat S
    refine ⟨?_, by simp [PyData.canLayAll0, PyData.canLay0, h2, w2]⟩
    show max (PyData.depth (stsD S)) (PyData.depthAll (L.map stsD)) ≤ 4
    have e : PyData.depth (stsD S) ≤ 4 := by
      simp only [PyData.depth]
      omega
    omega
theorem lvs_flat : ∀ L : List (List (List (List Int))), PyData.depthAll (L.map lvD) ≤ 5 ∧ PyData.canLayAll0 (L.map lvD) = true
  | [] => ⟨Nat.zero_le _, rfl⟩
  | S :: L => by
    obtain ⟨h1, h2⟩ := lvs_flat L
    obtain ⟨w1, w2⟩ := lv_flat S
    refine ⟨?_, by simp [PyData.canLayAll0, PyData.canLay0, h2, w2]⟩
    show max (PyData.depth (lvD S)) (PyData.depthAll (L.map lvD)) ≤ 5
    have e : PyData.depth (lvD S) ≤ 5 := by
      simp only [PyData.depth]
      omega
    omega
theorem lv_shaped (L : List (List (List Int))) : SeqAt.shaped (lvD L) = true := by
  obtain ⟨h1, h2⟩ := lv_flat L
  unfold SeqAt.shaped
  rw [Bool.and_eq_true, decide_eq_true_iff]
  refine ⟨by simp only [PyData.canLay0]; exact h2, ?_⟩
  simp only [PyData.depth]
  omega
theorem lvs_shaped (L : List (List (List (List Int)))) : SeqAt.shaped (.list (L.map lvD)) = true := by
  obtain ⟨h1, h2⟩ := lvs_flat L
  unfold SeqAt.shaped
  rw [Bool.and_eq_true, decide_eq_true_iff]
  refine ⟨by simp only [PyData.canLay0]; exact h2, ?_⟩
  simp only [PyData.depth]
  omega
theorem eqv_lvA : ∀ S T : List (List (List Int)), PyData.eqvAll (S.map stsD) (T.map stsD) = true → S = T
  | [], [], _ => rfl
  | [], _ :: _, h => by simp [PyData.eqvAll] at h
  | _ :: _, [], h => by simp [PyData.eqvAll] at h
  | a :: l, b :: m, h => by
    simp only [List.map_cons, PyData.eqvAll, Bool.and_eq_true] at h
    rw [eqv_sts h.1, eqv_lvA l m h.2]
theorem eqv_lv {S T : List (List (List Int))} (h : PyData.eqv (lvD S) (lvD T) = true) : S = T := eqv_lvA S T (by simpa only [PyData.eqv] using h)
theorem eqv_lvsA : ∀ S T : List (List (List (List Int))), PyData.eqvAll (S.map lvD) (T.map lvD) = true → S = T
  | [], [], _ => rfl
  | [], _ :: _, h => by simp [PyData.eqvAll] at h
  | _ :: _, [], h => by simp [PyData.eqvAll] at h
  | a :: l, b :: m, h => by
    simp only [List.map_cons, PyData.eqvAll, Bool.and_eq_true] at h
    rw [eqv_lv h.1, eqv_lvsA l m h.2]
theorem eqv_lvs {S T : List (List (List (List Int)))} (h : PyData.eqv (.list (S.map lvD)) (.list (T.map lvD)) = true) : S = T := eqv_lvsA S T (by simpa only [PyData.eqv] using h)
/-! ### its state -/
/-- what is there of each chart's class -/
structure ChTxt (K : PySem.W.Frag) (C : Addr) : Prop where
  cl : L2.Cls K C
  nK : NoAttr K C "_kinds"
  nR : NoAttr K C "_rooms"
  nL : NoAttr K C "_lists"
  nB : NoAttr K C "_boxes"
def cf (kd : Nat) (rv : V) (ll bb : Addr) : List (Str × V) := putF "_boxes" (.ref bb) (putF "_lists" (.ref ll) (putF "_rooms" rv (putF "_kinds" (.int (kd : Int)) [])))
theorem cf_get (kd : Nat) (rv : V) (ll bb : Addr) (f : Str) : (cf kd rv ll bb).lookup f = if f = "_boxes" then some (.ref bb) else if f = "_lists" then some (.ref ll) else if f = "_rooms" then some rv else if f = "_kinds" then some (.int (kd : Int)) else none := by
  unfold cf
  rw [lookup_putF, lookup_putF, lookup_putF, lookup_putF]
  rfl
theorem cf_kinds (kd : Nat) (rv : V) (ll bb : Addr) : (cf kd rv ll bb).lookup ("_kinds" : Str) = some (.int (kd : Int)) := by
  rw [cf_get, if_neg (by decide +kernel), if_neg (by decide +kernel), if_neg (by decide +kernel), if_pos rfl]
theorem cf_rooms (kd : Nat) (rv : V) (ll bb : Addr) : (cf kd rv ll bb).lookup ("_rooms" : Str) = some rv := by
  rw [cf_get, if_neg (by decide +kernel), if_neg (by decide +kernel), if_pos rfl]
theorem cf_lists (kd : Nat) (rv : V) (ll bb : Addr) : (cf kd rv ll bb).lookup ("_lists" : Str) = some (.ref ll) := by
  rw [cf_get, if_neg (by decide +kernel), if_pos rfl]
theorem cf_boxes (kd : Nat) (rv : V) (ll bb : Addr) : (cf kd rv ll bb).lookup ("_boxes" : Str) = some (.ref bb) := by
  rw [cf_get, if_pos rfl]
theorem cf_no (kd : Nat) (rv : V) (ll bb : Addr) {f : Str} (h1 : ¬ f = "_boxes") (h2 : ¬ f = "_lists") (h3 : ¬ f = "_rooms") (h4 : ¬ f = "_kinds") : (cf kd rv ll bb).lookup f = none := by
  rw [cf_get, if_neg h1, if_neg h2, if_neg h3, if_neg h4]
structure ChartIn (K : PySem.W.Frag) (C : Addr) (H : Hp) (p dx : Addr) (rv : V) (ll bb : Addr) (kd : Nat) (R : Rooms) (us : List V) (Ls : List (List (List (List Int)))) : Prop where
  hp : H p = some (.ins C dx (cf kd rv ll bb))
  hl : H ll = some (.lst us)
  dl : DpAll K (rmv H ll) us (Ls.map lvD)
  dr : Dp K (rmv H ll) rv (roomsD R)
  one : 1 ≤ Ls.length
  lv : ∀ (j : Nat) (L : List (List (List Int))), Ls[j]? = some L → RowOk R.length (PB none R j) L
theorem ChartIn.np {K : PySem.W.Frag} {C : Addr} {H : Hp} {p dx : Addr} {rv : V} {ll bb : Addr} {kd : Nat} {R : Rooms} {us : List V} {Ls : List (List (List (List Int)))} (c : ChartIn K C H p dx rv ll bb kd R us Ls) : p ≠ ll := by
  intro e
  have := c.hp
  rw [e, c.hl] at this
  cases this
theorem ChartIn.same {K : PySem.W.Frag} {C : Addr} {H H' : Hp} {p dx : Addr} {rv : V} {ll bb : Addr} {kd : Nat} {R : Rooms} {us : List V} {Ls : List (List (List (List Int)))} (c : ChartIn K C H p dx rv ll bb kd R us Ls) (s : Same H H') : ChartIn K C H' p dx rv ll bb kd R us Ls :=
  ⟨s _ _ c.hp, s _ _ c.hl, dpAll_same (rmv_to s) c.dl, dp_same (rmv_to s) c.dr, c.one, c.lv⟩
theorem ChartIn.len {K : PySem.W.Frag} {C : Addr} {H : Hp} {p dx : Addr} {rv : V} {ll bb : Addr} {kd : Nat} {R : Rooms} {us : List V} {Ls : List (List (List (List Int)))} (c : ChartIn K C H p dx rv ll bb kd R us Ls) : us.length = Ls.length := mapD_len c.dl
def spChLeast (K : PySem.W.Frag) (C : Addr) : Sp := fun vs H Q _ => ∃ (p dx : Addr) (rv : V) (ll bb : Addr) (kd : Nat) (R : Rooms) (us : List V) (Ls : List (List (List (List Int)))) (n : Nat),
  vs = [.ref p, .int (n : Int)] ∧ ChartIn K C H p dx rv ll bb kd R us Ls ∧ RmOk R ∧ FewP none R n ∧ n ≤ 1000 ∧ Ls.length ≤ 2000 ∧
  ∀ (v : V) (H' : Hp) (us' : List V) (Ls' : List (List (List (List Int)))) (M : List (List (List Int))), Kp ll H H' → ChartIn K C H' p dx rv ll bb kd R us' Ls' → Ls.length ≤ Ls'.length → Ls'.length ≤ max Ls.length (n + 1) → Dp K (rmv H' ll) v (lvD M) → RowOk R.length (PB none R n) M → Q v H'
def standD (r : Nat) (s : List Int) : PyData := .tuple [.int (r : Int), wayD s]
def spChLasts (K : PySem.W.Frag) (C : Addr) : Sp := fun vs H Q _ => ∃ (p dx : Addr) (rv : V) (ll bb : Addr) (kd : Nat) (R : Rooms) (us : List V) (Ls : List (List (List (List Int)))) (n r : Nat) (y : V) (s : List Int),
  vs = [.ref p, y, .int (n : Int)] ∧ ChartIn K C H p dx rv ll bb kd R us Ls ∧ RmOk R ∧ FewP none R n ∧ n ≤ 1000 ∧ Ls.length ≤ 2000 ∧ Dp K H y (standD r s) ∧ r < R.length ∧ 1 ≤ s.length ∧ s.length ≤ 4 ∧ (∀ z ∈ s, 0 ≤ z) ∧
  ∀ (b : Bool) (H' : Hp) (us' : List V) (Ls' : List (List (List (List Int)))), Kp ll H H' → ChartIn K C H' p dx rv ll bb kd R us' Ls' → Ls.length ≤ Ls'.length → Ls'.length ≤ max Ls.length (n + 1) → (b = true ↔ PB none R n r (four s)) → Q (.bl b) H'
def spChTold (K : PySem.W.Frag) (C : Addr) : Sp := fun vs H Q _ => ∃ (p dx : Addr) (rv : V) (ll bb : Addr) (kd : Nat) (y : V) (L : List (List (List Int))),
  vs = [.ref p, y] ∧ H p = some (.ins C dx (cf kd rv ll bb)) ∧ Dp K H y (lvD L) ∧ kd ≤ 4 ∧ 1 ≤ kd ∧ L.length ≤ 5000 ∧ (∀ l ∈ L, l.length ≤ 20000 ∧ ∀ t ∈ l, t.length = 4) ∧
  ∀ (q : Addr) (H' : Hp) (as : List Addr), Same H H' → H q = none → H' q = some (.lst (as.map V.ref)) → as.length = L.length → as.Nodup → q ∉ as → (∀ (i : Nat) (a : Addr) (l : List (List Int)), as[i]? = some a → L[i]? = some l → H a = none ∧ ∃ ps, H' a = some (.lst ps) ∧ DpAll K H' ps ((l.map fun x => x.take kd).map wayD)) → Q (.ref q) H'
theorem sIx_m2 (n : Nat) : HT.sIx n 0 (some (-2)) = n - 2 := by
  show (if (-2 : Int) < 0 then ((-2 : Int) + (n : Int)).toNat else min (-2 : Int).toNat n) = n - 2
  rw [if_pos (by decide)]
  omega
theorem cut_last2 {us : List V} : cutV us (some (-2)) none = us.drop (us.length - 2) := by
  unfold cutV
  rw [HT.sIx_none, sIx_m2, List.take_of_length_le (by rw [List.length_drop]; exact Nat.le_refl _)]
theorem dpAll_dropN {K : PySem.W.Frag} {H : Hp} : ∀ {vs : List V} {ds : List PyData} (n : Nat), DpAll K H vs ds → DpAll K H (vs.drop n) (ds.drop n)
  | _, _, 0, h => h
  | _, _, _ + 1, .nil => .nil
  | _, _, n + 1, .cons _ r => by
    rw [List.drop_succ_cons, List.drop_succ_cons]
    exact dpAll_dropN n r
section
variable {P : Program} {w : World} {K : PySem.W.Frag} {mg : Str → Option Value} {base : Heap}
theorem scChLeast : FnScope ["self", "n", "last"] ["self", "n"] (defScope sChLeast) := ⟨rfl, rfl, rfl, by decide +kernel, rfl, by decide +kernel, by decide +kernel⟩
theorem ok_chLeast {f fO C : Addr} {fd fdO : FuncData} {k : Nat} (F : Fun K "least" "Chart.least" sChLeast f fd) (T : ChTxt K C)
    (GO : FnOk P w K mg base CX0 (k + 5) fO fdO ["rooms", "before", "b"] (spOneMore K)) (kO : PySem.W.keepIn K (.ref fO) = true) (bO : Binds K fdO ["rooms", "before", "b"] []) (gO : mg "least_one_more" = some (.ref fO))
    (ml : mg "len" = none) : FnOk P w K mg base CX0 (k + 6) f fd ["self", "n"] (spChLeast K C) := by
  refine F.ok scChLeast (fun vs H Q E h => ?_) (fun cdv A outer s H vs Q E hr h => ?_)
  · obtain ⟨p, dx, rv, ll, bb, kd, R, us, Ls, n, rfl, _⟩ := h
    rfl
  · obtain ⟨p, dx, rv, ll, bb, kd, R, us, Ls, n, rfl, c, okR, fw, n1, lL, q⟩ := h
    refine ⟨_, pss_cons (ps_while PassesOwn.never (pt_cmpR op_le (pe_callB call_len_seq (by rfl) ml PySem.boot_len (pa_cons (pe_fld (pv 0) rfl) pa_nil)) (pv 1) (nomark _))
      (pss_cons (ps_set (i := 2) scChLeast.nd rfl (.inl rfl) (pe_ix ix_list (pe_fld (pv 0) rfl) (pe_un un_neg pe_int) (fun _ _ => rfl)))
      (pss_cons (ps_if (pt_cmpR (op_eqD hr.units) (pe_slice sl_list (pe_fld (pv 0) rfl) (po_some (pe_un un_neg pe_int)) po_none) (pe_lst (pa_cons (pv 2) (pa_cons (pv 2) pa_nil))) (nomark _)) (pss_one (ps_ret (pv 2))) pss_nil)
      (pss_one (ps_expr (pe_bm PySem.F.plainAttrs_list PySem.F.slot_list_append PySem.F.type_list_append mt_append (pe_fld (pv 0) rfl) (pa_cons (pe_call GO hr (by rfl) gO kO bO .nil pass0 (pa_cons (pe_fld (pv 0) rfl) (pa_cons (pv 2) (pa_cons pe_non pa_nil)))) pa_nil)))))))
      (pss_one (ps_ret (pe_ix ix_list (pe_fld (pv 0) rfl) (pv 1) (fun _ _ => rfl)))), ?_⟩
    refine ⟨fun t σ H1 => ∃ (y2 : Option V) (us1 : List V) (Ls1 : List (List (List (List Int)))), σ = [some (.ref p), some (.int (n : Int)), y2] ∧ Kp ll H H1 ∧ ChartIn K C H1 p dx rv ll bb kd R us1 Ls1 ∧ Ls.length ≤ Ls1.length ∧ Ls1.length ≤ max Ls.length (n + 1) ∧ t = n + 1 - Ls1.length,
      ⟨_, none, us, Ls, rfl, Kp.refl _ _, c, Nat.le_refl _, Nat.le_max_left _ _, rfl⟩, ?_⟩
    rintro t σ H1 ⟨y2, us1, Ls1, rfl, k1, c1, l1, l2, rfl⟩
    have lu := c1.len
    refine ⟨_, rfl, p, C, dx, _, _, rfl, c1.hp, T.cl, T.nL, cf_lists _ _ _ _, ll, us1, rfl, .inl (SqL.of c1.hl), _, rfl, _, (n : Int), rfl, rfl, _, rfl, ?_⟩
    by_cases cn : ¬ (us1.length : Int) ≤ (n : Int)
    · rw [decide_eq_false cn]
      refine ifF rfl ?_
      have nl : n < Ls1.length := by omega
      obtain ⟨vn, hvn, dvn⟩ := mapD_at c1.dl (List.getElem?_eq_getElem nl)
      refine ⟨_, rfl, p, C, dx, _, _, rfl, c1.hp, T.cl, T.nL, cf_lists _ _ _ _, _, rfl, ll, us1, (n : Int), vn, rfl, rfl, SqL.of c1.hl, atI_nat hvn, ?_⟩
      exact q vn H1 us1 Ls1 _ k1 c1 l1 l2 dvn (c1.lv n _ (List.getElem?_eq_getElem nl))
    have cn := Classical.not_not.mp cn
    rw [decide_eq_true cn]
    refine ifT rfl ⟨fun σ' H' => ∃ m', m' < n + 1 - Ls1.length ∧ ∃ (y2 : Option V) (us1 : List V) (Ls1 : List (List (List (List Int)))), σ' = [some (.ref p), some (.int (n : Int)), y2] ∧ Kp ll H H' ∧ ChartIn K C H' p dx rv ll bb kd R us1 Ls1 ∧ Ls.length ≤ Ls1.length ∧ Ls1.length ≤ max Ls.length (n + 1) ∧ m' = n + 1 - Ls1.length, fun _ _ z => z, ?_⟩
    -- the last one
    obtain ⟨Us, Lz, eLs⟩ : ∃ Us Lz, Ls1 = Us ++ [Lz] := ⟨Ls1.dropLast, Ls1.getLast (by intro z; have := c1.one; rw [z] at this; simp at this), (List.dropLast_concat_getLast _).symm⟩
    have lUs : Ls1.length = Us.length + 1 := by rw [eLs]; simp
    have tL : Ls1[Us.length]? = some Lz := by rw [eLs]; simp
    obtain ⟨vz, hvz, dvz⟩ := mapD_at c1.dl tL
    obtain ⟨ws, eus⟩ : ∃ ws, us1 = ws ++ [vz] := by
      refine ⟨us1.take Us.length, ?_⟩
      have e := take_snoc hvz
      rw [List.take_of_length_le (by omega)] at e
      exact e
    have atz : atI us1 (-1) = some vz := by
      rw [eus]
      exact atI_last _ _
    have rz := c1.lv _ _ tL
    refine ⟨_, rfl, p, C, dx, _, _, rfl, c1.hp, T.cl, T.nL, cf_lists _ _ _ _, 1, rfl, ll, us1, _, vz, rfl, rfl, SqL.of c1.hl, atz, ?_⟩
    have toL : Same (rmv H1 ll) H1 := rmv_same fun b o _ e => e
    have dz1 := dp_same toL dvz
    -- if self._lists[-2:] == [last, last]
    refine ⟨_, rfl, p, C, dx, _, _, rfl, c1.hp, T.cl, T.nL, cf_lists _ _ _ _, 2, rfl, _, rfl, ll, us1, rfl, SqL.of c1.hl, fun S nS => ?_⟩
    have sS := same_upd (o := .lst (cutV us1 (some (-2)) none)) nS
    refine ⟨_, rfl, _, rfl, by show 2 ≤ sizeLine; decide, fun S2 nS2 => ?_⟩
    have sS2 := same_upd (o := .lst [vz, vz]) nS2
    have s02 := sS.trans sS2
    have nS' : ll ≠ S := ne_of_none c1.hl nS
    have nS2' : ll ≠ S2 := ne_of_none (sS _ _ c1.hl) nS2
    have dS : Dp K (upd (upd H1 S (.lst (cutV us1 (some (-2)) none))) S2 (.lst [vz, vz])) (.ref S) (.list ((Ls1.drop (Ls1.length - 2)).map lvD)) := by
      refine .lst (SqL.of (sS2 _ _ upd_same)) ?_
      have e1 : us1.drop (Ls1.length - 2) = cutV us1 (some (-2)) none := by rw [cut_last2, lu]
      have z := dpAll_dropN (Ls1.length - 2) (dpAll_same (toL.trans s02) c1.dl)
      rw [e1] at z
      rw [List.map_drop]
      exact z
    have dz2 := dp_same s02 dz1
    have dS2 : Dp K (upd (upd H1 S (.lst (cutV us1 (some (-2)) none))) S2 (.lst [vz, vz])) (.ref S2) (.list ([Lz, Lz].map lvD)) := .lst (SqL.of upd_same) (.cons dz2 (.cons dz2 .nil))
    refine ⟨_, _, dS, dS2, lvs_shaped _, lvs_shaped _, _, rfl, ite2 (fun ee => ?_) fun _ => ?_⟩
    · have e := eqv_lvs ee
      have l2' : 2 ≤ Ls1.length := by
        have := congrArg List.length e
        rw [List.length_drop] at this
        simp only [List.length_cons, List.length_nil] at this
        omega
      have tL2 : Ls1[Us.length - 1]? = some Lz := by
        have h0 : (Ls1.drop (Ls1.length - 2))[0]? = some Lz := by rw [e]; rfl
        rw [List.getElem?_drop] at h0
        rw [← h0, show Us.length - 1 = Ls1.length - 2 + 0 by omega]
      have r1 := c1.lv _ _ tL2
      have r2 : RowOk R.length (PB none R (Us.length - 1 + 1)) Lz := by
        rw [show Us.length - 1 + 1 = Us.length by omega]
        exact rz
      have rn := RowOk.rest r1 r2 (n - (Us.length - 1))
      rw [show Us.length - 1 + (n - (Us.length - 1)) = n by omega] at rn
      exact ⟨_, rfl, q vz _ us1 Ls1 Lz (k1.same s02) (c1.same s02) l1 l2 (dp_same (rmv_to s02) dvz) rn⟩
    · -- self._lists.append(least_one_more(self._rooms, last, None))
      have c2 := c1.same s02
      have lUn : Us.length < n := by omega
      refine ⟨_, rfl, p, C, dx, _, _, rfl, c2.hp, T.cl, T.nL, cf_lists _ _ _ _, .inl ⟨rfl, _, SqL.of c2.hl⟩, ?_⟩
      refine ⟨_, rfl, p, C, dx, _, _, rfl, c2.hp, T.cl, T.nR, cf_rooms _ _ _ _, _, rfl, ?_⟩
      obtain ⟨m, fwm⟩ := fw Us.length lUn
      refine ⟨rv, vz, none, R, Lz, PB none R Us.length, m, ll, us1, rfl, c2.hl, c2.dr, dp_same (rmv_to s02) dvz, okR, rz, fwm, fun qn H3 M s3 nq dM rM => ?_⟩
      have c3 := c2.same s3
      have nql : qn ≠ ll := (ne_of_none c2.hl nq).symm
      refine ⟨ll, us1, _, rfl, rfl, c3.hl, small_line (by omega), ?_⟩
      refine ⟨n + 1 - (Ls1 ++ [M]).length, by rw [List.length_append, List.length_singleton]; omega, _, us1 ++ [.ref qn], Ls1 ++ [M], rfl, ?_, ⟨?_, upd_same, ?_, ?_, ?_, fun j L hj => ?_⟩, ?_, ?_, rfl⟩
      · exact (k1.same (s02.trans s3)).trans (kp_upd ll H3 _)
      · rw [upd_ne c3.np]
        exact c3.hp
      · rw [List.map_append]
        have rr : Same (rmv H3 ll) (rmv (upd H3 ll (.lst (us1 ++ [.ref qn]))) ll) := rmv_rmv fun b o n e => by rw [upd_ne n]; exact e
        exact dpAll_same rr (dpAll_app c3.dl (.cons dM .nil))
      · have rr : Same (rmv H3 ll) (rmv (upd H3 ll (.lst (us1 ++ [.ref qn]))) ll) := rmv_rmv fun b o n e => by rw [upd_ne n]; exact e
        exact dp_same rr c3.dr
      · rw [List.length_append]
        exact Nat.le_trans c1.one (Nat.le_add_right _ _)
      · by_cases hr : j < Ls1.length
        · rw [List.getElem?_append_left hr] at hj
          exact c1.lv j L hj
        · have e : j = Ls1.length := by
            have := (List.getElem?_eq_some_iff.mp hj).1
            rw [List.length_append, List.length_singleton] at this
            omega
          subst e
          rw [List.getElem?_append_right (Nat.le_refl _), Nat.sub_self] at hj
          cases hj
          rw [lUs]
          exact rM
      · rw [List.length_append]
        exact Nat.le_trans l1 (Nat.le_add_right _ _)
      · rw [List.length_append, List.length_singleton]
        omega
end
section
variable {P : Program} {w : World} {K : PySem.W.Frag} {mg : Str → Option Value} {base : Heap}
theorem scChLasts : FnScope ["self", "stand", "n", "room", "store", "there", "number"] ["self", "stand", "n"] (defScope sChLasts) := ⟨rfl, rfl, rfl, by decide +kernel, rfl, by decide +kernel, by decide +kernel⟩
theorem ok_chLasts {f fL fI fC C : Addr} {fd fdL fdI fdC : FuncData} {k : Nat} (F : Fun K "lasts" "Chart.lasts" sChLasts f fd) (T : ChTxt K C)
    (GL : FnOk P w K mg base CX0 (k + 6) fL fdL ["self", "n"] (spChLeast K C)) (mL : Meth K C "least" fL) (bL : Binds K fdL ["self", "n"] [])
    (GI : FnOk P w K mg base CX0 (k + 6) fI fdI ["numbers"] (spInFour K)) (kI : PySem.W.keepIn K (.ref fI) = true) (bI : Binds K fdI ["numbers"] []) (gI : mg "in_four" = some (.ref fI))
    (GC : FnOk P w K mg base CX0 (k + 6) fC fdC ["store", "stores"] (spCovOne K)) (kC : PySem.W.keepIn K (.ref fC) = true) (bC : Binds K fdC ["store", "stores"] []) (gC : mg "covers_one" = some (.ref fC))
    (ml : mg "len" = none) (mr : mg "range" = none) (mm : mg "min" = none) : FnOk P w K mg base CX0 (k + 7) f fd ["self", "stand", "n"] (spChLasts K C) := by
  refine F.ok scChLasts (fun vs H Q E h => ?_) (fun cdv A outer s0 H vs Q E hr h => ?_)
  · obtain ⟨p, dx, rv, ll, bb, kd, R, us, Ls, n, r, y, s, rfl, _⟩ := h
    rfl
  · obtain ⟨p, dx, rv, ll, bb, kd, R, us, Ls, n, r, y, s, rfl, c, okR, fw, n1, lL, dy, rR, s1, s4, sp0, q⟩ := h
    refine ⟨_, pss_cons (ps_asg (pv 1) (pg_tup (by rfl) (pgs_cons (pg_name (i := 3) scChLasts.nd rfl (.inl rfl)) (pgs_cons (pg_name (i := 4) scChLasts.nd rfl (.inl rfl)) pgs_nil))))
      (pss_cons (ps_set (i := 5) scChLasts.nd rfl (.inl rfl) (pe_call GI hr (by rfl) gI kI bI .nil pass0 (pa_cons (pv 4) pa_nil)))
      (pss_cons (ps_for PassesOwn.never rfl (pi_range2 (by rfl) mr (pa_cons (pe_callB (call_min2 rfl) (by rfl) mm (by decide +kernel) (pa_cons (pv 2) (pa_cons (pe_op op_sub (pe_callB call_len_seq (by rfl) ml PySem.boot_len (pa_cons (pe_fld (pv 0) rfl) pa_nil)) pe_int) pa_nil))) (pa_cons (pe_op op_add (pv 2) pe_int) pa_nil))) (pg_name (i := 6) scChLasts.nd rfl (.inl rfl))
        (pss_one (ps_if (pt_not (pt_val (pe_call GC hr (by rfl) gC kC bC .nil pass0 (pa_cons (pv 5) (pa_cons (pe_ix ix_list (pe_meth (pv 0) T.cl mL GL hr bL .nil pass0 (pa_cons (pv 6) pa_nil)) (pv 3) (fun _ _ => rfl)) pa_nil))))) (pss_one (ps_ret pe_bl)) pss_nil)))
      (pss_one (ps_ret pe_bl)))), ?_⟩
    cases dy with
    | @tup ya yvs _ hY yall =>
    cases yall with
    | @cons v1 _ _ _ d1 r1 =>
    cases r1 with
    | @cons v2 _ _ _ d2 r2 =>
    cases r2
    cases d1
    have lu := c.len
    have c1 := c.one
    refine ⟨_, rfl, ya, _, rfl, hY, rfl, _, _, rfl, _, _, rfl, rfl, ?_⟩
    refine ⟨_, rfl, v2, s, rfl, d2, s1, s4, fun tv H1 sm1 dT => ?_⟩
    have ok := four_ok s1 s4 sp0
    have cc := c.same sm1
    refine ⟨_, rfl, _, rfl, p, C, dx, _, _, rfl, cc.hp, T.cl, T.nL, cf_lists _ _ _ _, ll, us, rfl, .inl (SqL.of cc.hl), _, _, rfl, rfl, _, _, rfl, ?_⟩
    -- the least of both
    obtain ⟨lo, elo, lon⟩ : ∃ lo : Nat, (if (us.length : Int) - 1 < (n : Int) then (us.length : Int) - 1 else (n : Int)) = (lo : Int) ∧ lo ≤ n := by
      by_cases h : (us.length : Int) - 1 < (n : Int)
      · exact ⟨us.length - 1, by rw [if_pos h]; omega, by omega⟩
      · exact ⟨n, by rw [if_neg h], Nat.le_refl _⟩
    rw [elo]
    refine ⟨_, rfl, _, _, rfl, rfl, _, _, rfl, ⟨by omega, by omega, by omega, by omega⟩, ?_⟩
    rw [show ((n : Int) + 1 - (lo : Int)).toNat = n + 1 - lo by omega]
    refine for_range (lo := (lo : Int)) (n := n + 1 - lo) (fun j σ H2 => ∃ (y6 : Option V) (us2 : List V) (Ls2 : List (List (List (List Int)))), σ = [some (.ref p), some (.ref ya), some (.int (n : Int)), some (.int (r : Int)), some v2, some tv, y6] ∧ Kp ll H1 H2 ∧ ChartIn K C H2 p dx rv ll bb kd R us2 Ls2 ∧ Ls.length ≤ Ls2.length ∧ Ls2.length ≤ max Ls.length (n + 1) ∧ (j = 0 ∨ PB none R (lo + j - 1) r (four s)))
      ⟨none, us, Ls, rfl, Kp.refl _ _, cc, Nat.le_refl _, Nat.le_max_left _ _, .inl rfl⟩ ?_ ?_
    · rintro j σ H2 hj ⟨y6, us2, Ls2, rfl, k2, c2, l1, l2, pj⟩
      have tvD : Dp K H2 tv (wayD (four s)) := dp_kp k2 cc.hl dT (noL_way _)
      have le1 : lo + j ≤ n := by omega
      refine ⟨_, rfl, _, rfl, ?_⟩
      refine ⟨p, dx, _, rfl, c2.hp, cf_no _ _ _ _ (by decide +kernel) (by decide +kernel) (by decide +kernel) (by decide +kernel), _, rfl, ?_⟩
      refine ⟨p, dx, rv, ll, bb, kd, R, us2, Ls2, lo + j, by rw [Int.natCast_add]; rfl, c2, okR, fw.le le1, by omega, by omega, fun v H3 us3 Ls3 M k3 c3 l3 l4 dv rM => ?_⟩
      obtain ⟨l, hl, can⟩ := rM.at rR
      obtain ⟨va, vvs, rfl, hV0, vall⟩ := lst_of dv
      have toL : Same (rmv H3 ll) H3 := rmv_same fun b o _ e => e
      obtain ⟨lv, hlv, dlv⟩ := mapD_at vall hl
      have tvD3 : Dp K H3 tv (wayD (four s)) := dp_kp k3 c2.hl tvD (noL_way _)
      refine ⟨_, rfl, va, vvs, (r : Int), lv, rfl, rfl, toL.seq hV0, atI_nat hlv, ?_⟩
      refine ⟨tv, lv, four s, l, rfl, tvD3, dp_same toL dlv, ok4_len ok, fun t ht => ok4_len (can.ok t ht), fun H4 s4' => ?_⟩
      have up := (can.up _ ok).symm.trans anyLe_iff.symm
      refine ⟨_, rfl, ?_⟩
      have c4 := c3.same s4'
      have kk : Kp ll H H4 := (sm1.kp.trans (k2.trans k3)).same s4'
      have l5 : Ls3.length ≤ max Ls.length (n + 1) := by omega
      cases cv : anyLe (four s) l with
      | false =>
        rw [cv] at up
        refine ifT rfl (q false H4 us3 Ls3 kk c4 (by omega) l5 ⟨fun z => Bool.noConfusion z, fun z => ?_⟩)
        exact absurd (up.mp (z.le le1)) (by decide)
      | true =>
        rw [cv] at up
        refine ifF rfl ⟨_, us3, Ls3, rfl, (k2.trans k3).same s4', c4, by omega, l5, .inr ?_⟩
        rw [show lo + (j + 1) - 1 = lo + j by omega]
        exact up.mpr rfl
    · rintro σ H2 ⟨y6, us2, Ls2, rfl, k2, c2, l1, l2, pj⟩
      refine q true H2 us2 Ls2 (sm1.kp.trans k2) c2 l1 l2 ⟨fun _ => ?_, fun _ => rfl⟩
      rcases pj with z | z
      · omega
      · rw [show lo + (n + 1 - lo) - 1 = n by omega] at z
        exact z
end
section
variable {P : Program} {w : World} {K : PySem.W.Frag} {mg : Str → Option Value} {base : Heap}
theorem scChTold : FnScope ["self", "lists", "stores", "store"] ["self", "lists"] (defScope sChTold) := ⟨rfl, rfl, rfl, by decide +kernel, rfl, by decide +kernel, by decide +kernel⟩
theorem ok_chTold {f C : Addr} {fd : FuncData} {k : Nat} (F : Fun K "told" "Chart.told" sChTold f fd) (T : ChTxt K C) : FnOk P w K mg base CX0 (k + 1) f fd ["self", "lists"] (spChTold K C) := by
  refine F.ok scChTold (fun vs H Q E h => ?_) (fun cdv A outer s0 H vs Q E hr h => ?_)
  · obtain ⟨p, dx, rv, ll, bb, kd, y, L, rfl, _⟩ := h
    rfl
  · obtain ⟨p, dx, rv, ll, bb, kd, y, L, rfl, hp, dy, k4, k1, lL, okL, q⟩ := h
    refine ⟨_, pss_one (ps_ret (pe_lc (own := [("stores", 2)]) (g := gName 2) (tt := tYes) (te := tLc (iList K (tVar 2)) (gName 3) tYes (tSl (rSlA K) (tVar 3) tNoPart (tPart (tFld K (tVar 0) "_kinds"))) [3]) rfl scChTold.nd (pi_list (pv 1))
        (blkOk_by (N := ["self", "lists", "stores", "store"]) (sc := defScope sChTold) (by decide +kernel))
        (fun _ _ _ _ _ => by exact pg_name (i := 2) scChTold.nd rfl (.inl rfl)) (fun _ _ _ _ _ => pts_nil)
        (fun _ _ _ _ _ => by exact (by
          refine pe_lc (wi := iList K (tVar 2)) (own := [("store", 3)]) (g := gName 3) (tt := tYes) (te := tSl (rSlA K) (tVar 3) tNoPart (tPart (tFld K (tVar 0) "_kinds"))) ?_ ?_ ?_ ?_ ?_ ?_ ?_
          · rfl
          · exact scChTold.nd
          · exact pi_list (pv 2)
          · exact blkOk_by (N := ["self", "lists", "stores", "store"]) (sc := lcSc [(".0", .local), ("stores", .local), ("self", .cell)]) (by decide +kernel)
          · exact fun _ _ _ _ _ => by exact pg_name (i := 3) scChTold.nd rfl (.inl rfl)
          · exact fun _ _ _ _ _ => pts_nil
          · exact fun _ _ _ _ _ => by exact pe_slice (r := rSlA K) sl_tupA (pv 3) po_none (po_some (pe_fld (pv 0) rfl)))))), ?_⟩
    obtain ⟨ya, yvs, rfl, hY, yall⟩ := lst_of dy
    have ly := mapD_len yall
    refine ⟨_, rfl, ya, rfl, ⟨_, hY⟩, fun D nD => ?_⟩
    have sD := same_upd (o := .lst []) nD
    refine lc_list (K := K) (a := ya) (xs := yvs) (fun j H1 => Same H H1 ∧ ∃ as : List Addr, H1 D = some (.lst (as.map V.ref)) ∧ as.length = j ∧ as.Nodup ∧ D ∉ as ∧ ∀ (i : Nat) (a : Addr) (l : List (List Int)), as[i]? = some a → L[i]? = some l → H a = none ∧ ∃ ps, H1 a = some (.lst ps) ∧ DpAll K H1 ps ((l.map fun x => x.take kd).map wayD))
      ⟨sD, [], upd_same, rfl, List.nodup_nil, List.not_mem_nil, fun i a l h => nomatch h⟩ (fun j H1 _ ⟨s1, _⟩ => s1.seq hY) ?_ ?_
    · rintro j v H1 hj ⟨s1, as, hD, las, nd, nDa, all⟩
      obtain ⟨l, hl, dl⟩ := mapD_get yall hj
      have jl := (List.getElem?_eq_some_iff.mp hl).1
      obtain ⟨l20, l4⟩ := okL l (List.mem_of_getElem? hl)
      obtain ⟨la, lvs, rfl, hl0, lall⟩ := lst_of dl
      have ll := mapD_len lall
      refine ⟨rfl, ?_⟩
      refine ⟨_, rfl, la, rfl, ⟨_, s1.seq hl0⟩, fun G nG => ?_⟩
      have sG := same_upd (o := .lst []) nG
      have nGH := s1.free nG
      have nDG : D ≠ G := ne_of_none hD nG
      refine lc_list (K := K) (a := la) (xs := lvs) (fun t H3 => Same H1 H3 ∧ ∃ ps, H3 G = some (.lst ps) ∧ DpAll K H3 ps (((l.take t).map fun x => x.take kd).map wayD)) ⟨sG, [], upd_same, .nil⟩ (fun j H3 _ ⟨s3, _⟩ => s3.seq (s1.seq hl0)) ?_ ?_
      · rintro t v H3 ht ⟨s3, ps, hG, dps⟩
        obtain ⟨u, hu, du⟩ := sts_get lall ht
        obtain ⟨ta, rfl, hT⟩ := way_of du
        have u4 := l4 u (List.mem_of_getElem? hu)
        have lp := sts_len dps
        simp only [List.length_map, List.length_take] at lp
        have s13 := s1.trans s3
        refine ⟨rfl, ?_⟩
        have fin : ∀ (b : Addr) (H4 : Hp), Same H3 H4 → SqT K H4 b ((u.take kd).map V.int) → ∃ acc, H4 G = some (.lst acc) ∧ acc.length < sizeLine ∧ (Same H1 (upd H4 G (.lst (acc ++ [.ref b]))) ∧ ∃ ps, upd H4 G (.lst (acc ++ [.ref b])) G = some (.lst ps) ∧ DpAll K (upd H4 G (.lst (acc ++ [.ref b]))) ps (((l.take (t + 1)).map fun x => x.take kd).map wayD)) := fun b H4 s4 hb => by
          refine ⟨ps, s4 _ _ hG, small_line (by omega), fun b o e => ?_, ps ++ [.ref b], upd_same, ?_⟩
          · rw [upd_ne (ne_of_none e nG)]
            exact s4 _ _ (s3 _ _ e)
          · rw [take_snoc hu, List.map_append, List.map_append]
            exact dpAll_put (s4 _ _ hG) (dpAll_app (dpAll_same s4 dps) (.cons (of_way hb) .nil)) (noL_app _ [u.take kd])
        refine ⟨_, rfl, _, rfl, p, C, dx, _, _, rfl, s13 _ _ hp, T.cl, T.nK, cf_kinds _ _ _ _, ?_⟩
        refine ⟨kd, rfl, ta, _, rfl, s13.seqT hT, fun c => ?_, fun c p np => ?_⟩
        · refine fin ta H3 (Same.refl _) ?_
          have e : kd = 4 := by
            have c2 := c.2
            rw [show HT.sIx (u.map V.int).length (u.map V.int).length (some (kd : Int)) = min kd (u.map V.int).length from HT.sIx_nat _ _ kd, List.length_map, u4] at c2
            omega
          rw [e, List.take_of_length_le (by omega)]
          exact s13.seqT hT
        · refine fin p _ (same_upd np) ?_
          rw [cut_take (by omega)]
          exact SqT.of upd_same
      · rintro H3 ⟨s3, ps, hG, dps⟩
        rw [ll, List.take_length] at dps
        have hD3 := s3 _ _ hD
        have nGa : G ∉ as := fun h => by
          obtain ⟨i, hi⟩ := List.mem_iff_getElem?.mp h
          have il := (List.getElem?_eq_some_iff.mp hi).1
          obtain ⟨_, ps0, e0, _⟩ := all i G _ hi (List.getElem?_eq_getElem (by omega : i < L.length))
          rw [e0] at nG
          cases nG
        refine ⟨as.map V.ref, hD3, small_line (by rw [List.length_map]; omega), fun b o e => ?_, as ++ [G], by rw [upd_same, List.map_append]; rfl, by rw [List.length_append, las]; rfl, ?_, ?_, fun i a l' hi hl' => ?_⟩
        · rw [upd_ne (ne_of_none e nD)]
          exact s3 _ _ (s1 _ _ e)
        · refine List.nodup_append.mpr ⟨nd, by simp, fun a ha b hb => ?_⟩
          rw [List.mem_singleton.mp hb]
          exact fun z => nGa (z ▸ ha)
        · intro h
          rcases List.mem_append.mp h with h | h
          · exact nDa h
          · exact nDG (List.mem_singleton.mp h)
        · have nl : ∀ l : List (List Int), noLAll ((l.map fun x => x.take kd).map wayD) = true := fun l => noLAll_map noL_way _
          by_cases hr : i < as.length
          · rw [List.getElem?_append_left hr] at hi
            obtain ⟨n0, ps0, e0, d0⟩ := all i a l' hi hl'
            have nDa' : a ≠ D := fun z => nDa (z ▸ List.mem_of_getElem? hi)
            exact ⟨n0, ps0, by rw [upd_ne nDa']; exact s3 _ _ e0, dpAll_put hD3 (dpAll_same s3 d0) (nl l')⟩
          · have e : i = as.length := by
              have := (List.getElem?_eq_some_iff.mp hi).1
              rw [List.length_append, List.length_singleton] at this
              omega
            subst e
            rw [List.getElem?_append_right (Nat.le_refl _), Nat.sub_self] at hi
            cases hi
            rw [las, hl] at hl'
            cases hl'
            exact ⟨nGH, ps, by rw [upd_ne nDG.symm]; exact hG, dpAll_put hD3 dps (nl l)⟩
    · rintro H1 ⟨s1, as, hD, las, nd, nDa, all⟩
      exact q D H1 as s1 nD hD (by omega) nd nDa all
end
/-! ### a plan as it is handed in -/
def askT (a : PAsk) : PyData := .tuple (a.map pairP)
def roomT (r : List PAsk) : PyData := .tuple (r.map askT)
def planD (kd : Nat) (P : Rooms) : PyData := .tuple [.int (kd : Int), .tuple (P.map roomT)]
def ask4 (a : PAsk) : PAsk := a.map fun q => (four q.1, q.2)
def R4 (P : Rooms) : Rooms := P.map fun r => r.map ask4
structure PlOk (P : Rooms) (kd : Nat) : Prop where
  k1 : 1 ≤ kd
  k4 : kd ≤ 4
  one : 1 ≤ P.length
  few : P.length ≤ 100
  asks : ∀ l ∈ P, l.length ≤ 1000
  five : ∀ l ∈ P, ∀ a ∈ l, a.length ≤ 5
  pair : ∀ l ∈ P, ∀ a ∈ l, ∀ p ∈ a, p.1.length = kd ∧ p.2 < P.length
theorem PlOk.rooms {P : Rooms} {kd : Nat} (o : PlOk P kd) : RmOk (R4 P) := by
  have k4 := o.k4
  have few := o.few
  have e : (R4 P).length = P.length := List.length_map ..
  refine ⟨by omega, fun l hl => ?_, fun l hl a ha => ?_, fun l hl a ha p hp => ?_⟩
  · obtain ⟨l0, h0, rfl⟩ := List.mem_map.mp hl
    rw [List.length_map]
    exact o.asks l0 h0
  · obtain ⟨l0, h0, rfl⟩ := List.mem_map.mp hl
    obtain ⟨a0, h1, rfl⟩ := List.mem_map.mp ha
    unfold ask4
    rw [List.length_map]
    exact o.five l0 h0 a0 h1
  · obtain ⟨l0, h0, rfl⟩ := List.mem_map.mp hl
    obtain ⟨a0, h1, rfl⟩ := List.mem_map.mp ha
    obtain ⟨p0, h2, rfl⟩ := List.mem_map.mp hp
    obtain ⟨e1, e2⟩ := o.pair l0 h0 a0 h1 p0 h2
    exact ⟨four_len (by omega), by rw [e]; exact e2⟩
def zeroL (n : Nat) : List (List (List Int)) := List.replicate n [[0, 0, 0, 0]]
theorem zeroL_ok (R : Rooms) : RowOk R.length (PB none R 0) (zeroL R.length) := by
  refine ⟨List.length_replicate, fun r l hl => ?_⟩
  have e := List.eq_of_mem_replicate (List.mem_of_getElem? hl)
  rw [e]
  exact (canon_zero []).congr fun x hx => ⟨fun _ => True.intro, fun _ => True.intro⟩
def spChInit (K : PySem.W.Frag) (C : Addr) : Sp := fun vs H Q _ => ∃ (p dx : Addr) (y : V) (P : Rooms) (kd : Nat), vs = [.ref p, y] ∧ H p = some (.ins C dx []) ∧ Dp K H y (planD kd P) ∧ PlOk P kd ∧
  ∀ (H' : Hp) (rv : V) (ll bb : Addr) (us : List V), Kp p H H' → H ll = none → H bb = none → H' bb = some (.dK []) → ChartIn K C H' p dx rv ll bb kd (R4 P) us [zeroL P.length] → Q .non H'
section
variable {P : Program} {w : World} {K : PySem.W.Frag} {mg : Str → Option Value} {base : Heap}
theorem scChInit : FnScope ["self", "plan", "rooms", "room", "ask", "way", "to", "_"] ["self", "plan"] (defScope sChInit) := ⟨rfl, rfl, rfl, by decide +kernel, rfl, by decide +kernel, by decide +kernel⟩
theorem ok_chInit {f fI C an : Addr} {fd fdI : FuncData} {k : Nat} (F : Fun K "__init__" "Chart.__init__" sChInit f fd) (T : ChTxt K C)
    (GI : FnOk P w K mg base CX0 (k + 1) fI fdI ["numbers"] (spInFour K)) (kI : PySem.W.keepIn K (.ref fI) = true) (bI : Binds K fdI ["numbers"] []) (gI : mg "in_four" = some (.ref fI))
    (gN : mg "NOTHING" = some (.ref an)) (hN : ∀ H : Hp, Dp K H (.ref an) (wayD [0, 0, 0, 0])) : FnOk P w K mg base CX0 (k + 2) f fd ["self", "plan"] (spChInit K C) := by
  refine F.ok scChInit (fun vs H Q E h => ?_) (fun cdv A outer s0 H vs Q E hr h => ?_)
  · obtain ⟨p, dx, y, P, kd, rfl, _⟩ := h
    rfl
  · obtain ⟨p, dx, y, P, kd, rfl, hp, dy, o, q⟩ := h
    refine ⟨_, pss_cons (ps_asg (pv 1) (pg_tup (by rfl) (pgs_cons (pg_fld (pv 0)) (pgs_cons (pg_name (i := 2) scChInit.nd rfl (.inl rfl)) pgs_nil))))
      (pss_cons (ps_fld (pv 0) (pe_lc (own := [("room", 3)]) (g := gName 3) (tt := tYes) (te := tLc (iTup K (tVar 3)) (gName 4) tYes (tLc (iTup K (tVar 4)) (gTup K 2 (gCons (gName 5) (gCons (gName 6) gNil))) tYes (tTup (tCons (tCall (spInFour K) [] E0 (tCons (tVar 5) tNil)) (tCons (tVar 6) tNil))) [5, 6]) [4]) rfl scChInit.nd (pi_tup (pv 2))
          (blkOk_by (N := ["self", "plan", "rooms", "room", "ask", "way", "to", "_"]) (sc := defScope sChInit) (by decide +kernel))
          (fun _ _ _ _ _ => by exact pg_name (i := 3) scChInit.nd rfl (.inl rfl)) (fun _ _ _ _ _ => pts_nil)
          (fun _ _ _ _ _ => by exact (by
            refine pe_lc (wi := iTup K (tVar 3)) (own := [("ask", 4)]) (g := gName 4) (tt := tYes) (te := tLc (iTup K (tVar 4)) (gTup K 2 (gCons (gName 5) (gCons (gName 6) gNil))) tYes (tTup (tCons (tCall (spInFour K) [] E0 (tCons (tVar 5) tNil)) (tCons (tVar 6) tNil))) [5, 6]) ?_ ?_ ?_ ?_ ?_ ?_ ?_
            · rfl
            · exact scChInit.nd
            · exact pi_tup (pv 3)
            · exact blkOk_by (N := ["self", "plan", "rooms", "room", "ask", "way", "to", "_"]) (sc := lcSc [(".0", .local), ("room", .local)]) (by decide +kernel)
            · exact fun _ _ _ _ _ => by exact pg_name (i := 4) scChInit.nd rfl (.inl rfl)
            · exact fun _ _ _ _ _ => pts_nil
            · intro _ _ _ _ _
              refine pe_lc (wi := iTup K (tVar 4)) (own := [("way", 5), ("to", 6)]) (g := gTup K 2 (gCons (gName 5) (gCons (gName 6) gNil))) (tt := tYes) (te := tTup (tCons (tCall (spInFour K) [] E0 (tCons (tVar 5) tNil)) (tCons (tVar 6) tNil))) ?_ ?_ ?_ ?_ ?_ ?_ ?_
              · rfl
              · exact scChInit.nd
              · exact pi_tup (pv 4)
              · exact blkOk_by (N := ["self", "plan", "rooms", "room", "ask", "way", "to", "_"]) (sc := lcSc [(".0", .local), ("ask", .local)]) (by decide +kernel)
              · exact fun _ _ _ _ _ => by refine pg_tup rfl (pgs_cons ?_ (pgs_cons ?_ pgs_nil)); exact pg_name (i := 5) scChInit.nd rfl (.inl rfl); exact pg_name (i := 6) scChInit.nd rfl (.inl rfl)
              · exact fun _ _ _ _ _ => pts_nil
              · exact fun _ _ _ _ _ => by exact pe_tup (pa_cons (pe_call GI hr (by rfl) gI kI bI .nil pass0 (pa_cons (pv 5) pa_nil)) (pa_cons (pv 6) pa_nil))))) rfl)
      (pss_cons (ps_fld (pv 0) (pe_lst (pa_cons (pe_lc (own := [("_", 7)]) (g := gName 7) (tt := tYes) (te := tLst (tCons (tC (.ref an)) tNil)) rfl scChInit.nd (pi_tup (pv 2))
          (blkOk_by (N := ["self", "plan", "rooms", "room", "ask", "way", "to", "_"]) (sc := defScope sChInit) (by decide +kernel))
          (fun _ _ _ _ _ => by exact pg_name (i := 7) scChInit.nd rfl (.inl rfl)) (fun _ _ _ _ _ => pts_nil)
          (fun _ _ _ _ _ => by exact pe_lst (pa_cons (pe_glob (v := .ref an) (by rfl) gN rfl) pa_nil))) pa_nil)) rfl)
      (pss_one (ps_fld (pv 0) pe_dnewK rfl)))), ?_⟩
    have k1 := o.k1
    have k4 := o.k4
    cases dy with
    | @tup ya yvs _ hY yall =>
    cases yall with
    | @cons v1 _ _ _ d1 r1 =>
    cases r1 with
    | @cons v2 _ _ _ d2 r2 =>
    cases r2
    cases d1
    obtain ⟨ra, rvs, rfl, hR0, rall0⟩ := tup_of d2
    -- self._kinds, rooms = plan
    have kK := kp_upd p H (.ins C dx (putF "_kinds" (.int (kd : Int)) []))
    refine ⟨_, rfl, ya, _, rfl, hY, rfl, _, _, rfl, _, rfl, p, C, dx, [], rfl, hp, T.cl, T.nK, by show 0 < 1000; decide, _, _, rfl, rfl, ?_⟩
    have hR := kK.seqTI hp hR0
    have rall := dpAll_ki kK hp rall0
    have hp1 : (upd H p (.ins C dx (putF "_kinds" (.int (kd : Int)) []))) p = some (.ins C dx (putF "_kinds" (.int (kd : Int)) [])) := upd_same
    generalize (upd H p (.ins C dx (putF "_kinds" (.int (kd : Int)) []))) = H1 at hR rall hp1 kK ⊢
    clear hR0 rall0
    have lr := mapD_len rall
    have few := o.few
    -- self._rooms
    refine ⟨_, rfl, ra, rfl, ⟨_, hR⟩, fun D nD => ?_⟩
    have sD := same_upd (o := .lst []) nD
    refine lc_tup (K := K) (a := ra) (xs := rvs) (fun j H2 => Same H1 H2 ∧ ∃ ps, H2 D = some (.lst ps) ∧ DpAll K (rmv H2 D) ps ((R4 (P.take j)).map roomD)) ⟨sD, [], upd_same, .nil⟩ (fun j H2 _ ⟨s2, _⟩ => s2.seqT hR) ?_ ?_
    · rintro j v H2 hj ⟨s2, ps, hD, dps⟩
      obtain ⟨room, hroom, droom⟩ := mapD_get rall hj
      have mroom := List.mem_of_getElem? hroom
      have jl := (List.getElem?_eq_some_iff.mp hroom).1
      obtain ⟨qa, qvs, rfl, hQ, qall⟩ := tup_of droom
      have lq := mapD_len qall
      have lps := mapD_len dps
      unfold R4 at lps
      simp only [List.length_map, List.length_take] at lps
      have la := o.asks room mroom
      refine ⟨rfl, ?_⟩
      refine ⟨_, rfl, qa, rfl, ⟨_, s2.seqT hQ⟩, fun G nG => ?_⟩
      have sG := same_upd (o := .lst []) nG
      have nDG : D ≠ G := ne_of_none hD nG
      refine lc_tup (K := K) (a := qa) (xs := qvs) (fun t H3 => Same H2 H3 ∧ ∃ ps, H3 G = some (.lst ps) ∧ DpAll K (rmv (rmv H3 D) G) ps (((room.take t).map ask4).map paskD)) ⟨sG, [], upd_same, .nil⟩ (fun t H3 _ ⟨s3, _⟩ => s3.seqT (s2.seqT hQ)) ?_ ?_
      · rintro t v H3 ht ⟨s3, ps3, hG, dps3⟩
        obtain ⟨a, ha, da⟩ := mapD_get qall ht
        have ma := List.mem_of_getElem? ha
        have tl := (List.getElem?_eq_some_iff.mp ha).1
        have l5 := o.five room mroom a ma
        obtain ⟨aa, avs, rfl, hA, aall⟩ := tup_of da
        have lav := mapD_len aall
        have s23 := s2.trans s3
        have lp3 := mapD_len dps3
        simp only [List.length_map, List.length_take] at lp3
        refine ⟨rfl, ?_⟩
        refine ⟨_, rfl, aa, rfl, ⟨_, s23.seqT hA⟩, fun J nJ => ?_⟩
        have sJ := same_upd (o := .lst []) nJ
        have hD3 := s3 _ _ hD
        have nDJ : D ≠ J := ne_of_none hD3 nJ
        have nGJ : G ≠ J := ne_of_none hG nJ
        refine lc_tup (K := K) (a := aa) (xs := avs) (fun i H4 => Same H3 H4 ∧ ∃ ps, H4 J = some (.lst ps) ∧ DpAll K H4 ps ((ask4 (a.take i)).map pairP)) ⟨sJ, [], upd_same, .nil⟩ (fun i H4 _ ⟨s4, _⟩ => s4.seqT (s23.seqT hA)) ?_ ?_
        · rintro i v H4 hi ⟨s4, ps4, hJ, dps4⟩
          obtain ⟨pr, hpr, dpr⟩ := mapD_get aall hi
          obtain ⟨pa, px, rfl, hpT, dpx⟩ := pairP_of dpr
          obtain ⟨w4, pN⟩ := o.pair room mroom a ma pr (List.mem_of_getElem? hpr)
          have s24 := s23.trans s4
          have lp4 := mapD_len dps4
          unfold ask4 at lp4
          simp only [List.length_map, List.length_take] at lp4
          refine ⟨pa, _, rfl, s24.seqT hpT, rfl, _, _, rfl, _, _, rfl, rfl, rfl, ?_⟩
          refine ⟨_, rfl, px, pr.1, rfl, dp_same s24 dpx, by omega, by omega, fun wv H5 s5 dw => ?_⟩
          refine ⟨_, rfl, by show 2 ≤ sizeLine; decide, fun U nU => ?_⟩
          have sU := same_upd (o := .tup [wv, V.int (pr.2 : Int)]) nU
          have hJ5 := sU _ _ (s5 _ _ hJ)
          have dU := dp_tup nU (.cons dw (.cons (.int (pr.2 : Int)) .nil))
          refine ⟨ps4, hJ5, small_line (by omega), fun b ob e => ?_, ps4 ++ [.ref U], upd_same, ?_⟩
          · rw [upd_ne (ne_of_none e nJ)]
            exact sU _ _ (s5 _ _ (s4 _ _ e))
          · have e1 : ask4 (a.take (i + 1)) = ask4 (a.take i) ++ [(four pr.1, pr.2)] := by
              unfold ask4
              rw [take_snoc hpr, List.map_append]
              rfl
            rw [e1]
            exact dpAll_put hJ5 (dpAll_app1 (dpAll_same (s5.trans sU) dps4) (show Dp K _ _ (pairP (four pr.1, pr.2)) from dU)) (noLAll_map noL_pairP _)
        · rintro H4 ⟨s4, ps4, hJ, dps4⟩
          rw [lav, List.take_length] at dps4
          have hG4 := s4 _ _ hG
          have hD4 := s4 _ _ hD3
          refine ⟨ps3, hG4, small_line (by omega), fun b ob e => ?_, ps3 ++ [.ref J], upd_same, ?_⟩
          · rw [upd_ne (ne_of_none e nG)]
            exact s4 _ _ (s3 _ _ e)
          · have e1 : (room.take (t + 1)).map ask4 = (room.take t).map ask4 ++ [ask4 a] := by
              rw [take_snoc ha, List.map_append]
              rfl
            rw [e1]
            have rr : Same (rmv (rmv H3 D) G) (rmv (rmv (upd H4 G (.lst (ps3 ++ [.ref J]))) D) G) := rmv_rmv fun b ob n e => by
              obtain ⟨n2, e⟩ := rmv_some e
              rw [rmv_ne n2, upd_ne n]
              exact s4 _ _ e
            refine dpAll_app1 (dpAll_same rr dps3) ?_
            have kG : Kp G H4 (upd H4 G (.lst (ps3 ++ [.ref J]))) := kp_upd G H4 _
            have d1 : DpAll K (upd H4 G (.lst (ps3 ++ [.ref J]))) ps4 ((ask4 a).map pairP) := dpAll_put hG4 dps4 (noLAll_map noL_pairP _)
            have hD5 : (upd H4 G (.lst (ps3 ++ [.ref J]))) D = some (.lst ps) := by rw [upd_ne nDG]; exact hD4
            have d2 := dpAll_kp (rmv_kp _ D) hD5 d1 (noLAll_map noL_pairP _)
            have hG5 : (rmv (upd H4 G (.lst (ps3 ++ [.ref J]))) D) G = some (.lst (ps3 ++ [.ref J])) := by rw [rmv_ne nDG.symm]; exact upd_same
            have d3 := dpAll_kp (rmv_kp _ G) hG5 d2 (noLAll_map noL_pairP _)
            exact .lst (SqL.of (by rw [rmv_ne nGJ.symm, rmv_ne nDJ.symm, upd_ne nGJ.symm]; exact hJ)) d3
      · rintro H3 ⟨s3, ps3, hG, dps3⟩
        rw [lq, List.take_length] at dps3
        have hD3 := s3 _ _ hD
        refine ⟨ps, hD3, small_line (by omega), fun b ob e => ?_, ps ++ [.ref G], upd_same, ?_⟩
        · rw [upd_ne (ne_of_none e nD)]
          exact s3 _ _ (s2 _ _ e)
        · have e1 : R4 (P.take (j + 1)) = R4 (P.take j) ++ [room.map ask4] := by
            unfold R4
            rw [take_snoc hroom, List.map_append]
            rfl
          rw [e1]
          have rr : Same (rmv H2 D) (rmv (upd H3 D (.lst (ps ++ [.ref G]))) D) := rmv_rmv fun b ob n e => by rw [upd_ne n]; exact s3 _ _ e
          refine dpAll_app1 (dpAll_same rr dps) ?_
          have rr2 : Same (rmv (rmv H3 D) G) (rmv (upd H3 D (.lst (ps ++ [.ref G]))) D) := fun b ob e => by
            obtain ⟨n1, e⟩ := rmv_some e
            obtain ⟨n2, e⟩ := rmv_some e
            rw [rmv_ne n2, upd_ne n2]
            exact e
          exact .lst (SqL.of (by rw [rmv_ne nDG.symm, upd_ne nDG.symm]; exact hG)) (dpAll_same rr2 dps3)
    · rintro H2 ⟨s2, ps, hD, dps⟩
      rw [lr, List.take_length] at dps
      have dD : Dp K H2 (.ref D) (roomsD (R4 P)) := .lst (SqL.of hD) (dpAll_same (rmv_same fun b ob _ e => e) dps)
      have hp2 := s2 _ _ hp1
      refine ⟨_, rfl, p, C, dx, _, rfl, hp2, T.cl, T.nR, by show 1 < 1000; decide, ?_⟩
      have kR := kp_upd p H2 (.ins C dx (putF "_rooms" (.ref D) (putF "_kinds" (.int (kd : Int)) [])))
      have dD3 := dp_ki kR hp2 dD
      have hR3 := kR.seqTI hp2 (s2.seqT hR)
      have hp3 : (upd H2 p (.ins C dx (putF "_rooms" (.ref D) (putF "_kinds" (.int (kd : Int)) [])))) p = some (.ins C dx (putF "_rooms" (.ref D) (putF "_kinds" (.int (kd : Int)) []))) := upd_same
      have kk3 : Kp p H (upd H2 p (.ins C dx (putF "_rooms" (.ref D) (putF "_kinds" (.int (kd : Int)) [])))) := (kK.same s2).trans kR
      generalize (upd H2 p (.ins C dx (putF "_rooms" (.ref D) (putF "_kinds" (.int (kd : Int)) [])))) = H3 at dD3 hR3 hp3 kk3 ⊢
      -- self._lists
      refine ⟨_, rfl, ra, rfl, ⟨_, hR3⟩, fun G nG => ?_⟩
      have sG := same_upd (o := .lst []) nG
      refine lc_tup (K := K) (a := ra) (xs := rvs) (fun j H4 => Same H3 H4 ∧ ∃ ps, H4 G = some (.lst ps) ∧ DpAll K (rmv H4 G) ps ((zeroL j).map stsD)) ⟨sG, [], upd_same, .nil⟩ (fun j H4 _ ⟨s4, _⟩ => s4.seqT hR3) ?_ ?_
      · rintro j v H4 hj ⟨s4, ps4, hG, dps4⟩
        have lp4 := mapD_len dps4
        unfold zeroL at lp4
        rw [List.length_replicate] at lp4
        have jl := (List.getElem?_eq_some_iff.mp hj).1
        refine ⟨rfl, ?_⟩
        refine ⟨by show 1 ≤ sizeLine; decide, fun J nJ => ?_⟩
        have sJ := same_upd (o := .lst [V.ref an]) nJ
        have nGJ : G ≠ J := ne_of_none hG nJ
        refine ⟨ps4, sJ _ _ hG, small_line (by omega), fun b ob e => ?_, ps4 ++ [.ref J], upd_same, ?_⟩
        · rw [upd_ne (ne_of_none e nG)]
          exact sJ _ _ (s4 _ _ e)
        · have e1 : zeroL (j + 1) = zeroL j ++ [[[0, 0, 0, 0]]] := by
            unfold zeroL
            rw [List.replicate_succ']
          rw [e1]
          have rr : Same (rmv H4 G) (rmv (upd (upd H4 J (.lst [V.ref an])) G (.lst (ps4 ++ [.ref J]))) G) := rmv_rmv fun b ob n e => by rw [upd_ne n]; exact sJ _ _ e
          refine dpAll_app1 (dpAll_same rr dps4) ?_
          exact .lst (SqL.of (by rw [rmv_ne nGJ.symm, upd_ne nGJ.symm]; exact upd_same)) (.cons (hN _) .nil)
      · rintro H4 ⟨s4, ps4, hG, dps4⟩
        rw [lr] at dps4
        refine ⟨by show 1 ≤ sizeLine; decide, fun LL nLL => ?_⟩
        have sL := same_upd (o := .lst [V.ref G]) nLL
        have nGL : G ≠ LL := ne_of_none hG nLL
        have hp4 := s4 _ _ hp3
        have npL : p ≠ LL := ne_of_none hp4 nLL
        have hp5 : (upd H4 LL (.lst [V.ref G])) p = some (.ins C dx (putF "_rooms" (.ref D) (putF "_kinds" (.int (kd : Int)) []))) := by rw [upd_ne npL]; exact hp4
        refine ⟨_, rfl, p, C, dx, _, rfl, hp5, T.cl, T.nL, by show 2 < 1000; decide, ?_⟩
        intro bb nbb
        have npb : p ≠ bb := ne_of_none upd_same nbb
        have hLb : (upd (upd H4 LL (.lst [V.ref G])) p (.ins C dx (putF "_lists" (.ref LL) (putF "_rooms" (.ref D) (putF "_kinds" (.int (kd : Int)) []))))) LL = some (.lst [V.ref G]) := by rw [upd_ne npL.symm]; exact upd_same
        have nLb : LL ≠ bb := ne_of_none hLb nbb
        refine ⟨_, rfl, p, C, dx, _, rfl, by rw [upd_ne npb]; exact upd_same, T.cl, T.nB, by show 3 < 1000; decide, ?_⟩
        have nHL : H LL = none := (kk3.same s4).free nLL npL.symm
        have nb4 : H4 bb = none := by
          rw [upd_ne npb.symm, upd_ne nLb.symm] at nbb
          exact nbb
        have nHb : H bb = none := (kk3.same s4).free nb4 npb.symm
        -- all but p is as it was
        have kf : ∀ b ob, H4 b = some ob → b ≠ p → (upd (upd (upd (upd H4 LL (.lst [V.ref G])) p (.ins C dx (putF "_lists" (.ref LL) (putF "_rooms" (.ref D) (putF "_kinds" (.int (kd : Int)) []))))) bb (.dK [])) p (.ins C dx (putF "_boxes" (.ref bb) (putF "_lists" (.ref LL) (putF "_rooms" (.ref D) (putF "_kinds" (.int (kd : Int)) [])))))) b = some ob := fun b ob e n => by
          rw [upd_ne n, upd_ne (ne_of_none e nb4), upd_ne n, upd_ne (ne_of_none e nLL)]
          exact e
        have kf' : Kp p H4 (rmv (upd (upd (upd (upd H4 LL (.lst [V.ref G])) p (.ins C dx (putF "_lists" (.ref LL) (putF "_rooms" (.ref D) (putF "_kinds" (.int (kd : Int)) []))))) bb (.dK [])) p (.ins C dx (putF "_boxes" (.ref bb) (putF "_lists" (.ref LL) (putF "_rooms" (.ref D) (putF "_kinds" (.int (kd : Int)) [])))))) LL) := fun b ob e n => by
          rw [rmv_ne (ne_of_none e nLL)]
          exact kf b ob e n
        refine q _ (.ref D) LL bb [V.ref G] (fun b ob e n => kf b ob (s4 _ _ (kk3 _ _ e n)) n) nHL nHb ?_ ⟨upd_same, ?_, ?_, ?_, Nat.le_refl _, fun j L hj => ?_⟩
        · rw [upd_ne npb.symm]
          exact upd_same
        · rw [upd_ne npL.symm, upd_ne nLb]
          exact hLb
        · refine .cons ?_ .nil
          have dG : Dp K H4 (.ref G) (lvD (zeroL P.length)) := .lst (SqL.of hG) (dpAll_same (rmv_same fun b ob _ e => e) dps4)
          exact dp_ki kf' hp4 dG
        · exact dp_ki kf' hp4 (dp_same s4 dD3)
        · have e : (R4 P).length = P.length := List.length_map ..
          match j, hj with
          | 0, hj =>
            cases hj
            have := zeroL_ok (R4 P)
            rw [e] at this
            rw [e]
            exact this
end
/-! ### least, lasts -/
def sKindsOf : Stmt := topS 2
def spKindsOf (K : PySem.W.Frag) : Sp := fun vs H Q _ => ∃ (x : V) (h : Asks) (kd : Nat), vs = [x] ∧ Dp K H x (houseD h) ∧ HsOk h kd ∧ Q (.int kd) H
section
variable {P : Program} {w : World} {K : PySem.W.Frag} {mg : Str → Option Value} {base : Heap}
theorem scKindsOf : FnScope ["house"] ["house"] (defScope sKindsOf) := ⟨rfl, rfl, rfl, by decide +kernel, rfl, by decide +kernel, by decide +kernel⟩
theorem ok_kindsOf {f : Addr} {fd : FuncData} {k : Nat} (F : Fun K "kinds_of" "kinds_of" sKindsOf f fd) (ml : mg "len" = none) : FnOk P w K mg base CX0 (k + 1) f fd ["house"] (spKindsOf K) := by
  refine F.ok scKindsOf (fun vs H Q E h => ?_) (fun cdv A outer s H vs Q E hr h => ?_)
  · obtain ⟨x, h, kd, rfl, _⟩ := h
    rfl
  · obtain ⟨x, h, kd, rfl, hx, o, q⟩ := h
    refine ⟨_, pss_one (ps_ret (pe_callB call_len_seq (by rfl) ml PySem.boot_len (pa_cons (pe_ix ix_tup (pe_ix ix_tup (pv 0) pe_int (fun _ _ => rfl)) pe_int (fun _ _ => rfl)) pa_nil))), ?_⟩
    obtain ⟨a0, w0, h0, hw0⟩ := o.ne
    cases hx with
    | @tup ha asv _ hT hall =>
    obtain ⟨v, hv, dv⟩ := dpAll_getD (i := 0) (d := askD a0) hall (by rw [List.getElem?_map, h0]; rfl)
    cases dv with
    | @tup aa ws _ aT wall =>
    obtain ⟨u, hu, du⟩ := dpAll_getD (i := 0) (d := wayD w0) wall (by rw [List.getElem?_map, hw0]; rfl)
    obtain ⟨wa, rfl, wT⟩ := way_of du
    have e := o.len a0 (List.mem_of_getElem? h0) w0 (List.mem_of_getElem? hw0)
    refine ⟨_, rfl, ha, asv, 0, .ref aa, rfl, rfl, hT, atI_nat (j := 0) hv, aa, ws, 0, .ref wa, rfl, rfl, aT, atI_nat (j := 0) hu, wa, _, rfl, .inr wT, ?_⟩
    rw [List.length_map, e]
    exact q
end
/-! ### a house as the plan of one room -/
def sPlanOf : Stmt := topS 23
def planOf (h : Asks) : Rooms := [h.map fun a => a.map fun w => (w, 0)]
def oneR (A : Asks) : Rooms := [A.map fun a => a.map fun w => (w, 0)]
theorem r4_one (h : Asks) : R4 (planOf h) = oneR (asks4 h) := by
  unfold R4 planOf oneR asks4 ask4
  simp only [List.map_cons, List.map_nil, List.map_map]
  congr 1
  refine List.map_congr_left fun a _ => ?_
  show (a.map fun w => ((w, 0) : List Int × Nat)).map (fun q => (four q.1, q.2)) = (a.map four).map fun w => (w, 0)
  rw [List.map_map, List.map_map]
  rfl
theorem HsOk.plan {h : Asks} {kd : Nat} (o : HsOk h kd) : PlOk (planOf h) kd := by
  refine ⟨o.k1, o.k4, Nat.le_refl _, by show 1 ≤ 100; decide, fun l hl => ?_, fun l hl a ha => ?_, fun l hl a ha p hp => ?_⟩
  · rw [List.mem_singleton.mp hl, List.length_map]
    have := o.few
    omega
  · rw [List.mem_singleton.mp hl] at ha
    obtain ⟨a0, h0, rfl⟩ := List.mem_map.mp ha
    rw [List.length_map]
    exact o.five a0 h0
  · rw [List.mem_singleton.mp hl] at ha
    obtain ⟨a0, h0, rfl⟩ := List.mem_map.mp ha
    obtain ⟨w0, h1, rfl⟩ := List.mem_map.mp hp
    exact ⟨o.len a0 h0 w0 h1, by show 0 < 1; decide⟩
theorem ndb_one {B : Nat → List Int → Prop} {a : List (List Int)} {x : List Int} (hx : Ok4 x) (mono : ∀ y z, Ok4 y → B 0 y → le4 y z = true → B 0 z) : NdB none B (a.map fun w => (w, 0)) x ↔ ∃ w ∈ a, Ok4 (add4 x w) ∧ B 0 (add4 x w) := by
  constructor
  · rintro ⟨z, oz, lz, _, p, mp, o1, q⟩
    obtain ⟨w, mw, rfl⟩ := List.mem_map.mp mp
    obtain ⟨o2, l2⟩ := add4_le lz o1
    exact ⟨w, mw, o2, mono _ _ o1 q l2⟩
  · rintro ⟨w, mw, o1, q⟩
    exact ⟨x, hx, le4_refl hx, fun r e => (nomatch e), (w, 0), List.mem_map.mpr ⟨w, mw, rfl⟩, o1, q⟩
theorem roomAt_one (A : Asks) : roomAt (oneR A) 0 = A.map fun a => a.map fun w => (w, 0) := rfl
theorem pb_one {A : Asks} : ∀ {n : Nat} {x : List Int}, Ok4 x → (PB none (oneR A) n 0 x ↔ LN A n x)
  | 0, _, _ => Iff.rfl
  | n + 1, x, hx => by
    have mono : ∀ y z, Ok4 y → PB none (oneR A) n 0 y → le4 y z = true → PB none (oneR A) n 0 z := fun y z _ h l => PB.mono h l
    constructor
    · rintro ⟨_, h⟩ a ha
      obtain ⟨w, mw, o1, q⟩ := (ndb_one hx mono).mp (h (a.map fun w => (w, 0)) (by rw [roomAt_one]; exact List.mem_map.mpr ⟨a, ha, rfl⟩))
      exact ⟨w, mw, o1, (pb_one o1).mp q⟩
    · intro h
      refine ⟨(pb_one hx).mpr h.down, fun a ha => ?_⟩
      rw [roomAt_one] at ha
      obtain ⟨a0, h0, rfl⟩ := List.mem_map.mp ha
      obtain ⟨w, mw, o1, q⟩ := h a0 h0
      exact (ndb_one hx mono).mpr ⟨w, mw, o1, (pb_one o1).mpr q⟩
theorem nd_ln {A : Asks} {j : Nat} {a : List (List Int)} {x : List Int} (hx : Ok4 x) : NdB none (PB none (oneR A) j) (a.map fun w => (w, 0)) x ↔ Nd A j a x := by
  rw [ndb_one hx fun y z _ h l => PB.mono h l]
  exact ⟨fun ⟨w, mw, o1, q⟩ => ⟨w, mw, o1, (pb_one o1).mp q⟩, fun ⟨w, mw, o1, q⟩ => ⟨w, mw, o1, (pb_one o1).mpr q⟩⟩
theorem sub_map {α β : Type} {f : α → β} {l : List α} : ∀ {as : List β}, (∀ a ∈ as, a ∈ l.map f) → ∃ bs : List α, (∀ b ∈ bs, b ∈ l) ∧ as = bs.map f
  | [], _ => ⟨[], fun _ h => (nomatch h), rfl⟩
  | a :: as, h => by
    obtain ⟨b, hb, rfl⟩ := List.mem_map.mp (h a List.mem_cons_self)
    obtain ⟨bs, hbs, rfl⟩ := sub_map (f := f) (l := l) (as := as) fun a ha => h a (List.mem_cons_of_mem _ ha)
    refine ⟨b :: bs, fun c hc => ?_, rfl⟩
    rcases List.mem_cons.mp hc with rfl | hc
    · exact hb
    · exact hbs c hc
theorem Few.plan {A : Asks} {n m : Nat} (f : Few A n m) : FewP none (oneR A) n := fun j hj => ⟨m, by
  refine fewB_of f.fv (fun r hr as sub M c => ?_) f.sq (by have := f.fv; omega) (fun r hr a ha M c => ?_)
  · obtain rfl : r = 0 := by have : r < 1 := hr; omega
    rw [roomAt_one] at sub
    obtain ⟨bs, hbs, rfl⟩ := sub_map sub
    refine f.all j hj bs hbs M (c.congr fun x hx => ?_)
    rw [pb_one hx]
    refine and_congr Iff.rfl ⟨fun h b hb => (nd_ln hx).mp (h _ (List.mem_map.mpr ⟨b, hb, rfl⟩)), fun h a ha => ?_⟩
    obtain ⟨b, hb, rfl⟩ := List.mem_map.mp ha
    exact (nd_ln hx).mpr (h b hb)
  · obtain rfl : r = 0 := by have : r < 1 := hr; omega
    rw [roomAt_one] at ha
    obtain ⟨b, hb, rfl⟩ := List.mem_map.mp ha
    exact f.one j hj b hb M (c.congr fun x hx => nd_ln hx)⟩
/-- how long the lists are -/
theorem FewP.len {b : Option Int} {R : Rooms} {n : Nat} (f : FewP b R n) {L : List (List (List Int))} (o : RowOk R.length (PB b R n) L) : ∀ l ∈ L, l.length ≤ 4096 ∧ ∀ t ∈ l, t.length = 4 := fun l hl => by
  obtain ⟨r, hr⟩ := List.mem_iff_getElem?.mp hl
  have c := o.can r l hr
  have rR : r < R.length := by rw [← o.len]; exact (List.getElem?_eq_some_iff.mp hr).1
  refine ⟨?_, fun t ht => ok4_len (c.ok t ht)⟩
  match n, f, o, c with
  | 0, f, o, c =>
    rw [c.uniq ((canon_zero []).congr fun x hx => ⟨fun _ => True.intro, fun _ => True.intro⟩)]
    decide
  | n + 1, f, o, c =>
    obtain ⟨m, fm⟩ := f n (Nat.lt_succ_self n)
    have := fm.all r rR (roomAt R r) (fun a h => h) l c
    have := fm.fv
    omega
def spPlanOf (K : PySem.W.Frag) : Sp := fun vs H Q _ => ∃ (x : V) (h : Asks) (kd : Nat), vs = [x] ∧ Dp K H x (houseD h) ∧ HsOk h kd ∧ ∀ v H', Same H H' → Dp K H' v (planD kd (planOf h)) → Q v H'
section
variable {P : Program} {w : World} {K : PySem.W.Frag} {mg : Str → Option Value} {base : Heap}
theorem scPlanOf : FnScope ["house", "room", "ask", "way"] ["house"] (defScope sPlanOf) := ⟨rfl, rfl, rfl, by decide +kernel, rfl, by decide +kernel, by decide +kernel⟩
theorem ok_planOf {f fK : Addr} {fd fdK : FuncData} {k : Nat} (F : Fun K "plan_of" "plan_of" sPlanOf f fd)
    (GK : FnOk P w K mg base CX0 (k + 1) fK fdK ["house"] (spKindsOf K)) (kK : PySem.W.keepIn K (.ref fK) = true) (bK : Binds K fdK ["house"] []) (gK : mg "kinds_of" = some (.ref fK))
    (mt : mg "tuple" = none) : FnOk P w K mg base CX0 (k + 2) f fd ["house"] (spPlanOf K) := by
  refine F.ok scPlanOf (fun vs H Q E h => ?_) (fun cdv A outer s0 H vs Q E hr h => ?_)
  · obtain ⟨x, h, kd, rfl, _⟩ := h
    rfl
  · obtain ⟨x, h, kd, rfl, hx, o, q⟩ := h
    refine ⟨_, pss_cons (ps_set (i := 1) scPlanOf.nd rfl (.inl rfl) (pe_callTy call_tuple_of (by rfl) mt (by decide +kernel) (pa_cons
        (pe_lc (own := [("ask", 2)]) (g := gName 2) (tt := tYes) (te := tCB (rTupOf K) (tCons (tLc (iTup K (tVar 2)) (gName 3) tYes (tTup (tCons (tVar 3) (tCons (tC (.int 0)) tNil))) [3]) tNil)) rfl scPlanOf.nd (pi_tup (pv 0))
          (blkOk_by (N := ["house", "room", "ask", "way"]) (sc := defScope sPlanOf) (by decide +kernel))
          (fun _ _ _ _ _ => by exact pg_name (i := 2) scPlanOf.nd rfl (.inl rfl)) (fun _ _ _ _ _ => pts_nil)
          (fun _ _ _ _ _ => by exact (by
            refine pe_callTy call_tuple_of (by rfl) mt (by decide +kernel) (pa_cons ?_ pa_nil)
            refine pe_lc (wi := iTup K (tVar 2)) (own := [("way", 3)]) (g := gName 3) (tt := tYes) (te := tTup (tCons (tVar 3) (tCons (tC (.int 0)) tNil))) ?_ ?_ ?_ ?_ ?_ ?_ ?_
            · rfl
            · exact scPlanOf.nd
            · exact pi_tup (pv 2)
            · exact blkOk_by (N := ["house", "room", "ask", "way"]) (sc := lcSc [(".0", .local), ("ask", .local), ("tuple", .globalImplicit)]) (by decide +kernel)
            · exact fun _ _ _ _ _ => by exact pg_name (i := 3) scPlanOf.nd rfl (.inl rfl)
            · exact fun _ _ _ _ _ => pts_nil
            · exact fun _ _ _ _ _ => by exact pe_tup (pa_cons (pv 3) (pa_cons pe_int pa_nil))))) pa_nil)))
      (pss_one (ps_ret (pe_tup (pa_cons (pe_call GK hr (by rfl) gK kK bK .nil pass0 (pa_cons (pv 0) pa_nil)) (pa_cons (pe_tup (pa_cons (pv 1) pa_nil)) pa_nil))))), ?_⟩
    obtain ⟨ha, hvs, rfl, hH, hall⟩ := tup_of hx
    have lh := mapD_len hall
    have few := o.few
    refine ⟨_, rfl, ha, rfl, ⟨_, hH⟩, fun D nD => ?_⟩
    have sD := same_upd (o := .lst []) nD
    have noA : ∀ l : List PAsk, noLAll (l.map askT) = true := fun l => noLAll_map (fun a => by
      unfold askT
      simp only [noL]
      exact noLAll_map noL_pairP a) l
    refine lc_tup (K := K) (a := ha) (xs := hvs) (fun j H1 => Same H H1 ∧ ∃ ps, H1 D = some (.lst ps) ∧ DpAll K H1 ps (((h.take j).map fun a => a.map fun w => ((w, 0) : List Int × Nat)).map askT)) ⟨sD, [], upd_same, .nil⟩ (fun j H1 _ ⟨s1, _⟩ => s1.seqT hH) ?_ ?_
    · rintro j v H1 hj ⟨s1, ps, hD, dps⟩
      obtain ⟨a, ha0, da⟩ := mapD_get hall hj
      have ma := List.mem_of_getElem? ha0
      have jl := (List.getElem?_eq_some_iff.mp ha0).1
      have l5 := o.five a ma
      obtain ⟨aa, avs, rfl, hA, aall⟩ := tup_of da
      have la := mapD_len aall
      have lp := mapD_len dps
      simp only [List.length_map, List.length_take] at lp
      refine ⟨rfl, ?_⟩
      refine ⟨_, rfl, aa, rfl, ⟨_, s1.seqT hA⟩, fun G nG => ?_⟩
      have sG := same_upd (o := .lst []) nG
      refine lc_tup (K := K) (a := aa) (xs := avs) (fun i H2 => Same H1 H2 ∧ ∃ ps, H2 G = some (.lst ps) ∧ DpAll K H2 ps (((a.take i).map fun w => ((w, 0) : List Int × Nat)).map pairP)) ⟨sG, [], upd_same, .nil⟩ (fun i H2 _ ⟨s2, _⟩ => s2.seqT (s1.seqT hA)) ?_ ?_
      · rintro i v H2 hi ⟨s2, ps2, hG, dps2⟩
        obtain ⟨w0, hw0, dw⟩ := mapD_get aall hi
        have lp2 := mapD_len dps2
        simp only [List.length_map, List.length_take] at lp2
        refine ⟨rfl, ?_⟩
        refine ⟨_, rfl, by show 2 ≤ sizeLine; decide, fun U nU => ?_⟩
        have sU := same_upd (o := .tup [v, V.int 0]) nU
        have dU := dp_tup nU (.cons (dp_same (s1.trans s2) dw) (.cons (.int (((0 : Nat) : Int))) .nil))
        refine ⟨ps2, sU _ _ hG, small_line (by omega), fun b ob e => ?_, ps2 ++ [.ref U], upd_same, ?_⟩
        · rw [upd_ne (ne_of_none e nG)]
          exact sU _ _ (s2 _ _ e)
        · rw [take_snoc hw0, List.map_append]
          exact dpAll_put (sU _ _ hG) (dpAll_app1 (dpAll_same sU dps2) (show Dp K _ _ (pairP (w0, 0)) from dU)) (noLAll_map noL_pairP _)
      · rintro H2 ⟨s2, ps2, hG, dps2⟩
        rw [la, List.take_length] at dps2
        refine ⟨G, _, rfl, .inl ⟨SqL.of hG, fun R nR => ?_⟩⟩
        have sR := same_upd (o := .tup ps2) nR
        have dR := dp_tup nR dps2
        have hD2 := sR _ _ (s2 _ _ hD)
        refine ⟨ps, hD2, small_line (by omega), fun b ob e => ?_, ps ++ [.ref R], upd_same, ?_⟩
        · rw [upd_ne (ne_of_none e nD)]
          exact sR _ _ (s2 _ _ (s1 _ _ e))
        · rw [take_snoc ha0, List.map_append]
          exact dpAll_put hD2 (dpAll_app1 (dpAll_same (s2.trans sR) dps) (show Dp K _ _ (askT (a.map fun w => (w, 0))) from dR)) (noA _)
    · rintro H1 ⟨s1, ps, hD, dps⟩
      rw [lh, List.take_length] at dps
      refine ⟨D, _, rfl, .inl ⟨SqL.of hD, fun R nR => ?_⟩⟩
      have sR := same_upd (o := .tup ps) nR
      have dR := dp_tup nR dps
      refine ⟨_, rfl, _, h, kd, rfl, dp_same (s1.trans sR) (.tup hH hall), o, ?_⟩
      refine ⟨_, rfl, by show 1 ≤ sizeLine; decide, fun U nU => ?_⟩
      have sU := same_upd (o := .tup [V.ref R]) nU
      have dU := dp_tup nU (.cons dR .nil)
      refine ⟨by show 2 ≤ sizeLine; decide, fun W nW => ?_⟩
      have sW := same_upd (o := .tup [V.int (kd : Int), V.ref U]) nW
      have dW := dp_tup nW (.cons (.int (kd : Int)) (.cons dU .nil))
      exact q (.ref W) _ (((s1.trans sR).trans sU).trans sW) dW
end
def sLeast : Stmt := topS 28
def sLasts : Stmt := topS 27
def spLeast (K : PySem.W.Frag) : Sp := fun vs H Q _ => ∃ (x : V) (h : Asks) (kd n m : Nat), vs = [x, .int n] ∧ Dp K H x (houseD h) ∧ HsOk h kd ∧ n ≤ 1000 ∧ Few (asks4 h) n m ∧
  ∀ q H' ps M, Same H H' → H q = none → H' q = some (.lst ps) → DpAll K H' ps ((M.map fun x => x.take kd).map wayD) → Canon M (LN (asks4 h) n) → Q (.ref q) H'
def spLasts (K : PySem.W.Frag) : Sp := fun vs H Q _ => ∃ (x y : V) (h : Asks) (s : List Int) (kd n m : Nat), vs = [x, y, .int n] ∧ Dp K H x (houseD h) ∧ Dp K H y (wayD s) ∧ HsOk h kd ∧ 1 ≤ s.length ∧ s.length ≤ 4 ∧ (∀ z ∈ s, 0 ≤ z) ∧ n ≤ 1000 ∧ Few (asks4 h) n m ∧
  ∀ b H', Same H H' → (b = true ↔ LN (asks4 h) n (four s)) → Q (.bl b) H'
def spLeastP (K : PySem.W.Frag) : Sp := fun vs H Q _ => ∃ (x : V) (h : Asks) (kd n : Nat), vs = [x, .int n] ∧ Dp K H x (houseD h) ∧ HsOk h kd ∧ n ≤ 1000 ∧ FewP none (oneR (asks4 h)) n ∧
  ∀ q H' ps M, Same H H' → H q = none → H' q = some (.lst ps) → DpAll K H' ps ((M.map fun x => x.take kd).map wayD) → Canon M (LN (asks4 h) n) → Q (.ref q) H'
def spLastsP (K : PySem.W.Frag) : Sp := fun vs H Q _ => ∃ (x y : V) (h : Asks) (s : List Int) (kd n : Nat), vs = [x, y, .int n] ∧ Dp K H x (houseD h) ∧ Dp K H y (wayD s) ∧ HsOk h kd ∧ 1 ≤ s.length ∧ s.length ≤ 4 ∧ (∀ z ∈ s, 0 ≤ z) ∧ n ≤ 1000 ∧ FewP none (oneR (asks4 h)) n ∧
  ∀ b H', Same H H' → (b = true ↔ LN (asks4 h) n (four s)) → Q (.bl b) H'
/-! ### least, lasts by way of the chart -/
def sLeastThere : Stmt := topS 24
def sLastsThere : Stmt := topS 25
def spLeastThere (K : PySem.W.Frag) : Sp := fun vs H Q _ => ∃ (y : V) (P : Rooms) (kd n : Nat), vs = [y, .int (n : Int)] ∧ Dp K H y (planD kd P) ∧ PlOk P kd ∧ FewP none (R4 P) n ∧ n ≤ 1000 ∧
  ∀ (q : Addr) (H' : Hp) (as : List Addr) (L : List (List (List Int))), Same H H' → H q = none → H' q = some (.lst (as.map V.ref)) → as.length = L.length → as.Nodup → q ∉ as → RowOk P.length (PB none (R4 P) n) L →
    (∀ (i : Nat) (a : Addr) (l : List (List Int)), as[i]? = some a → L[i]? = some l → H a = none ∧ ∃ ps, H' a = some (.lst ps) ∧ DpAll K H' ps ((l.map fun x => x.take kd).map wayD)) → Q (.ref q) H'
def spLastsThere (K : PySem.W.Frag) : Sp := fun vs H Q _ => ∃ (y z : V) (P : Rooms) (s : List Int) (kd n r : Nat), vs = [y, z, .int (n : Int)] ∧ Dp K H y (planD kd P) ∧ PlOk P kd ∧ FewP none (R4 P) n ∧ n ≤ 1000 ∧ Dp K H z (standD r s) ∧ r < P.length ∧ 1 ≤ s.length ∧ s.length ≤ 4 ∧ (∀ z ∈ s, 0 ≤ z) ∧
  ∀ b H', Same H H' → (b = true ↔ PB none (R4 P) n r (four s)) → Q (.bl b) H'
/-- where the class and its methods stand -/
structure ChFns (P : Program) (w : World) (K : PySem.W.Frag) (mg : Str → Option Value) (base : Heap) (k : Nat) (C fi fl fs ft : Addr) (di dl ds dt : FuncData) : Prop where
  T : ChTxt K C
  M : Mk K C fi
  gC : mg "Chart" = some (.ref C)
  GI : FnOk P w K mg base CX0 (k + 2) fi di ["self", "plan"] (spChInit K C)
  bI : Binds K di ["self", "plan"] []
  GL : FnOk P w K mg base CX0 (k + 6) fl dl ["self", "n"] (spChLeast K C)
  mL : Meth K C "least" fl
  bL : Binds K dl ["self", "n"] []
  GS : FnOk P w K mg base CX0 (k + 7) fs ds ["self", "stand", "n"] (spChLasts K C)
  mS : Meth K C "lasts" fs
  bS : Binds K ds ["self", "stand", "n"] []
  GT : FnOk P w K mg base CX0 (k + 1) ft dt ["self", "lists"] (spChTold K C)
  mT : Meth K C "told" ft
  bT : Binds K dt ["self", "lists"] []
theorem same_ins {H : Hp} {x dx C : Addr} (nx : H x = none) (ndx : H dx = none) : Same H (upd (upd H dx (.own x)) x (.ins C dx [])) := fun b o e => by
  rw [upd_ne (ne_of_none e nx), upd_ne (ne_of_none e ndx)]
  exact e
theorem Kp.toSame {H H1 H2 : Hp} {p : Addr} (s : Same H H1) (n : H p = none) (k : Kp p H1 H2) : Same H H2 := fun b o e => k b o (s b o e) (ne_of_none e n)
section
variable {P : Program} {w : World} {K : PySem.W.Frag} {mg : Str → Option Value} {base : Heap}
theorem scLeastThere : FnScope ["plan", "n", "chart"] ["plan", "n"] (defScope sLeastThere) := ⟨rfl, rfl, rfl, by decide +kernel, rfl, by decide +kernel, by decide +kernel⟩
theorem ok_leastThere {f C fi fl fs ft : Addr} {fd di dl ds dt : FuncData} {k : Nat} (F : Fun K "least_there" "least_there" sLeastThere f fd) (c : ChFns P w K mg base k C fi fl fs ft di dl ds dt) : FnOk P w K mg base CX0 (k + 7) f fd ["plan", "n"] (spLeastThere K) := by
  refine F.ok scLeastThere (fun vs H Q E h => ?_) (fun cdv A outer s0 H vs Q E hr h => ?_)
  · obtain ⟨y, P, kd, n, rfl, _⟩ := h
    rfl
  · obtain ⟨y, P, kd, n, rfl, dy, o, fw, n1, q⟩ := h
    have h1 : Room (k + 1) _ := hr.mono (by omega)
    have h3 : Room (k + 3) _ := hr.mono (by omega)
    refine ⟨_, pss_cons (ps_set (i := 2) scLeastThere.nd rfl (.inl rfl) (pe_make c.M c.GI h3 rfl c.gC c.bI .nil pass0 (pa_cons (pv 0) pa_nil)))
      (pss_one (ps_ret (pe_meth (pv 2) c.T.cl c.mT c.GT h1 c.bT .nil pass0 (pa_cons (pe_meth (pv 2) c.T.cl c.mL c.GL hr c.bL .nil pass0 (pa_cons (pv 1) pa_nil)) pa_nil)))), ?_⟩
    refine ⟨_, rfl, fun x dx nx ndx nex => ?_⟩
    have s0 := same_ins (C := C) nx ndx
    refine ⟨x, dx, y, P, kd, rfl, upd_same, dp_same s0 dy, o, fun H1 rv ll bb us k1 nll nbb hbb cc => ⟨rfl, ?_⟩⟩
    have nll0 : H ll = none := s0.free nll
    have s1 : Same H H1 := k1.toSame s0 nx
    refine ⟨_, rfl, x, dx, _, rfl, cc.hp, cf_no _ _ _ _ (by decide +kernel) (by decide +kernel) (by decide +kernel) (by decide +kernel), ?_⟩
    refine ⟨_, rfl, x, dx, _, rfl, cc.hp, cf_no _ _ _ _ (by decide +kernel) (by decide +kernel) (by decide +kernel) (by decide +kernel), _, rfl, ?_⟩
    refine ⟨x, dx, rv, ll, bb, kd, R4 P, us, _, n, rfl, cc, o.rooms, fw, n1, by show 1 ≤ 2000; decide, fun v H2 us' Ls' M k2 c2 _ _ dM rM => ?_⟩
    have s2 : Same H H2 := k2.toSame s1 nll0
    have toL : Same (rmv H2 ll) H2 := rmv_same fun b o _ e => e
    have ln := fw.len rM
    have e : (R4 P).length = P.length := List.length_map ..
    refine ⟨x, dx, rv, ll, bb, kd, v, M, rfl, c2.hp, dp_same toL dM, o.k4, o.k1, by have := rM.len; have := o.few; omega, fun l hl => ⟨by have := (ln l hl).1; omega, (ln l hl).2⟩, fun qn H3 as s3 nq hq las nd nqa all => ?_⟩
    exact q qn H3 as M (s2.trans s3) (s2.free nq) hq las nd nqa (by rw [e] at rM; exact rM) fun i a l hi hl => ⟨s2.free (all i a l hi hl).1, (all i a l hi hl).2⟩
theorem scLastsThere : FnScope ["plan", "stand", "n"] ["plan", "stand", "n"] (defScope sLastsThere) := ⟨rfl, rfl, rfl, by decide +kernel, rfl, by decide +kernel, by decide +kernel⟩
theorem ok_lastsThere {f C fi fl fs ft : Addr} {fd di dl ds dt : FuncData} {k : Nat} (F : Fun K "lasts_there" "lasts_there" sLastsThere f fd) (c : ChFns P w K mg base k C fi fl fs ft di dl ds dt) : FnOk P w K mg base CX0 (k + 8) f fd ["plan", "stand", "n"] (spLastsThere K) := by
  refine F.ok scLastsThere (fun vs H Q E h => ?_) (fun cdv A outer s0 H vs Q E hr h => ?_)
  · obtain ⟨y, z, P, s, kd, n, r, rfl, _⟩ := h
    rfl
  · obtain ⟨y, z, P, s, kd, n, r, rfl, dy, o, fw, n1, dz, rP, t1, t4, t0, q⟩ := h
    have h3 : Room (k + 3) _ := hr.mono (by omega)
    refine ⟨_, pss_one (ps_ret (pe_meth (pe_make c.M c.GI h3 rfl c.gC c.bI .nil pass0 (pa_cons (pv 0) pa_nil)) c.T.cl c.mS c.GS hr c.bS .nil pass0 (pa_cons (pv 1) (pa_cons (pv 2) pa_nil)))), ?_⟩
    refine ⟨_, rfl, fun x dx nx ndx nex => ?_⟩
    have s0 := same_ins (C := C) nx ndx
    refine ⟨x, dx, y, P, kd, rfl, upd_same, dp_same s0 dy, o, fun H1 rv ll bb us k1 nll nbb hbb cc => ⟨rfl, ?_⟩⟩
    have nll0 : H ll = none := s0.free nll
    have s1 : Same H H1 := k1.toSame s0 nx
    have e : (R4 P).length = P.length := List.length_map ..
    refine ⟨x, dx, _, rfl, cc.hp, cf_no _ _ _ _ (by decide +kernel) (by decide +kernel) (by decide +kernel) (by decide +kernel), _, rfl, _, rfl, ?_⟩
    exact ⟨x, dx, rv, ll, bb, kd, R4 P, us, _, n, r, z, s, rfl, cc, o.rooms, fw, n1, by show 1 ≤ 2000; decide, dp_same s1 dz, by omega, t1, t4, t0, fun b H2 us' Ls' k2 _ _ _ iff => q b H2 (k2.toSame s1 nll0) iff⟩
theorem scLeast : FnScope ["house", "n"] ["house", "n"] (defScope sLeast) := ⟨rfl, rfl, rfl, by decide +kernel, rfl, by decide +kernel, by decide +kernel⟩
theorem ok_leastP {f fP fT : Addr} {fd fdP fdT : FuncData} {k : Nat} (F : Fun K "least" "least" sLeast f fd)
    (GP : FnOk P w K mg base CX0 (k + 2) fP fdP ["house"] (spPlanOf K)) (kP : PySem.W.keepIn K (.ref fP) = true) (bP : Binds K fdP ["house"] []) (gP : mg "plan_of" = some (.ref fP))
    (GT : FnOk P w K mg base CX0 (k + 7) fT fdT ["plan", "n"] (spLeastThere K)) (kT : PySem.W.keepIn K (.ref fT) = true) (bT : Binds K fdT ["plan", "n"] []) (gT : mg "least_there" = some (.ref fT)) : FnOk P w K mg base CX0 (k + 8) f fd ["house", "n"] (spLeastP K) := by
  refine F.ok scLeast (fun vs H Q E h => ?_) (fun cdv A outer s0 H vs Q E hr h => ?_)
  · obtain ⟨x, h, kd, n, rfl, _⟩ := h
    rfl
  · obtain ⟨x, h, kd, n, rfl, hx, o, n1, fw, q⟩ := h
    have h2 : Room (k + 2) _ := hr.mono (by omega)
    refine ⟨_, pss_one (ps_ret (pe_ix ix_list (pe_call GT hr (by rfl) gT kT bT .nil pass0 (pa_cons (pe_call GP h2 (by rfl) gP kP bP .nil pass0 (pa_cons (pv 0) pa_nil)) (pa_cons (pv 1) pa_nil))) pe_int (fun _ _ => rfl))), ?_⟩
    refine ⟨_, rfl, x, h, kd, rfl, hx, o, fun pv H1 s1 dp => ?_⟩
    refine ⟨_, rfl, pv, planOf h, kd, n, rfl, dp, o.plan, by rw [r4_one]; exact fw, n1, fun qn H2 as L s2 nq hq las nd nqa rL all => ?_⟩
    obtain ⟨l, hl, can⟩ := rL.at (show 0 < 1 by decide)
    obtain ⟨a, ha⟩ : ∃ a, as[0]? = some a := ⟨_, List.getElem?_eq_getElem (by rw [las]; exact (List.getElem?_eq_some_iff.mp hl).1)⟩
    obtain ⟨na, ps, hps, dps⟩ := all 0 a l ha hl
    refine ⟨qn, _, 0, .ref a, rfl, rfl, SqL.of hq, atI_nat (j := 0) (by rw [List.getElem?_map, ha]; rfl), ?_⟩
    refine q a H2 ps l (s1.trans s2) (s1.free na) hps dps (can.congr fun x hx => ?_)
    rw [r4_one]
    exact pb_one hx
theorem scLasts : FnScope ["house", "store", "n"] ["house", "store", "n"] (defScope sLasts) := ⟨rfl, rfl, rfl, by decide +kernel, rfl, by decide +kernel, by decide +kernel⟩
theorem ok_lastsP {f fP fT : Addr} {fd fdP fdT : FuncData} {k : Nat} (F : Fun K "lasts" "lasts" sLasts f fd)
    (GP : FnOk P w K mg base CX0 (k + 2) fP fdP ["house"] (spPlanOf K)) (kP : PySem.W.keepIn K (.ref fP) = true) (bP : Binds K fdP ["house"] []) (gP : mg "plan_of" = some (.ref fP))
    (GT : FnOk P w K mg base CX0 (k + 8) fT fdT ["plan", "stand", "n"] (spLastsThere K)) (kT : PySem.W.keepIn K (.ref fT) = true) (bT : Binds K fdT ["plan", "stand", "n"] []) (gT : mg "lasts_there" = some (.ref fT)) : FnOk P w K mg base CX0 (k + 9) f fd ["house", "store", "n"] (spLastsP K) := by
  refine F.ok scLasts (fun vs H Q E h => ?_) (fun cdv A outer s0 H vs Q E hr h => ?_)
  · obtain ⟨x, y, h, s, kd, n, rfl, _⟩ := h
    rfl
  · obtain ⟨x, y, h, s, kd, n, rfl, hx, hy, o, t1, t4, t0, n1, fw, q⟩ := h
    have h2 : Room (k + 2) _ := hr.mono (by omega)
    refine ⟨_, pss_one (ps_ret (pe_call GT hr (by rfl) gT kT bT .nil pass0 (pa_cons (pe_call GP h2 (by rfl) gP kP bP .nil pass0 (pa_cons (pv 0) pa_nil)) (pa_cons (pe_tup (pa_cons pe_int (pa_cons (pv 1) pa_nil))) (pa_cons (pv 2) pa_nil))))), ?_⟩
    refine ⟨_, rfl, x, h, kd, rfl, hx, o, fun pv H1 s1 dp => ?_⟩
    refine ⟨_, rfl, by show 2 ≤ sizeLine; decide, fun U nU => ?_⟩
    have sU := same_upd (o := .tup [V.int 0, y]) nU
    have dU := dp_tup nU (.cons (.int (((0 : Nat) : Int))) (.cons (dp_same s1 hy) .nil))
    refine ⟨_, rfl, pv, .ref U, planOf h, s, kd, n, 0, rfl, dp_same sU dp, o.plan, by rw [r4_one]; exact fw, n1, dU, by show 0 < 1; decide, t1, t4, t0, fun b H2 s2 iff => ?_⟩
    refine q b H2 ((s1.trans sU).trans s2) (iff.trans ?_)
    rw [r4_one]
    exact pb_one (four_ok t1 t4 t0)
theorem ok_least {f fP fT : Addr} {fd fdP fdT : FuncData} {k : Nat} (F : Fun K "least" "least" sLeast f fd)
    (GP : FnOk P w K mg base CX0 (k + 2) fP fdP ["house"] (spPlanOf K)) (kP : PySem.W.keepIn K (.ref fP) = true) (bP : Binds K fdP ["house"] []) (gP : mg "plan_of" = some (.ref fP))
    (GT : FnOk P w K mg base CX0 (k + 7) fT fdT ["plan", "n"] (spLeastThere K)) (kT : PySem.W.keepIn K (.ref fT) = true) (bT : Binds K fdT ["plan", "n"] []) (gT : mg "least_there" = some (.ref fT)) : FnOk P w K mg base CX0 (k + 8) f fd ["house", "n"] (spLeast K) :=
  (ok_leastP F GP kP bP gP GT kT bT gT).imp fun _ _ _ _ ⟨x, h, kd, n, _, e, hx, o, n1, fw, q⟩ => ⟨x, h, kd, n, e, hx, o, n1, fw.plan, q⟩
theorem ok_lasts {f fP fT : Addr} {fd fdP fdT : FuncData} {k : Nat} (F : Fun K "lasts" "lasts" sLasts f fd)
    (GP : FnOk P w K mg base CX0 (k + 2) fP fdP ["house"] (spPlanOf K)) (kP : PySem.W.keepIn K (.ref fP) = true) (bP : Binds K fdP ["house"] []) (gP : mg "plan_of" = some (.ref fP))
    (GT : FnOk P w K mg base CX0 (k + 8) fT fdT ["plan", "stand", "n"] (spLastsThere K)) (kT : PySem.W.keepIn K (.ref fT) = true) (bT : Binds K fdT ["plan", "stand", "n"] []) (gT : mg "lasts_there" = some (.ref fT)) : FnOk P w K mg base CX0 (k + 9) f fd ["house", "store", "n"] (spLasts K) :=
  (ok_lastsP F GP kP bP gP GT kT bT gT).imp fun _ _ _ _ ⟨x, y, h, s, kd, n, _, e, hx, hy, o, t1, t4, t0, n1, fw, q⟩ => ⟨x, y, h, s, kd, n, e, hx, hy, o, t1, t4, t0, n1, fw.plan, q⟩
end
/-! ### few enough in a box of three kinds, by what is joined (plain Lean) -/
/-- a join of s, below which none lies, that differs from s in one number alone -/
def Pm (N : List (List Int)) (s m : List Int) (i : Nat) : Prop := m ∈ N.map (join4 s) ∧ (∀ y ∈ N.map (join4 s), le4 y m = true → y = m) ∧ ∃ v, m = s.set i v
open Classical in
noncomputable def pickM (N : List (List Int)) (s : List Int) (i : Nat) : List Int := if h : ∃ m, Pm N s m i then choose h else s
theorem pick_is {N : List (List Int)} {s m : List Int} {i : Nat} (hs : s.length = 4) (i4 : i < 4) (h : Pm N s m i) : pickM N s i = m := by
  have hx : ∃ m, Pm N s m i := ⟨m, h⟩
  unfold pickM
  rw [dif_pos hx]
  obtain ⟨h1, h2, v, e⟩ := h
  obtain ⟨g1, g2, u, eu⟩ := Classical.choose_spec hx
  generalize Classical.choose hx = m' at g1 g2 eu
  obtain ⟨a, b, c, d, rfl⟩ := len4 hs
  have le : ∀ x y : Int, x ≤ y → le4 ([a, b, c, d].set i x) ([a, b, c, d].set i y) = true := fun x y l => by
    match i, i4 with
    | 0, _ => exact show le4 [x, b, c, d] [y, b, c, d] = true from le4_iff.mpr ⟨l, Int.le_refl _, Int.le_refl _, Int.le_refl _⟩
    | 1, _ => exact show le4 [a, x, c, d] [a, y, c, d] = true from le4_iff.mpr ⟨Int.le_refl _, l, Int.le_refl _, Int.le_refl _⟩
    | 2, _ => exact show le4 [a, b, x, d] [a, b, y, d] = true from le4_iff.mpr ⟨Int.le_refl _, Int.le_refl _, l, Int.le_refl _⟩
    | 3, _ => exact show le4 [a, b, c, x] [a, b, c, y] = true from le4_iff.mpr ⟨Int.le_refl _, Int.le_refl _, Int.le_refl _, l⟩
  by_cases z : u ≤ v
  · exact h2 m' g1 (by rw [eu, e]; exact le u v z)
  · exact (g2 m h1 (by rw [eu, e]; exact le v u (by omega))).symm
/-- what stands within t, nothing of the fourth kind -/
def In3 (t : Int) (x : List Int) : Prop := ∃ a b c : Int, x = [a, b, c, 0] ∧ (0 ≤ a ∧ a ≤ t) ∧ (0 ≤ b ∧ b ≤ t) ∧ (0 ≤ c ∧ c ≤ t)
theorem jb3 {A N : List (List Int)} {t : Int} (hA : ∀ s ∈ A, In3 t s) (hN : ∀ s ∈ N, In3 t s) (few : A.length * 4 + (3 * (t.toNat + 1) + 1) * N.length < 4096) : JB A N := by
  refine ⟨A ++ (A.flatMap fun s => [pickM N s 0, pickM N s 1, pickM N s 2]) ++ (N.flatMap fun n => (List.range (t.toNat + 1)).flatMap fun v : Nat => [n.set 0 (v : Int), n.set 1 (v : Int), n.set 2 (v : Int)]) ++ N, ?_, fun s hs => List.mem_append_left _ (List.mem_append_left _ (List.mem_append_left _ hs)), fun s hs m hm min => ?_⟩
  · have l1 : (A.flatMap fun s => [pickM N s 0, pickM N s 1, pickM N s 2]).length = A.length * 3 := boxflat_len (f := fun s => [pickM N s 0, pickM N s 1, pickM N s 2]) (q := 3) (fun _ => rfl) A
    have l2 : (N.flatMap fun n => (List.range (t.toNat + 1)).flatMap fun v : Nat => [n.set 0 (v : Int), n.set 1 (v : Int), n.set 2 (v : Int)]).length = N.length * ((t.toNat + 1) * 3) := boxflat_len (fun n => by rw [boxflat_len (q := 3) (fun _ => rfl), List.length_range]) N
    rw [List.length_append, List.length_append, List.length_append, l1, l2]
    have e : (3 * (t.toNat + 1) + 1) * N.length = N.length * ((t.toNat + 1) * 3) + N.length := by
      rw [Nat.add_mul, Nat.one_mul, Nat.mul_comm (3 * (t.toNat + 1)), Nat.mul_comm 3]
    omega
  · obtain ⟨n, hn, rfl⟩ := List.mem_map.mp hm
    obtain ⟨a, b, c, rfl, ha, hb, hc⟩ := hA s hs
    obtain ⟨e, f, g, rfl, he, hf, hg⟩ := hN n hn
    have ej : join4 [a, b, c, 0] [e, f, g, 0] = [max a e, max b f, max c g, 0] := rfl
    have one : ∀ i v, i < 3 → join4 [a, b, c, 0] [e, f, g, 0] = [a, b, c, 0].set i v → join4 [a, b, c, 0] [e, f, g, 0] ∈ A ++ (A.flatMap fun s => [pickM N s 0, pickM N s 1, pickM N s 2]) ++ (N.flatMap fun n => (List.range (t.toNat + 1)).flatMap fun v : Nat => [n.set 0 (v : Int), n.set 1 (v : Int), n.set 2 (v : Int)]) ++ N := fun i v i3 ev => by
      refine List.mem_append_left _ (List.mem_append_left _ (List.mem_append_right _ (List.mem_flatMap.mpr ⟨_, hs, ?_⟩)))
      have p := pick_is (i := i) (show ([a, b, c, 0] : List Int).length = 4 from rfl) (by omega) ⟨hm, min, v, ev⟩
      rw [← p]
      have : i = 0 ∨ i = 1 ∨ i = 2 := by omega
      rcases this with rfl | rfl | rfl <;> simp
    have two : ∀ i v, i < 3 → 0 ≤ v → v ≤ t → join4 [a, b, c, 0] [e, f, g, 0] = [e, f, g, 0].set i v → join4 [a, b, c, 0] [e, f, g, 0] ∈ A ++ (A.flatMap fun s => [pickM N s 0, pickM N s 1, pickM N s 2]) ++ (N.flatMap fun n => (List.range (t.toNat + 1)).flatMap fun v : Nat => [n.set 0 (v : Int), n.set 1 (v : Int), n.set 2 (v : Int)]) ++ N := fun i v i3 v0 vt ev => by
      refine List.mem_append_left _ (List.mem_append_right _ (List.mem_flatMap.mpr ⟨_, hn, List.mem_flatMap.mpr ⟨v.toNat, List.mem_range.mpr (by omega), ?_⟩⟩))
      rw [ev, Int.toNat_of_nonneg v0]
      have : i = 0 ∨ i = 1 ∨ i = 2 := by omega
      rcases this with rfl | rfl | rfl <;> simp
    by_cases z1 : e ≤ a
    · by_cases z2 : f ≤ b
      · by_cases z3 : g ≤ c
        · refine List.mem_append_left _ (List.mem_append_left _ (List.mem_append_left _ ?_))
          rw [ej, show max a e = a by omega, show max b f = b by omega, show max c g = c by omega]
          exact hs
        · exact one 2 g (by decide) (by rw [ej, show max a e = a by omega, show max b f = b by omega, show max c g = g by omega]; rfl)
      · by_cases z3 : g ≤ c
        · exact one 1 f (by decide) (by rw [ej, show max a e = a by omega, show max b f = f by omega, show max c g = c by omega]; rfl)
        · exact two 0 a (by decide) ha.1 ha.2 (by rw [ej, show max a e = a by omega, show max b f = f by omega, show max c g = g by omega]; rfl)
    · by_cases z2 : f ≤ b
      · by_cases z3 : g ≤ c
        · exact one 0 e (by decide) (by rw [ej, show max a e = e by omega, show max b f = b by omega, show max c g = c by omega]; rfl)
        · exact two 1 b (by decide) hb.1 hb.2 (by rw [ej, show max a e = e by omega, show max b f = b by omega, show max c g = g by omega]; rfl)
      · by_cases z3 : g ≤ c
        · exact two 2 c (by decide) hc.1 hc.2 (by rw [ej, show max a e = e by omega, show max b f = f by omega, show max c g = c by omega]; rfl)
        · refine List.mem_append_right _ ?_
          rw [ej, show max a e = e by omega, show max b f = f by omega, show max c g = g by omega]
          exact hn
theorem canon_nodup {M : List (List Int)} {U : List Int → Prop} (c : Canon M U) : M.Nodup := c.srt.imp fun {x y} l e => by
  rw [e, lex_irr] at l
  cases l
/-- the least from which an ask is met: no more than by all ways from all least ones -/
theorem nd_len {asks : Asks} {j : Nat} {B M : List (List Int)} (cB : Canon B (LN asks j)) {a : List (List Int)} (hw : ∀ w ∈ a, w.length = 4) (cM : Canon M (Nd asks j a)) : M.length ≤ a.length * B.length := by
  have ok : ∀ s ∈ a.flatMap fun w => B.map (need4 w), Ok4 s := fun s hs => by
    obtain ⟨w, hw', h⟩ := List.mem_flatMap.mp hs
    obtain ⟨b, hb, rfl⟩ := List.mem_map.mp h
    exact need4_ok (hw w hw') (cB.ok b hb)
  have c2 : Canon M (UpS (a.flatMap fun w => B.map (need4 w))) := cM.congr fun x hx => (needs_up cB hw hx).symm
  have := sub_len (canon_nodup cM) fun x hx => (canon_min c2 ok x hx).1
  rw [boxflat_len (q := B.length) fun w => List.length_map _] at this
  exact this
/-- a house of up to three kinds, few least ones at each level -/
theorem few3 {asks : Asks} {s t : Int} (W : Ways4 asks s s s 0) {n wy c : Nat} (h : s * n ≤ t) (h4 : ∀ a ∈ asks, ∀ w ∈ a, w.length = 4) (hw : ∀ a ∈ asks, a.length ≤ wy) (lv : ∀ j, j < n → ∃ B, Canon B (LN asks j) ∧ B.length ≤ c)
    (b1 : (t.toNat + 1) * (t.toNat + 1) * 5 < 4096) (b2 : (t.toNat + 1) * (t.toNat + 1) * (wy * c + 1) ≤ 100000) (b3 : (t.toNat + 1) * (t.toNat + 1) * 4 + (3 * (t.toNat + 1) + 1) * (wy * c) < 4096) : FewP none (oneR asks) n := fun j hj => by
  have s0 := W.p1
  have z1 : 0 ≤ s * (n : Int) := Int.mul_nonneg s0 (by omega)
  have u1 : s * ((j + 1 : Nat) : Int) ≤ s * n := Int.mul_le_mul_of_nonneg_left (by omega) s0
  have u0 : s * (j : Int) ≤ s * n := Int.mul_le_mul_of_nonneg_left (by omega) s0
  have ndc : ∀ a ∈ asks, ∀ x, Ok4 x → Nd asks j a x → Nd asks j a (clip4 [t, t, t, 0] x) := fun a ha x hx h => nd_clip W (ln_clip W j) ha hx (by omega) (by omega) (by omega) (by omega) h
  have lnc : ∀ x, Ok4 x → LN asks j x → LN asks j (clip4 [t, t, t, 0] x) := fun x hx h => ln_clip W j hx (by omega) (by omega) (by omega) (by omega) h
  have cl : ∀ bs : Asks, (∀ b ∈ bs, b ∈ asks) → ∀ x, Ok4 x → (LN asks j x ∧ ∀ a ∈ bs, Nd asks j a x) → (LN asks j (clip4 [t, t, t, 0] x) ∧ ∀ a ∈ bs, Nd asks j a (clip4 [t, t, t, 0] x)) := fun bs hbs x hx h => ⟨lnc x hx h.1, fun a ha => ndc a (hbs a ha) x hx (h.2 a ha)⟩
  have in3 : ∀ {M : List (List Int)} {U : List Int → Prop}, Canon M U → (∀ x, Ok4 x → U x → U (clip4 [t, t, t, 0] x)) → ∀ x ∈ M, In3 t x := fun c hc x hx => by
    obtain ⟨a, b, cc, d, rfl, p1, p2, p3, p4⟩ := canon_box c (by omega) (by omega) (by omega) (Int.le_refl 0) hc x hx
    exact ⟨a, b, cc, by rw [show d = 0 by omega], p1, p2, p3⟩
  obtain ⟨B, cB, lB⟩ := lv j hj
  have one : ∀ a ∈ asks, ∀ M, Canon M (Nd asks j a) → M.length ≤ wy * c := fun a ha M cM => Nat.le_trans (nd_len cB (h4 a ha) cM) (Nat.mul_le_mul (hw a ha) lB)
  have back : ∀ {as : List PAsk}, (∀ a ∈ as, a ∈ roomAt (oneR asks) 0) → ∀ {M : List (List Int)}, Canon M (fun x => PB none (oneR asks) j 0 x ∧ ∀ a ∈ as, NdB none (PB none (oneR asks) j) a x) → ∃ bs : Asks, (∀ b ∈ bs, b ∈ asks) ∧ Canon M (fun x => LN asks j x ∧ ∀ a ∈ bs, Nd asks j a x) := fun {as} sub {M} cM => by
    rw [roomAt_one] at sub
    obtain ⟨bs, hbs, rfl⟩ := sub_map sub
    refine ⟨bs, hbs, cM.congr fun x hx => ?_⟩
    rw [pb_one hx]
    refine and_congr Iff.rfl ⟨fun h b hb => (nd_ln hx).mp (h _ (List.mem_map.mpr ⟨b, hb, rfl⟩)), fun h a ha => ?_⟩
    obtain ⟨b, hb, rfl⟩ := List.mem_map.mp ha
    exact (nd_ln hx).mpr (h b hb)
  have backN : ∀ {a : PAsk}, a ∈ roomAt (oneR asks) 0 → ∀ {M : List (List Int)}, Canon M (NdB none (PB none (oneR asks) j) a) → ∃ b ∈ asks, Canon M (Nd asks j b) := fun {a} ha {M} cM => by
    rw [roomAt_one] at ha
    obtain ⟨b, hb, rfl⟩ := List.mem_map.mp ha
    exact ⟨b, hb, cM.congr fun x hx => nd_ln hx⟩
  refine ⟨(t.toNat + 1) * (t.toNat + 1), b1, fun r hr as sub M cM => ?_, wy * c, b2, ?_, fun r hr a ha M cM => ?_, fun r hr as sub a ha M N cM cN => ?_⟩
  · obtain rfl : r = 0 := by have : r < 1 := hr; omega
    obtain ⟨bs, hbs, cM⟩ := back sub cM
    exact canon_len cM (by omega) (by omega) (by omega) (cl bs hbs)
  · have : 1 * (wy * c + 1) ≤ (t.toNat + 1) * (t.toNat + 1) * (wy * c + 1) := Nat.mul_le_mul_right _ (Nat.mul_pos (Nat.succ_pos _) (Nat.succ_pos _))
    have : 1 * (wy * c) ≤ (3 * (t.toNat + 1) + 1) * (wy * c) := Nat.mul_le_mul_right _ (by omega)
    omega
  · obtain rfl : r = 0 := by have : r < 1 := hr; omega
    obtain ⟨b, hb, cM⟩ := backN ha cM
    exact one b hb M cM
  · obtain rfl : r = 0 := by have : r < 1 := hr; omega
    obtain ⟨bs, hbs, cM⟩ := back sub cM
    obtain ⟨b, hb, cN⟩ := backN ha cN
    have l1 := canon_len cM (by omega) (by omega) (by omega) (cl bs hbs)
    have l2 := one b hb N cN
    refine jb3 (t := t) (in3 cM (cl bs hbs)) (in3 cN (ndc b hb)) ?_
    have : (3 * (t.toNat + 1) + 1) * N.length ≤ (3 * (t.toNat + 1) + 1) * (wy * c) := Nat.mul_le_mul_left _ l2
    omega
/-! ### sorted of a list of tuples, by what they are -/
def rSortD (K : PySem.W.Frag) (d : Nat) (B : Int) : List V → Hp → VK → Prop := fun vs H Q => ∃ (a : Addr) (xs : List V) (S : List (List Int)), vs = [V.ref a] ∧ SqL K H a xs ∧ DpAll K H xs (S.map wayD) ∧ S.length < 64 ∧ (∀ x ∈ S, x.length = d ∧ TS.Bd B x) ∧
  ∀ (ys : List V) (T : List (List Int)) (p : Addr), T.Perm S → (T.Pairwise fun x y => TS.code B x ≤ TS.code B y) → H p = none → DpAll K (upd H p (.lst ys)) ys (T.map wayD) → Q (.ref p) (upd H p (.lst ys))
theorem cr_sortD {X : Cx} {d : Nat} {B : Int} (hd : 1 ≤ d) : CallR X (.builtin "sorted") (rSortD X.K d B) := by
  intro pins s σ H vs us Q I r h
  obtain ⟨a, xs, S, rfl, hs, hall, h64, hx, q⟩ := h
  obtain ⟨ks, rfl, rfl, hks⟩ := sts_refs hall
  refine cr_sortT (d := d) (B := B) hd pins s σ H _ us Q I r ?_
  refine ⟨a, ks.map fun p => V.ref p.1, rfl, hs, by rw [List.length_map] at h64 ⊢; exact h64, fun x m => ?_, fun ys p pm pw np => ?_⟩
  · obtain ⟨k, hk, rfl⟩ := List.mem_map.mp m
    obtain ⟨e1, e2⟩ := hx k.2 (List.mem_map.mpr ⟨k, hk, rfl⟩)
    exact ⟨k.2, ⟨k.1, rfl, hks k hk⟩, e1, e2⟩
  · obtain ⟨ks', pk, rfl⟩ := perm_lift (fun t : Addr × List Int => V.ref t.1) pm
    have ok : ∀ k ∈ ks', SqT X.K H k.1 (k.2.map V.int) := fun k hk => hks k (pk.mem_iff.mp hk)
    refine q _ (ks'.map (·.2)) p (pk.map _) ?_ np (refs_sts fun k hk => (same_upd np).seqT (ok k hk))
    rw [List.pairwise_map] at pw ⊢
    exact List.Pairwise.imp_of_mem (fun {x y} hx hy z => z x.2 y.2 ⟨x.1, rfl, ok x hx⟩ ⟨y.1, rfl, ok y hy⟩) pw
theorem eqv_ints_self : ∀ l : List Int, PyData.eqvAll (l.map PyData.int) (l.map PyData.int) = true
  | [] => rfl
  | a :: l => by
    simp only [List.map_cons, PyData.eqvAll, PyData.eqv, Bool.and_eq_true, beq_iff_eq]
    exact ⟨trivial, eqv_ints_self l⟩
theorem eqv_way_self (l : List Int) : PyData.eqv (wayD l) (wayD l) = true := by
  unfold wayD
  simp only [PyData.eqv]
  exact eqv_ints_self l
theorem eqv_stsA_self : ∀ S : List (List Int), PyData.eqvAll (S.map wayD) (S.map wayD) = true
  | [] => rfl
  | a :: l => by
    simp only [List.map_cons, PyData.eqvAll, Bool.and_eq_true]
    exact ⟨eqv_way_self a, eqv_stsA_self l⟩
theorem eqv_sts_self (S : List (List Int)) : PyData.eqv (stsD S) (stsD S) = true := by
  simp only [PyData.eqv]
  exact eqv_stsA_self S
theorem eqv_sts_iff {S T : List (List Int)} : PyData.eqv (stsD S) (stsD T) = decide (S = T) := by
  by_cases e : S = T
  · subst e
    rw [eqv_sts_self]
    exact (decide_eq_true rfl).symm
  · rw [decide_eq_false e]
    cases c : PyData.eqv (stsD S) (stsD T) with
    | false => rfl
    | true => exact absurd (eqv_sts c) e
theorem eqv_way_iff {l m : List Int} : PyData.eqv (wayD l) (wayD m) = decide (l = m) := by
  by_cases e : l = m
  · subst e
    rw [eqv_way_self]
    exact (decide_eq_true rfl).symm
  · rw [decide_eq_false e]
    cases c : PyData.eqv (wayD l) (wayD m) with
    | false => rfl
    | true =>
      unfold wayD at c
      simp only [PyData.eqv] at c
      exact absurd (eqv_ints l m c) e
theorem way_shaped (l : List Int) : SeqAt.shaped (wayD l) = true := by
  obtain ⟨w1, w2⟩ := ways_flat l
  unfold SeqAt.shaped wayD
  rw [Bool.and_eq_true, decide_eq_true_iff]
  refine ⟨by simp only [PyData.canLay0]; exact w2, ?_⟩
  simp only [PyData.depth]
  omega
/-! ### least ones have noughts for the kinds that aren't there -/
def prj (kd : Nat) (x : List Int) : List Int := four (x.take kd)
theorem prj_add {kd : Nat} {x l : List Int} (hx : x.length = 4) (hl : l.length = kd) (k1 : 1 ≤ kd) (k4 : kd ≤ 4) : add4 (prj kd x) (four l) = prj kd (add4 x (four l)) := by
  obtain ⟨a, b, c, d, rfl⟩ := len4 hx
  subst hl
  match l, k1, k4 with
  | [e], _, _ => rfl
  | [e, f], _, _ => rfl
  | [e, f, g], _, _ => rfl
  | [e, f, g, h], _, _ => rfl
theorem kd_cases {kd : Nat} (k1 : 1 ≤ kd) (k4 : kd ≤ 4) : kd = 1 ∨ kd = 2 ∨ kd = 3 ∨ kd = 4 := by omega
theorem prj_ok {kd : Nat} {x : List Int} (hx : Ok4 x) (k1 : 1 ≤ kd) (k4 : kd ≤ 4) : Ok4 (prj kd x) ∧ le4 (prj kd x) x = true := by
  obtain ⟨a, b, c, d, rfl, h1, h2, h3, h4⟩ := hx
  rcases kd_cases k1 k4 with rfl | rfl | rfl | rfl
  · exact ⟨⟨a, 0, 0, 0, rfl, by omega, by omega, by omega, by omega⟩, show le4 [a, 0, 0, 0] [a, b, c, d] = true from le4_iff.mpr (by omega)⟩
  · exact ⟨⟨a, b, 0, 0, rfl, by omega, by omega, by omega, by omega⟩, show le4 [a, b, 0, 0] [a, b, c, d] = true from le4_iff.mpr (by omega)⟩
  · exact ⟨⟨a, b, c, 0, rfl, by omega, by omega, by omega, by omega⟩, show le4 [a, b, c, 0] [a, b, c, d] = true from le4_iff.mpr (by omega)⟩
  · exact ⟨⟨a, b, c, d, rfl, by omega, by omega, by omega, by omega⟩, show le4 [a, b, c, d] [a, b, c, d] = true from le4_iff.mpr (by omega)⟩
theorem ln_prj {h : Asks} {kd : Nat} (o : HsOk h kd) : ∀ (n : Nat) {x : List Int}, Ok4 x → LN (asks4 h) n x → LN (asks4 h) n (prj kd x)
  | 0, _, _, _ => True.intro
  | n + 1, x, hx, z => fun a ha => by
    obtain ⟨w, hw, ok, l⟩ := z a ha
    obtain ⟨a0, ha0, rfl⟩ := List.mem_map.mp ha
    obtain ⟨l0, hl0, rfl⟩ := List.mem_map.mp hw
    refine ⟨_, hw, ?_⟩
    rw [prj_add (ok4_len hx) (o.len a0 ha0 l0 hl0) o.k1 o.k4]
    exact ⟨(prj_ok ok o.k1 o.k4).1, ln_prj o n ok l⟩
theorem canon_prj {M : List (List Int)} {U : List Int → Prop} {kd : Nat} (c : Canon M U) (k1 : 1 ≤ kd) (k4 : kd ≤ 4) (h : ∀ x, Ok4 x → U x → U (prj kd x)) : ∀ x ∈ M, prj kd x = x := fun x hx => by
  have ox := c.ok x hx
  obtain ⟨ok, l⟩ := prj_ok ox k1 k4
  obtain ⟨y, hy, l2⟩ := (c.up _ ok).mpr (h x ox ((c.up x ox).mp ⟨x, hx, le4_refl ox⟩))
  have e := c.anti y hy x hx (le4_trans l2 l)
  subst e
  exact le4_anti l l2
theorem lex_app (r : List Int) : ∀ {a b : List Int}, a.length = b.length → HT.lexLt (a ++ r) (b ++ r) = HT.lexLt a b
  | [], [], _ => by
    rw [List.nil_append, lex_irr]
    rfl
  | [], _ :: _, h => by simp at h
  | _ :: _, [], h => by simp at h
  | x :: a, y :: b, h => by
    rw [List.cons_append, List.cons_append, HT.lexLt_cons, HT.lexLt_cons, lex_app r (by simpa using h)]
theorem lex_four {a b : List Int} (h : a.length = b.length) : HT.lexLt (four a) (four b) = HT.lexLt a b := by
  unfold four
  rw [h]
  exact lex_app _ h
/-- least ones as they are told -/
structure Lows (kd : Nat) (M : List (List Int)) : Prop where
  len : ∀ x ∈ M, (x.take kd).length = kd
  pos : ∀ x ∈ M, ∀ z ∈ x.take kd, 0 ≤ z
  back : ∀ x ∈ M, four (x.take kd) = x
  srt : (M.map fun x => x.take kd).Pairwise fun x y => HT.lexLt x y = true
theorem lows_of {M : List (List Int)} {U : List Int → Prop} {kd : Nat} (c : Canon M U) (k1 : 1 ≤ kd) (k4 : kd ≤ 4) (h : ∀ x, Ok4 x → U x → U (prj kd x)) : Lows kd M := by
  have len : ∀ x ∈ M, (x.take kd).length = kd := fun x hx => by
    rw [List.length_take, ok4_len (c.ok x hx)]
    omega
  have back := canon_prj c k1 k4 h
  refine ⟨len, fun x hx z hz => ?_, back, ?_⟩
  · obtain ⟨p, q, r, s, rfl, h1, h2, h3, h4⟩ := c.ok x hx
    have := List.mem_of_mem_take hz
    simp only [List.mem_cons, List.not_mem_nil, or_false] at this
    omega
  · rw [List.pairwise_map]
    refine List.Pairwise.imp_of_mem (fun {x y} hx hy l => ?_) c.srt
    rw [← lex_four (by rw [len x hx, len y hy])]
    have e1 : four (x.take kd) = x := back x hx
    have e2 : four (y.take kd) = y := back y hy
    rw [e1, e2]
    exact l
/-- sorted again they are the same -/
theorem sorted_same {S T : List (List Int)} {B : Int} {d : Nat} (hd : ∀ x ∈ S, x.length = d ∧ TS.Bd B x) (srt : S.Pairwise fun x y => HT.lexLt x y = true) (p : T.Perm S) (c : T.Pairwise fun x y => TS.code B x ≤ TS.code B y) : T = S :=
  srt_eq (srt_of_code (fun x hx => hd x (p.mem_iff.mp hx)) (p.nodup_iff.mpr (nodup_of_srt srt)) c) srt fun x => p.mem_iff
/-! ### needs and joins (plain) -/
theorem four_need {w s : List Int} (e : w.length = s.length) (l4 : s.length ≤ 4) : four (need4 w s) = need4 (four w) (four s) := by
  match w, s, e, l4 with
  | [], [], _, _ => rfl
  | [a], [b], _, _ => rfl
  | [a, a2], [b, b2], _, _ => rfl
  | [a, a2, a3], [b, b2, b3], _, _ => rfl
  | [a, a2, a3, a4], [b, b2, b3, b4], _, _ => rfl
  | _ :: _ :: _ :: _ :: _ :: _, s, e, l =>
    rw [← e] at l
    simp at l
theorem four_join {w s : List Int} (e : w.length = s.length) (l4 : s.length ≤ 4) : four (join4 w s) = join4 (four w) (four s) := by
  match w, s, e, l4 with
  | [], [], _, _ => rfl
  | [a], [b], _, _ => rfl
  | [a, a2], [b, b2], _, _ => rfl
  | [a, a2, a3], [b, b2, b3], _, _ => rfl
  | [a, a2, a3, a4], [b, b2, b3, b4], _, _ => rfl
  | _ :: _ :: _ :: _ :: _ :: _, s, e, l =>
    rw [← e] at l
    simp at l
/-- stores of so many kinds -/
def StK (kd : Nat) (s : List Int) : Prop := s.length = kd ∧ ∀ z ∈ s, 0 ≤ z
theorem StK.four {kd : Nat} {s : List Int} (h : StK kd s) (k1 : 1 ≤ kd) (k4 : kd ≤ 4) : Ok4 (My.four s) := four_ok (by rw [h.1]; exact k1) (by rw [h.1]; exact k4) h.2
theorem need_stk {kd : Nat} {w s : List Int} (lw : w.length = kd) (ls : s.length = kd) : StK kd (need4 w s) := by
  refine ⟨by unfold need4; rw [List.length_zipWith, lw, ls, Nat.min_self], fun z hz => ?_⟩
  unfold need4 at hz
  obtain ⟨i, hi, rfl⟩ := List.mem_iff_getElem.mp hz
  rw [List.getElem_zipWith]
  omega
theorem join_stk {kd : Nat} {x y : List Int} (hx : StK kd x) (hy : StK kd y) : StK kd (join4 x y) := by
  refine ⟨by unfold join4; rw [List.length_zipWith, hx.1, hy.1, Nat.min_self], fun z hz => ?_⟩
  unfold join4 at hz
  obtain ⟨i, hi, rfl⟩ := List.mem_iff_getElem.mp hz
  rw [List.getElem_zipWith]
  have hi' := hi
  rw [List.length_zipWith] at hi'
  have := hx.2 _ (List.getElem_mem (show i < x.length by omega))
  omega
theorem nuMax3_int (a b c : Int) : nuMax3 (.int a) (.int b) (.int c) = some (.int (max (max a b) c)) := by
  show (((some (decide (a < b))).map fun c => if c = true then V.int b else V.int a).bind fun m => nuMax2 m (.int c)) = _
  have e : (if decide (a < b) = true then V.int b else V.int a) = V.int (max a b) := by
    by_cases h : a < b
    · rw [if_pos (decide_eq_true h), show max a b = b by omega]
    · rw [if_neg (fun z => h (of_decide_eq_true z)), show max a b = a by omega]
  show nuMax2 (if decide (a < b) = true then V.int b else V.int a) (.int c) = _
  rw [e]
  show ((some (decide (max a b < c))).map fun c' => if c' = true then V.int c else V.int (max a b)) = _
  show some (if decide (max a b < c) = true then V.int c else V.int (max a b)) = _
  by_cases h : max a b < c
  · rw [if_pos (decide_eq_true h), show max (max a b) c = c by omega]
  · rw [if_neg (fun z => h (of_decide_eq_true z)), show max (max a b) c = max a b by omega]
/-! ### helpers of the laws: covers, drawn ways, stores, houses -/
def cov (s t : List Int) : Bool := (List.zipWith (fun a b => decide (b ≤ a)) s t).all id
theorem cov_le {s t : List Int} (e : s.length = t.length) (l4 : s.length ≤ 4) : cov s t = le4 (four t) (four s) := by
  rw [Bool.eq_iff_iff]
  match s, t, e, l4 with
  | [], [], _, _ => exact Iff.rfl
  | [a], [b], _, _ =>
    rw [show le4 (four [b]) (four [a]) = le4 [b, 0, 0, 0] [a, 0, 0, 0] from rfl, le4_iff]
    simp only [cov, List.zipWith_cons_cons, List.zipWith_nil_left, List.all_cons, List.all_nil, id, Bool.and_true, Bool.and_eq_true, decide_eq_true_eq]
    try omega
  | [a, a2], [b, b2], _, _ =>
    rw [show le4 (four [b, b2]) (four [a, a2]) = le4 [b, b2, 0, 0] [a, a2, 0, 0] from rfl, le4_iff]
    simp only [cov, List.zipWith_cons_cons, List.zipWith_nil_left, List.all_cons, List.all_nil, id, Bool.and_true, Bool.and_eq_true, decide_eq_true_eq]
    try omega
  | [a, a2, a3], [b, b2, b3], _, _ =>
    rw [show le4 (four [b, b2, b3]) (four [a, a2, a3]) = le4 [b, b2, b3, 0] [a, a2, a3, 0] from rfl, le4_iff]
    simp only [cov, List.zipWith_cons_cons, List.zipWith_nil_left, List.all_cons, List.all_nil, id, Bool.and_true, Bool.and_eq_true, decide_eq_true_eq]
    try omega
  | [a, a2, a3, a4], [b, b2, b3, b4], _, _ =>
    rw [show le4 (four [b, b2, b3, b4]) (four [a, a2, a3, a4]) = le4 [b, b2, b3, b4] [a, a2, a3, a4] from rfl, le4_iff]
    simp only [cov, List.zipWith_cons_cons, List.zipWith_nil_left, List.all_cons, List.all_nil, id, Bool.and_true, Bool.and_eq_true, decide_eq_true_eq]
    try omega
theorem inV_all : ∀ bs : List Bool, (!inV (.bl false) (bs.map V.bl)) = bs.all id
  | [] => rfl
  | b :: bs => by
    have ih := inV_all bs
    unfold inV at ih ⊢
    rw [List.map_cons, List.any_cons, List.all_cons, Bool.not_or, ih]
    cases b <;> rfl
theorem inV_any : ∀ bs : List Bool, inV (.bl true) (bs.map V.bl) = bs.any id
  | [] => rfl
  | b :: bs => by
    have ih := inV_any bs
    unfold inV at ih ⊢
    rw [List.map_cons, List.any_cons, List.any_cons, ih]
    cases b <;> rfl
theorem flat_bls : ∀ bs : List Bool, (bs.map V.bl).all flatV = true
  | [] => rfl
  | b :: bs => by
    rw [List.map_cons, List.all_cons, flat_bls bs]
    rfl
theorem zip_at {α β : Type} {a : List α} {b : List β} {γ : Type} {f : α → β → γ} {i : Nat} {x : α} {y : β} (h1 : a[i]? = some x) (h2 : b[i]? = some y) : (List.zipWith f a b)[i]? = some (f x y) := by
  rw [List.getElem?_zipWith, h1, h2]
theorem zip_take {α β γ : Type} {f : α → β → γ} {a : List α} {b : List β} {i : Nat} {x : α} {y : β} (h1 : a[i]? = some x) (h2 : b[i]? = some y) : (List.zipWith f a b).take (i + 1) = (List.zipWith f a b).take i ++ [f x y] := by
  have h : (List.zipWith f a b)[i]? = some (f x y) := zip_at h1 h2
  rw [List.take_add_one, h]
  rfl
theorem four_inj {a b : List Int} (h : a.length = b.length) (e : four a = four b) : a = b := by
  unfold four at e
  rw [h] at e
  exact (List.append_inj e h).1
theorem stk_inj {kd : Nat} {s t : List Int} (hs : StK kd s) (ht : StK kd t) (e : four s = four t) : s = t := four_inj (by rw [hs.1, ht.1]) e
theorem map_inj {kd : Nat} : ∀ {S T : List (List Int)}, (∀ s ∈ S, StK kd s) → (∀ s ∈ T, StK kd s) → S.map four = T.map four → S = T
  | [], [], _, _, _ => rfl
  | [], _ :: _, _, _, e => by cases e
  | _ :: _, [], _, _, e => by cases e
  | s :: S, t :: T, hS, hT, e => by
    obtain ⟨e1, e2⟩ := List.cons.inj e
    rw [stk_inj (hS s List.mem_cons_self) (hT t List.mem_cons_self) e1, map_inj (fun x hx => hS x (List.mem_cons_of_mem _ hx)) (fun x hx => hT x (List.mem_cons_of_mem _ hx)) e2]
/-- told without the noughts of the kinds that aren't there -/
theorem told_back {kd : Nat} {M : List (List Int)} (l : Lows kd M) : (M.map fun x => x.take kd).map four = M := by
  rw [List.map_map]
  exact (List.map_congr_left fun x hx => l.back x hx).trans (List.map_id _)
theorem told_stk {kd : Nat} {M : List (List Int)} (l : Lows kd M) : ∀ r ∈ M.map (fun x => x.take kd), StK kd r := fun r hr => by
  obtain ⟨x, hx, rfl⟩ := List.mem_map.mp hr
  exact ⟨l.len x hx, l.pos x hx⟩
/-! ### comprehensions that make one of each -/
/-- over a tuple: each value told -/
theorem lc_tupV {K : PySem.W.Frag} {a : Addr} {xs bs : List V} {i : Nat} {te : TE} {vs : List Nat} {σ : L2.St} {H1 : Hp} {D : Addr} {Qd : Hp → Prop} (hT : SqT K H1 a xs) (nD : H1 D = none) (few : xs.length ≤ 100000) (lb : bs.length = xs.length)
    (hw : ∀ x, wipe ((wipe σ vs).set i (some x)) vs = wipe σ vs)
    (step : ∀ (m : Nat) x y H2, Same H1 H2 → xs[m]? = some x → bs[m]? = some y → ∀ Q : VK, (∀ H3, Same H2 H3 → Q y H3) → te ((wipe σ vs).set i (some x)) H2 Q)
    (hd : ∀ H2, Same H1 H2 → H2 D = some (.lst bs) → Qd H2) :
    ∃ W : Nat → Nat → Hp → Prop, (∃ m, W 0 m (upd H1 D (.lst []))) ∧ ∀ i' m H, W i' m H →
      ((Itt K a).stop i' H ∧ Qd H) ∨ ((Itt K a).go i' H ∧ ∃ Nx : Hp → Prop, (∀ H', Nx H' → ∃ m', m' < m ∧ W (i' + 1) m' H') ∧ ∀ x H', (Itt K a).yld i' H x H' → gName i x (wipe σ vs) H' fun σ2 H2 => wipe σ2 vs = wipe σ vs ∧ tYes σ2 H2 fun b H3 =>
        if b = true then te σ2 H3 fun y H4 => ∃ acc, H4 D = some (.lst acc) ∧ acc.length < sizeLine ∧ Nx (upd H4 D (.lst (acc ++ [y]))) else Nx H3) := by
  have sD := same_upd (o := .lst []) nD
  refine lc_tup (K := K) (a := a) (xs := xs) (fun m H2 => Same H1 H2 ∧ H2 D = some (.lst (bs.take m))) ⟨sD, upd_same⟩ (fun m H2 _ ⟨s2, _⟩ => s2.seqT hT) ?_ ?_
  · rintro m x H2 hx ⟨s2, hD⟩
    have lt := (List.getElem?_eq_some_iff.mp hx).1
    obtain ⟨y, hy⟩ : ∃ y, bs[m]? = some y := ⟨_, List.getElem?_eq_getElem (by omega)⟩
    refine ⟨hw x, ?_⟩
    show te _ _ _
    refine step m x y H2 s2 hx hy _ fun H3 s3 => ⟨bs.take m, s3 _ _ hD, ?_, fun b o e => ?_, ?_⟩
    · rw [List.length_take]
      exact small_line (by omega)
    · rw [upd_ne (ne_of_none e nD)]
      exact s3 _ _ (s2 _ _ e)
    · rw [upd_same, take_snoc hy]
  · rintro H2 ⟨s2, hD⟩
    rw [← lb, List.take_length] at hD
    exact hd H2 s2 hD
/-- over a tuple: data of data -/
theorem lc_tupD {K : PySem.W.Frag} {a : Addr} {xs : List V} {α β : Type} {S : List α} {f : α → PyData} {h : β → PyData} {w : α → β} {i : Nat} {te : TE} {vs : List Nat} {σ : L2.St} {H1 : Hp} {D : Addr} {Qd : Hp → Prop} (hT : SqT K H1 a xs) (dx : DpAll K H1 xs (S.map f)) (nD : H1 D = none) (few : S.length ≤ 100000)
    (hw : ∀ x, wipe ((wipe σ vs).set i (some x)) vs = wipe σ vs) (nl : ∀ t, noL (h t) = true)
    (step : ∀ (m : Nat) x s H2, Same H1 H2 → S[m]? = some s → Dp K H2 x (f s) → ∀ Q : VK, (∀ y H3, Same H2 H3 → Dp K H3 y (h (w s)) → Q y H3) → te ((wipe σ vs).set i (some x)) H2 Q)
    (hd : ∀ H2 ps, Same H1 H2 → H2 D = some (.lst ps) → DpAll K H2 ps ((S.map w).map h) → Qd H2) :
    ∃ W : Nat → Nat → Hp → Prop, (∃ m, W 0 m (upd H1 D (.lst []))) ∧ ∀ i' m H, W i' m H →
      ((Itt K a).stop i' H ∧ Qd H) ∨ ((Itt K a).go i' H ∧ ∃ Nx : Hp → Prop, (∀ H', Nx H' → ∃ m', m' < m ∧ W (i' + 1) m' H') ∧ ∀ x H', (Itt K a).yld i' H x H' → gName i x (wipe σ vs) H' fun σ2 H2 => wipe σ2 vs = wipe σ vs ∧ tYes σ2 H2 fun b H3 =>
        if b = true then te σ2 H3 fun y H4 => ∃ acc, H4 D = some (.lst acc) ∧ acc.length < sizeLine ∧ Nx (upd H4 D (.lst (acc ++ [y]))) else Nx H3) := by
  have sD := same_upd (o := .lst []) nD
  have lx := dpAll_len dx
  rw [List.length_map] at lx
  refine lc_tup (K := K) (a := a) (xs := xs) (fun m H2 => Same H1 H2 ∧ ∃ ps, H2 D = some (.lst ps) ∧ DpAll K H2 ps (((S.take m).map w).map h)) ⟨sD, [], upd_same, .nil⟩ (fun m H2 _ ⟨s2, _⟩ => s2.seqT hT) ?_ ?_
  · rintro m x H2 hx ⟨s2, ps, hD, dps⟩
    have lt := (List.getElem?_eq_some_iff.mp hx).1
    obtain ⟨d, hd0, dd⟩ := dpAll_get dx hx
    rw [List.getElem?_map] at hd0
    obtain ⟨s, hs, rfl⟩ := Option.map_eq_some_iff.mp hd0
    have lp := dpAll_len dps
    simp only [List.length_map, List.length_take] at lp
    refine ⟨hw x, ?_⟩
    show te _ _ _
    refine step m x s H2 s2 hs (dp_same s2 dd) _ fun y H3 s3 dy => ⟨ps, s3 _ _ hD, small_line (by omega), fun b o e => ?_, ps ++ [y], upd_same, ?_⟩
    · rw [upd_ne (ne_of_none e nD)]
      exact s3 _ _ (s2 _ _ e)
    · rw [take_snoc hs, List.map_append]
      exact dpAll_put (s3 _ _ hD) (dpAll_app1 (dpAll_same s3 dps) dy) (noLAll_map nl _)
  · rintro H2 ⟨s2, ps, hD, dps⟩
    rw [lx, List.take_length] at dps
    exact hd H2 ps s2 hD dps
/-! ### (x,) * k, told by what stands behind -/
def rRepZ (K : PySem.W.Frag) : R2 := fun x y H Q => ∃ l k z, x = .ref l ∧ y = .int k ∧ SqT K H l [z] ∧ 0 ≤ k ∧ k ≤ 1000 ∧ ∀ p H', Same H H' → SqT K H' p (List.replicate k.toNat z) → Q (.ref p) H'
theorem op_repZ {X : Cx} : OpR X (binaryOp .Mult) (rRepZ X.K) := by
  intro pins s σ H x y v u Q I rx ry h
  obtain ⟨l, k, z, rfl, rfl, hT, h0, hk, q⟩ := h
  refine op_rep1 pins s σ H _ _ v u Q I rx ry ⟨l, k, z, rfl, rfl, hT, h0, hk, fun e => q l H (Same.refl H) ?_, fun _ p np => q p _ (same_upd np) (SqT.of upd_same)⟩
  subst e
  exact hT
theorem tupD_of {K : PySem.W.Frag} {H : Hp} {v : V} {ds : List PyData} (h : Dp K H v (.tuple ds)) : ∃ a vs, v = .ref a ∧ SqT K H a vs ∧ DpAll K H vs ds := by
  cases h with
  | @tup a vs _ hT hall => exact ⟨a, vs, rfl, hT, hall⟩
/-! ### houses put together -/
def sTogether : Stmt := topS 4
def sBeside : Stmt := topS 5
def sTimes : Stmt := topS 6
def wideW (a b : Nat) (l : List Int) : List Int := List.replicate a 0 ++ l ++ List.replicate b 0
def behW (b : Nat) (l : List Int) : List Int := l ++ List.replicate b 0
def aheW (a : Nat) (l : List Int) : List Int := List.replicate a 0 ++ l
def besideH (kd kg : Nat) (h g : Asks) : Asks := h.map (List.map (behW kg)) ++ g.map (List.map (aheW kd))
def timesH (m : Int) (h : Asks) : Asks := h.map (List.map (List.map (· * m)))
def spTogether (K : PySem.W.Frag) : Sp := fun vs H Q _ => ∃ (x y : V) (h g : Asks), vs = [x, y] ∧ Dp K H x (houseD h) ∧ Dp K H y (houseD g) ∧ h.length + g.length ≤ 1000 ∧ ∀ v H', Same H H' → Dp K H' v (houseD (h ++ g)) → Q v H'
def spBeside (K : PySem.W.Frag) : Sp := fun vs H Q _ => ∃ (x y : V) (h g : Asks) (kd kg : Nat), vs = [x, y] ∧ Dp K H x (houseD h) ∧ Dp K H y (houseD g) ∧ HsOk h kd ∧ HsOk g kg ∧ ∀ v H', Same H H' → Dp K H' v (houseD (besideH kd kg h g)) → Q v H'
def spTimes (K : PySem.W.Frag) : Sp := fun vs H Q _ => ∃ (x : V) (h : Asks) (kd : Nat) (m : Int), vs = [x, .int m] ∧ Dp K H x (houseD h) ∧ HsOk h kd ∧ 0 ≤ m ∧ m ≤ 1000 ∧ ∀ v H', Same H H' → Dp K H' v (houseD (timesH m h)) → Q v H'
theorem HsOk.w4 {h : Asks} {kd : Nat} (o : HsOk h kd) {a : List (List Int)} (ha : a ∈ h) {l : List Int} (hl : l ∈ a) : l.length ≤ 4 := by
  rw [o.len a ha l hl]
  exact o.k4
/-- a tuple of a list of data that was just laid -/
theorem tup_new {K : PySem.W.Frag} {H : Hp} {D : Addr} {ps : List V} {ds : List PyData} {Q : VK} (hD : H D = some (.lst ps)) (dps : DpAll K H ps ds) (q : ∀ v H', Same H H' → Dp K H' v (.tuple ds) → Q v H') : rTupOf K [.ref D] H Q :=
  ⟨D, ps, rfl, .inl ⟨SqL.of hD, fun l nl => q _ _ (same_upd nl) (.tup (SqT.of upd_same) (dpAll_same (same_upd nl) dps))⟩⟩
section
variable {P : Program} {w : World} {K : PySem.W.Frag} {mg : Str → Option Value} {base : Heap}
theorem scTogether : FnScope ["house", "other"] ["house", "other"] (defScope sTogether) := ⟨rfl, rfl, rfl, by decide +kernel, rfl, by decide +kernel, by decide +kernel⟩
theorem ok_together {f : Addr} {fd : FuncData} {k : Nat} (F : Fun K "together" "together" sTogether f fd) : FnOk P w K mg base CX0 (k + 1) f fd ["house", "other"] (spTogether K) := by
  refine F.ok scTogether (fun vs H Q E h => ?_) (fun cdv A outer s H vs Q E hr h => ?_)
  · obtain ⟨x, y, h, g, rfl, _⟩ := h
    rfl
  · obtain ⟨x, y, h, g, rfl, dx, dy, few, q⟩ := h
    refine ⟨_, pss_one (ps_ret (pe_op op_catN (pv 0) (pv 1))), ?_⟩
    obtain ⟨a, xs, rfl, hT, dxs⟩ := tupD_of dx
    obtain ⟨b, ys, rfl, hU, dys⟩ := tupD_of dy
    have lx := dpAll_len dxs
    have ly := dpAll_len dys
    rw [List.length_map] at lx ly
    refine ⟨_, rfl, _, rfl, a, b, xs, ys, rfl, rfl, hT, hU, by rw [sizeLine_eq]; omega, fun c H' s' hc => q _ H' s' (.tup hc ?_)⟩
    rw [List.map_append]
    exact dpAll_same s' (dpAll_app dxs dys)
theorem scBeside : FnScope ["house", "other", "behind", "ahead", "asks", "ask", "way"] ["house", "other"] (defScope sBeside) := ⟨rfl, rfl, rfl, by decide +kernel, rfl, by decide +kernel, by decide +kernel⟩
theorem ok_beside {f fK : Addr} {fd fdK : FuncData} {k : Nat} (F : Fun K "beside" "beside" sBeside f fd)
    (GK : FnOk P w K mg base CX0 (k + 1) fK fdK ["house"] (spKindsOf K)) (kK : PySem.W.keepIn K (.ref fK) = true) (bK : Binds K fdK ["house"] []) (gK : mg "kinds_of" = some (.ref fK)) (mt : mg "tuple" = none) : FnOk P w K mg base CX0 (k + 2) f fd ["house", "other"] (spBeside K) := by
  refine F.ok scBeside (fun vs H Q E h => ?_) (fun cdv A outer s H vs Q E hr h => ?_)
  · obtain ⟨x, y, h, g, kd, kg, rfl, _⟩ := h
    rfl
  · obtain ⟨x, y, h, g, kd, kg, rfl, dx, dy, o, og, q⟩ := h
    refine ⟨_, (pss_cons (ps_set (i := 2) scBeside.nd rfl (.inr rfl) (pe_op op_repZ (pe_tup (pa_cons pe_int pa_nil)) (pe_call GK hr (by rfl) gK kK bK .nil pass0 (pa_cons (pv 1) pa_nil))))
      (pss_cons (ps_set (i := 3) scBeside.nd rfl (.inr rfl) (pe_op op_repZ (pe_tup (pa_cons pe_int pa_nil)) (pe_call GK hr (by rfl) gK kK bK .nil pass0 (pa_cons (pv 0) pa_nil))))
      (pss_cons (ps_setLc (i := 4) (own := [("ask", 5)]) (g := gName 5) (tt := tYes) (te := (tCB (rTupOf K) (tCons (tLc (iTup K (tVar 5)) (gName 6) tYes (tOp (rCatN K) (tVar 6) (tVar 2)) [6]) tNil))) rfl scBeside.nd rfl rfl (sw_true rfl rfl rfl (by decide +kernel)) (pi_tup (pv 0))
        (blkOk_by (N := ["house", "other", "behind", "ahead", "asks", "ask", "way"]) (sc := defScope sBeside) (by decide +kernel)) (fun _ _ _ _ _ => by exact (pg_name (i := 5) scBeside.nd rfl (.inl rfl))) (fun _ _ _ _ _ => pts_nil)
        (fun _ _ _ _ _ => by exact (by
          refine pe_callTy call_tuple_of (by rfl) mt (by decide +kernel) (pa_cons ?_ pa_nil)
          refine pe_lc (wi := iTup K (tVar 5)) (own := [("way", 6)]) (g := gName 6) (tt := tYes) (te := tOp (rCatN K) (tVar 6) (tVar 2)) ?_ ?_ ?_ ?_ ?_ ?_ ?_
          · rfl
          · exact scBeside.nd
          · exact (pi_tup (pv 5))
          · exact blkOk_by (N := ["house", "other", "behind", "ahead", "asks", "ask", "way"]) (sc := lcSc [(".0", .local), ("ask", .local), ("tuple", .globalImplicit), ("behind", .cell)]) (by decide +kernel)
          · exact fun _ _ _ _ _ => by exact (pg_name (i := 6) scBeside.nd rfl (.inl rfl))
          · exact fun _ _ _ _ _ => pts_nil
          · exact fun _ _ _ _ _ => by exact pe_op op_catN (pv 6) (pv 2))))
      (pss_one (ps_ret (pe_callTy call_tuple_of (by rfl) mt (by decide +kernel) (pa_cons (pe_op op_cat (pv 4) (pe_lc (own := [("ask", 5)]) (g := gName 5) (tt := tYes) (te := (tCB (rTupOf K) (tCons (tLc (iTup K (tVar 5)) (gName 6) tYes (tOp (rCatN K) (tVar 3) (tVar 6)) [6]) tNil))) rfl scBeside.nd (pi_tup (pv 1))
        (blkOk_by (N := ["house", "other", "behind", "ahead", "asks", "ask", "way"]) (sc := defScope sBeside) (by decide +kernel)) (fun _ _ _ _ _ => by exact (pg_name (i := 5) scBeside.nd rfl (.inl rfl))) (fun _ _ _ _ _ => pts_nil)
        (fun _ _ _ _ _ => by exact (by
          refine pe_callTy call_tuple_of (by rfl) mt (by decide +kernel) (pa_cons ?_ pa_nil)
          refine pe_lc (wi := iTup K (tVar 5)) (own := [("way", 6)]) (g := gName 6) (tt := tYes) (te := tOp (rCatN K) (tVar 3) (tVar 6)) ?_ ?_ ?_ ?_ ?_ ?_ ?_
          · rfl
          · exact scBeside.nd
          · exact (pi_tup (pv 5))
          · exact blkOk_by (N := ["house", "other", "behind", "ahead", "asks", "ask", "way"]) (sc := lcSc [(".0", .local), ("ask", .local), ("tuple", .globalImplicit), ("ahead", .cell)]) (by decide +kernel)
          · exact fun _ _ _ _ _ => by exact (pg_name (i := 6) scBeside.nd rfl (.inl rfl))
          · exact fun _ _ _ _ _ => pts_nil
          · exact fun _ _ _ _ _ => by exact pe_op op_catN (pv 3) (pv 6))))) pa_nil))))))), ?_⟩
    -- sem
    have k4 := o.k4
    have g4 := og.k4
    have few := o.few
    have gfew := og.few
    obtain ⟨a, xs, rfl, hT, dxs⟩ := tupD_of dx
    obtain ⟨b, ys, rfl, hU, dys⟩ := tupD_of dy
    refine ⟨by show 1 ≤ sizeLine; decide, fun z1 n1 => ?_⟩
    have s1 := same_upd (o := .tup [V.int 0]) n1
    refine ⟨_, rfl, .ref b, g, kg, rfl, dp_same s1 dy, og, z1, (kg : Int), V.int 0, rfl, rfl, SqT.of upd_same, by omega, by omega, fun bh H2 s2 hB => ?_⟩
    rw [Int.toNat_natCast] at hB
    refine ⟨by show 1 ≤ sizeLine; decide, fun z2 n2 => ?_⟩
    have s3 := same_upd (o := .tup [V.int 0]) n2
    have s02 := (s1.trans s2).trans s3
    refine ⟨_, rfl, .ref a, h, kd, rfl, dp_same s02 dx, o, z2, (kd : Int), V.int 0, rfl, rfl, SqT.of upd_same, by omega, by omega, fun ah H3 s4 hA => ?_⟩
    rw [Int.toNat_natCast] at hA
    have s03 := s02.trans s4
    have hB3 := (s3.trans s4).seqT hB
    have dxs3 := dpAll_same s03 dxs
    refine ⟨_, rfl, a, rfl, ⟨_, s03.seqT hT⟩, fun D nD => ?_⟩
    refine lc_tupD (S := h) (f := askD) (h := askD) (w := List.map (behW kg)) (s03.seqT hT) dxs3 nD (by omega) (fun _ => rfl) noL_ask (fun m x t H4 s5 ht dt Q' q' => ?_) (fun H4 ps s5 hD dps => ?_)
    · have mt' := List.mem_of_getElem? ht
      have t5 := o.five t mt'
      obtain ⟨c, cs, rfl, hC, dcs⟩ := tupD_of dt
      refine ⟨_, rfl, c, rfl, ⟨_, hC⟩, fun G nG => ?_⟩
      refine lc_tupD (S := t) (f := wayD) (h := wayD) (w := behW kg) hC dcs nG (by omega) (fun _ => rfl) noL_way (fun m2 x2 l H5 s6 hl dl Q2 q2 => ?_) (fun H5 ps2 s6 hG dps2 => tup_new hG dps2 fun v H6 s7 dv => q' v H6 (s6.trans s7) dv)
      obtain ⟨la, rfl, hL⟩ := way_of dl
      have l4 := o.w4 mt' (List.mem_of_getElem? hl)
      refine ⟨_, rfl, _, rfl, la, bh, _, _, rfl, rfl, hL, (s5.trans s6).seqT hB3, by rw [List.length_map, List.length_replicate, sizeLine_eq]; omega, fun v H6 s7 hv => q2 _ H6 s7 (of_way ?_)⟩
      unfold behW
      rw [List.map_append, List.map_replicate]
      exact hv
    · have s05 := s03.trans s5
      have dys5 := dpAll_same s05 dys
      refine ⟨_, rfl, _, rfl, b, rfl, ⟨_, s05.seqT hU⟩, fun G nG => ?_⟩
      have hA5 := s5.seqT hA
      refine lc_tupD (S := g) (f := askD) (h := askD) (w := List.map (aheW kd)) (s05.seqT hU) dys5 nG (by omega) (fun _ => rfl) noL_ask (fun m x t H6 s6 ht dt Q' q' => ?_) (fun H6 ps2 s6 hG dps2 => ?_)
      · have mt' := List.mem_of_getElem? ht
        have t5 := og.five t mt'
        obtain ⟨c, cs, rfl, hC, dcs⟩ := tupD_of dt
        refine ⟨_, rfl, c, rfl, ⟨_, hC⟩, fun G2 nG2 => ?_⟩
        refine lc_tupD (S := t) (f := wayD) (h := wayD) (w := aheW kd) hC dcs nG2 (by omega) (fun _ => rfl) noL_way (fun m2 x2 l H7 s7 hl dl Q2 q2 => ?_) (fun H7 ps3 s7 hG2 dps3 => tup_new hG2 dps3 fun v H8 s8 dv => q' v H8 (s7.trans s8) dv)
        obtain ⟨la, rfl, hL⟩ := way_of dl
        have l4 := og.w4 mt' (List.mem_of_getElem? hl)
        refine ⟨_, rfl, _, rfl, ah, la, _, _, rfl, rfl, (s6.trans s7).seqT hA5, hL, by rw [List.length_map, List.length_replicate, sizeLine_eq]; omega, fun v H8 s8 hv => q2 _ H8 s8 (of_way ?_)⟩
        unfold aheW
        rw [List.map_append, List.map_replicate]
        exact hv
      · have l1 := dpAll_len dps
        have l2 := dpAll_len dps2
        simp only [List.length_map] at l1 l2
        refine ⟨D, G, ps, ps2, rfl, rfl, s6 _ _ hD, hG, by rw [sizeLine_eq]; omega, fun L nL => ?_⟩
        have sL := same_upd (o := .lst (ps ++ ps2)) nL
        refine tup_new upd_same (dpAll_app (dpAll_same (s6.trans sL) dps) (dpAll_same sL dps2)) fun v H7 s7 dv => q v H7 ((s05.trans s6).trans (sL.trans s7)) ?_
        unfold houseD besideH
        rw [List.map_append]
        exact dv
theorem scTimes : FnScope ["house", "m", "ask", "way", "number"] ["house", "m"] (defScope sTimes) := ⟨rfl, rfl, rfl, by decide +kernel, rfl, by decide +kernel, by decide +kernel⟩
theorem ok_times {f : Addr} {fd : FuncData} {k : Nat} (F : Fun K "times" "times" sTimes f fd) (mt : mg "tuple" = none) : FnOk P w K mg base CX0 (k + 1) f fd ["house", "m"] (spTimes K) := by
  refine F.ok scTimes (fun vs H Q E h => ?_) (fun cdv A outer s H vs Q E hr h => ?_)
  · obtain ⟨x, h, kd, m, rfl, _⟩ := h
    rfl
  · obtain ⟨x, h, kd, m, rfl, dx, o, m0, m1, q⟩ := h
    refine ⟨_, (pss_one (ps_ret (pe_callTy call_tuple_of (by rfl) mt (by decide +kernel) (pa_cons (pe_lc (own := [("ask", 2)]) (g := gName 2) (tt := tYes) (te := (tCB (rTupOf K) (tCons (tLc (iTup K (tVar 2)) (gName 3) tYes (tCB (rTupOf K) (tCons (tLc (iTup K (tVar 3)) (gName 4) tYes (tOp (rI CMul fun i j => .int (i * j)) (tVar 4) (tVar 1)) [4]) tNil)) [3]) tNil))) rfl scTimes.nd (pi_tup (pv 0))
        (blkOk_by (N := ["house", "m", "ask", "way", "number"]) (sc := defScope sTimes) (by decide +kernel)) (fun _ _ _ _ _ => by exact (pg_name (i := 2) scTimes.nd rfl (.inl rfl))) (fun _ _ _ _ _ => pts_nil)
        (fun _ _ _ _ _ => by exact (by
          refine pe_callTy call_tuple_of (by rfl) mt (by decide +kernel) (pa_cons ?_ pa_nil)
          refine pe_lc (wi := iTup K (tVar 2)) (own := [("way", 3)]) (g := gName 3) (tt := tYes) (te := tCB (rTupOf K) (tCons (tLc (iTup K (tVar 3)) (gName 4) tYes (tOp (rI CMul fun i j => .int (i * j)) (tVar 4) (tVar 1)) [4]) tNil)) ?_ ?_ ?_ ?_ ?_ ?_ ?_
          · rfl
          · exact scTimes.nd
          · exact (pi_tup (pv 2))
          · exact blkOk_by (N := ["house", "m", "ask", "way", "number"]) (sc := lcSc [(".0", .local), ("ask", .local), ("tuple", .globalImplicit), ("m", .cell)]) (by decide +kernel)
          · exact fun _ _ _ _ _ => by exact (pg_name (i := 3) scTimes.nd rfl (.inl rfl))
          · exact fun _ _ _ _ _ => pts_nil
          · exact fun _ _ _ _ _ => by exact (by
          refine pe_callTy call_tuple_of (by rfl) mt (by decide +kernel) (pa_cons ?_ pa_nil)
          refine pe_lc (wi := iTup K (tVar 3)) (own := [("number", 4)]) (g := gName 4) (tt := tYes) (te := tOp (rI CMul fun i j => .int (i * j)) (tVar 4) (tVar 1)) ?_ ?_ ?_ ?_ ?_ ?_ ?_
          · rfl
          · exact scTimes.nd
          · exact (pi_tup (pv 3))
          · exact blkOk_by (N := ["house", "m", "ask", "way", "number"]) (sc := lcSc [(".0", .local), ("way", .local), ("tuple", .globalImplicit), ("m", .cell)]) (by decide +kernel)
          · exact fun _ _ _ _ _ => by exact (pg_name (i := 4) scTimes.nd rfl (.inl rfl))
          · exact fun _ _ _ _ _ => pts_nil
          · exact fun _ _ _ _ _ => by exact pe_op op_mul (pv 4) (pv 1))))) pa_nil)))), ?_⟩
    -- sem
    have few := o.few
    obtain ⟨a, xs, rfl, hT, dxs⟩ := tupD_of dx
    refine ⟨_, rfl, a, rfl, ⟨_, hT⟩, fun D nD => ?_⟩
    refine lc_tupD (S := h) (f := askD) (h := askD) (w := List.map (List.map (· * m))) hT dxs nD (by omega) (fun _ => rfl) noL_ask (fun i1 x t H1 s1 ht dt Q' q' => ?_) (fun H1 ps s1 hD dps => tup_new hD dps fun v H2 s2 dv => q v H2 (s1.trans s2) dv)
    have mt' := List.mem_of_getElem? ht
    have t5 := o.five t mt'
    obtain ⟨c, cs, rfl, hC, dcs⟩ := tupD_of dt
    refine ⟨_, rfl, c, rfl, ⟨_, hC⟩, fun G nG => ?_⟩
    refine lc_tupD (S := t) (f := wayD) (h := wayD) (w := List.map (· * m)) hC dcs nG (by omega) (fun _ => rfl) noL_way (fun i2 x l H2 s2 hl dl Q2 q2 => ?_) (fun H2 ps s2 hG dps => tup_new hG dps fun v H3 s3 dv => q' v H3 (s2.trans s3) dv)
    obtain ⟨la, rfl, hL⟩ := way_of dl
    have l4 := o.w4 mt' (List.mem_of_getElem? hl)
    refine ⟨_, rfl, la, rfl, ⟨_, hL⟩, fun G3 nG3 => ?_⟩
    refine lc_tupD (S := l) (f := PyData.int) (h := PyData.int) (w := (· * m)) hL (dpAll_ints l) nG3 (by omega) (fun _ => rfl) noL_int (fun i3 x z H3 s3 hz dz Q3 q3 => ?_) (fun H3 ps s3 hG dps => tup_new hG dps fun v H4 s4 dv => q2 v H4 (s3.trans s4) dv)
    cases dz
    exact ⟨_, rfl, _, rfl, _, _, rfl, rfl, .inr ⟨by omega, by omega⟩, q3 _ H3 (Same.refl _) (.int _)⟩
end
/-! ### what lasts, of stores of any length (plain Lean) -/
def adR (s l : List Int) : List Int := List.zipWith (· + ·) s l
def okR (s : List Int) : Prop := ∀ z ∈ s, 0 ≤ z
def RN (h : Asks) : Nat → List Int → Prop
  | 0, _ => True
  | n + 1, s => ∀ a ∈ h, ∃ w ∈ a, okR (adR s w) ∧ RN h n (adR s w)
def RNd (h : Asks) (n : Nat) (a : List (List Int)) (s : List Int) : Prop := ∃ w ∈ a, okR (adR s w) ∧ RN h n (adR s w)
theorem adR_len {s l : List Int} (h : l.length = s.length) : (adR s l).length = s.length := by
  unfold adR
  rw [List.length_zipWith, h, Nat.min_self]
theorem adR_four {s l : List Int} (h : l.length = s.length) (s4 : s.length ≤ 4) : add4 (four s) (four l) = four (adR s l) := by
  match s, l, h, s4 with
  | [], [], _, _ => rfl
  | [a], [e], _, _ => show [a + e, 0 + 0, 0 + 0, 0 + 0] = [a + e, 0, 0, 0]; rfl
  | [a, b], [e, f], _, _ => show [a + e, b + f, 0 + 0, 0 + 0] = [a + e, b + f, 0, 0]; rfl
  | [a, b, c], [e, f, g], _, _ => show [a + e, b + f, c + g, 0 + 0] = [a + e, b + f, c + g, 0]; rfl
  | [a, b, c, d], [e, f, g, i], _, _ => rfl
theorem okR_four {s : List Int} (s4 : s.length ≤ 4) : Ok4 (four s) ↔ okR s := by
  constructor
  · rintro ⟨a, b, c, d, e, h1, h2, h3, h4⟩ x hx
    have : x ∈ four s := by
      unfold four
      exact List.mem_append_left _ hx
    rw [e] at this
    simp only [List.mem_cons, List.not_mem_nil, or_false] at this
    omega
  · intro h
    match s, s4, h with
    | [], _, _ => exact ok_zero
    | a :: r, s4, h => exact four_ok (by simp) s4 h
theorem RN.down {h : Asks} : ∀ {n : Nat} {s : List Int}, RN h (n + 1) s → RN h n s
  | 0, _, _ => True.intro
  | _ + 1, _, z => fun a ha => let ⟨w, hw, o, q⟩ := z a ha; ⟨w, hw, o, q.down⟩
theorem rn_ln {h : Asks} {kd : Nat} (k4 : kd ≤ 4) (hl : ∀ a ∈ h, ∀ l ∈ a, l.length = kd) : ∀ {n : Nat} {s : List Int}, s.length = kd → (LN (asks4 h) n (four s) ↔ RN h n s)
  | 0, _, _ => Iff.rfl
  | n + 1, s, ls => by
    constructor
    · intro z a ha
      obtain ⟨w, hw, o, q⟩ := z _ (List.mem_map.mpr ⟨a, ha, rfl⟩)
      obtain ⟨l, hm, rfl⟩ := List.mem_map.mp hw
      have ll := (hl a ha l hm).trans ls.symm
      rw [adR_four ll (by omega)] at o q
      have la := adR_len ll
      exact ⟨l, hm, (okR_four (by omega)).mp o, (rn_ln k4 hl (by omega)).mp q⟩
    · intro z a' ha'
      obtain ⟨a, ha, rfl⟩ := List.mem_map.mp ha'
      obtain ⟨l, hm, o, q⟩ := z a ha
      have ll := (hl a ha l hm).trans ls.symm
      have la := adR_len ll
      refine ⟨four l, List.mem_map.mpr ⟨l, hm, rfl⟩, ?_⟩
      rw [adR_four ll (by omega)]
      exact ⟨(okR_four (by omega)).mpr o, (rn_ln k4 hl (by omega)).mpr q⟩
theorem nd_rn {h : Asks} {kd : Nat} (k4 : kd ≤ 4) (hl : ∀ a ∈ h, ∀ l ∈ a, l.length = kd) {n : Nat} {s : List Int} (ls : s.length = kd) {a : List (List Int)} (ha : a ∈ h) : Nd (asks4 h) n (a.map four) (four s) ↔ RNd h n a s := by
  constructor
  · rintro ⟨w, hw, o, q⟩
    obtain ⟨l, hm, rfl⟩ := List.mem_map.mp hw
    have ll := (hl a ha l hm).trans ls.symm
    rw [adR_four ll (by omega)] at o q
    have la := adR_len ll
    exact ⟨l, hm, (okR_four (by omega)).mp o, (rn_ln k4 hl (by omega)).mp q⟩
  · rintro ⟨l, hm, o, q⟩
    have ll := (hl a ha l hm).trans ls.symm
    have la := adR_len ll
    refine ⟨four l, List.mem_map.mpr ⟨l, hm, rfl⟩, ?_⟩
    rw [adR_four ll (by omega)]
    exact ⟨(okR_four (by omega)).mpr o, (rn_ln k4 hl (by omega)).mpr q⟩
/-! beside -/
theorem adR_zero : ∀ {u : List Int} {k : Nat}, u.length = k → adR u (List.replicate k 0) = u
  | [], _, e => by subst e; rfl
  | a :: u, _, e => by
    subst e
    show (a + 0) :: adR u (List.replicate u.length 0) = a :: u
    rw [adR_zero rfl, Int.add_zero]
theorem adR_app {s u w v : List Int} (h : s.length = w.length) : adR (s ++ u) (w ++ v) = adR s w ++ adR u v := List.zipWith_append h
theorem okR_app {s u : List Int} : okR (s ++ u) ↔ okR s ∧ okR u :=
  ⟨fun h => ⟨fun z hz => h z (List.mem_append_left _ hz), fun z hz => h z (List.mem_append_right _ hz)⟩, fun h z hz => (List.mem_append.mp hz).elim (h.1 z) (h.2 z)⟩
theorem rn_beside {h g : Asks} {kd kg : Nat} (hl : ∀ a ∈ h, ∀ l ∈ a, l.length = kd) (gl : ∀ a ∈ g, ∀ l ∈ a, l.length = kg) : ∀ {n : Nat} {s u : List Int}, s.length = kd → u.length = kg → okR s → okR u → (RN (besideH kd kg h g) n (s ++ u) ↔ RN h n s ∧ RN g n u)
  | 0, _, _, _, _, _, _ => ⟨fun _ => ⟨True.intro, True.intro⟩, fun _ => True.intro⟩
  | n + 1, s, u, ls, lu, os, ou => by
    have e1 : ∀ a ∈ h, ∀ w ∈ a, adR (s ++ u) (behW kg w) = adR s w ++ u ∧ (adR s w).length = kd := fun a ha w hw => by
      have lw := hl a ha w hw
      unfold behW
      exact ⟨by rw [adR_app (by omega), adR_zero lu], by rw [adR_len (by omega), ls]⟩
    have e2 : ∀ a ∈ g, ∀ w ∈ a, adR (s ++ u) (aheW kd w) = s ++ adR u w ∧ (adR u w).length = kg := fun a ha w hw => by
      have lw := gl a ha w hw
      unfold aheW
      exact ⟨by rw [adR_app (by rw [List.length_replicate, ls]), adR_zero ls], by rw [adR_len (by omega), lu]⟩
    constructor
    · intro z
      refine ⟨fun a ha => ?_, fun a ha => ?_⟩
      · obtain ⟨w', hw', o, q⟩ := z _ (List.mem_append_left _ (List.mem_map.mpr ⟨a, ha, rfl⟩))
        obtain ⟨w, hw, rfl⟩ := List.mem_map.mp hw'
        obtain ⟨e, l⟩ := e1 a ha w hw
        rw [e] at o q
        have o1 := (okR_app.mp o).1
        exact ⟨w, hw, o1, ((rn_beside hl gl l lu o1 ou).mp q).1⟩
      · obtain ⟨w', hw', o, q⟩ := z _ (List.mem_append_right _ (List.mem_map.mpr ⟨a, ha, rfl⟩))
        obtain ⟨w, hw, rfl⟩ := List.mem_map.mp hw'
        obtain ⟨e, l⟩ := e2 a ha w hw
        rw [e] at o q
        have o1 := (okR_app.mp o).2
        exact ⟨w, hw, o1, ((rn_beside hl gl ls l os o1).mp q).2⟩
    · rintro ⟨zh, zg⟩ a' ha'
      rcases List.mem_append.mp ha' with ha' | ha'
      · obtain ⟨a, ha, rfl⟩ := List.mem_map.mp ha'
        obtain ⟨w, hw, o, q⟩ := zh a ha
        obtain ⟨e, l⟩ := e1 a ha w hw
        refine ⟨_, List.mem_map.mpr ⟨w, hw, rfl⟩, ?_⟩
        rw [e]
        exact ⟨okR_app.mpr ⟨o, ou⟩, (rn_beside hl gl l lu o ou).mpr ⟨q, zg.down⟩⟩
      · obtain ⟨a, ha, rfl⟩ := List.mem_map.mp ha'
        obtain ⟨w, hw, o, q⟩ := zg a ha
        obtain ⟨e, l⟩ := e2 a ha w hw
        refine ⟨_, List.mem_map.mpr ⟨w, hw, rfl⟩, ?_⟩
        rw [e]
        exact ⟨okR_app.mpr ⟨os, o⟩, (rn_beside hl gl ls l os o).mpr ⟨zh.down, q⟩⟩
theorem rnd_beside1 {h g : Asks} {kd kg : Nat} (hl : ∀ a ∈ h, ∀ l ∈ a, l.length = kd) (gl : ∀ a ∈ g, ∀ l ∈ a, l.length = kg) {n : Nat} {s u : List Int} (ls : s.length = kd) (lu : u.length = kg) (ou : okR u) {a : List (List Int)} (ha : a ∈ h) : RNd (besideH kd kg h g) n (a.map (behW kg)) (s ++ u) ↔ RNd h n a s ∧ RN g n u := by
  have e1 : ∀ w ∈ a, adR (s ++ u) (behW kg w) = adR s w ++ u ∧ (adR s w).length = kd := fun w hw => by
    have lw := hl a ha w hw
    unfold behW
    exact ⟨by rw [adR_app (by omega), adR_zero lu], by rw [adR_len (by omega), ls]⟩
  constructor
  · rintro ⟨w', hw', o, q⟩
    obtain ⟨w, hw, rfl⟩ := List.mem_map.mp hw'
    obtain ⟨e, l⟩ := e1 w hw
    rw [e] at o q
    have o1 := (okR_app.mp o).1
    have := (rn_beside hl gl l lu o1 ou).mp q
    exact ⟨⟨w, hw, o1, this.1⟩, this.2⟩
  · rintro ⟨⟨w, hw, o, q⟩, zg⟩
    obtain ⟨e, l⟩ := e1 w hw
    refine ⟨_, List.mem_map.mpr ⟨w, hw, rfl⟩, ?_⟩
    rw [e]
    exact ⟨okR_app.mpr ⟨o, ou⟩, (rn_beside hl gl l lu o ou).mpr ⟨q, zg⟩⟩
theorem rnd_beside2 {h g : Asks} {kd kg : Nat} (hl : ∀ a ∈ h, ∀ l ∈ a, l.length = kd) (gl : ∀ a ∈ g, ∀ l ∈ a, l.length = kg) {n : Nat} {s u : List Int} (ls : s.length = kd) (lu : u.length = kg) (os : okR s) {a : List (List Int)} (ha : a ∈ g) : RNd (besideH kd kg h g) n (a.map (aheW kd)) (s ++ u) ↔ RN h n s ∧ RNd g n a u := by
  have e2 : ∀ w ∈ a, adR (s ++ u) (aheW kd w) = s ++ adR u w ∧ (adR u w).length = kg := fun w hw => by
    have lw := gl a ha w hw
    unfold aheW
    exact ⟨by rw [adR_app (by rw [List.length_replicate, ls]), adR_zero ls], by rw [adR_len (by omega), lu]⟩
  constructor
  · rintro ⟨w', hw', o, q⟩
    obtain ⟨w, hw, rfl⟩ := List.mem_map.mp hw'
    obtain ⟨e, l⟩ := e2 w hw
    rw [e] at o q
    have o1 := (okR_app.mp o).2
    have := (rn_beside hl gl ls l os o1).mp q
    exact ⟨this.1, w, hw, o1, this.2⟩
  · rintro ⟨zh, w, hw, o, q⟩
    obtain ⟨e, l⟩ := e2 w hw
    refine ⟨_, List.mem_map.mpr ⟨w, hw, rfl⟩, ?_⟩
    rw [e]
    exact ⟨okR_app.mpr ⟨os, o⟩, (rn_beside hl gl ls l os o).mpr ⟨zh, q⟩⟩
/-! so many times, and together -/
theorem adR_times {m : Int} (m1 : 1 ≤ m) : ∀ (s w : List Int), (adR s (w.map (· * m))).map (· / m) = adR (s.map (· / m)) w
  | [], w => by simp [adR]
  | a :: s, [] => by simp [adR]
  | a :: s, e :: w => by
    have := adR_times m1 s w
    show ((a + e * m) / m) :: (adR s (w.map (· * m))).map (· / m) = (a / m + e) :: adR (s.map (· / m)) w
    rw [this, Int.add_mul_ediv_right _ _ (by omega)]
theorem okR_div {m : Int} (m1 : 1 ≤ m) {s : List Int} : okR s ↔ okR (s.map (· / m)) := by
  constructor
  · intro h z hz
    obtain ⟨x, hx, rfl⟩ := List.mem_map.mp hz
    exact Int.ediv_nonneg (h x hx) (by omega)
  · intro h z hz
    have := h _ (List.mem_map.mpr ⟨z, hz, rfl⟩)
    exact (Int.ediv_nonneg_iff_of_pos (by omega)).mp this
theorem rn_times {m : Int} (m1 : 1 ≤ m) {h : Asks} : ∀ {n : Nat} {s : List Int}, RN (timesH m h) n s ↔ RN h n (s.map (· / m))
  | 0, _ => Iff.rfl
  | n + 1, s => by
    constructor
    · intro z a ha
      obtain ⟨w', hw', o, q⟩ := z _ (List.mem_map.mpr ⟨a, ha, rfl⟩)
      obtain ⟨w, hw, rfl⟩ := List.mem_map.mp hw'
      rw [okR_div m1, adR_times m1] at o
      rw [rn_times m1, adR_times m1] at q
      exact ⟨w, hw, o, q⟩
    · intro z a' ha'
      obtain ⟨a, ha, rfl⟩ := List.mem_map.mp ha'
      obtain ⟨w, hw, o, q⟩ := z a ha
      refine ⟨_, List.mem_map.mpr ⟨w, hw, rfl⟩, ?_⟩
      rw [okR_div m1, rn_times m1, adR_times m1]
      exact ⟨o, q⟩
theorem adR_swap : ∀ (s u w : List Int), adR (adR s u) w = adR (adR s w) u
  | [], _, _ => by simp [adR]
  | _ :: _, [], _ => by simp [adR]
  | _ :: _, _ :: _, [] => by simp [adR]
  | a :: s, b :: u, c :: w => by
    show (a + b + c) :: adR (adR s u) w = (a + c + b) :: adR (adR s w) u
    rw [adR_swap s u w, Int.add_right_comm]
theorem adR_comm : ∀ (s u : List Int), adR s u = adR u s
  | [], [] => rfl
  | [], _ :: _ => by simp [adR]
  | _ :: _, [] => by simp [adR]
  | a :: s, b :: u => by
    show (a + b) :: adR s u = (b + a) :: adR u s
    rw [adR_comm s u, Int.add_comm]
theorem okR_ad {s u : List Int} (hs : okR s) (hu : okR u) : okR (adR s u) := fun z hz => by
  unfold adR at hz
  obtain ⟨i, hi, rfl⟩ := List.mem_iff_getElem.mp hz
  rw [List.length_zipWith] at hi
  rw [List.getElem_zipWith]
  have := hs _ (List.getElem_mem (show i < s.length by omega))
  have := hu _ (List.getElem_mem (show i < u.length by omega))
  omega
theorem rn_together {h g : Asks} : ∀ {n : Nat} {s u : List Int}, okR s → okR u → RN h n s → RN g n u → RN (h ++ g) n (adR s u)
  | 0, _, _, _, _, _, _ => True.intro
  | n + 1, s, u, os, ou, zh, zg => fun a ha => by
    rcases List.mem_append.mp ha with ha | ha
    · obtain ⟨w, hw, o, q⟩ := zh a ha
      refine ⟨w, hw, ?_⟩
      rw [adR_swap]
      exact ⟨okR_ad o ou, rn_together o ou q zg.down⟩
    · obtain ⟨w, hw, o, q⟩ := zg a ha
      refine ⟨w, hw, ?_⟩
      rw [adR_comm s u, adR_swap, adR_comm (adR u w) s]
      exact ⟨okR_ad os o, rn_together os o zh.down q⟩
/-! ### few enough for two houses of two kinds beside (plain Lean) -/
/-- parts may be exchanged -/
def Exch (U : List Int → Prop) : Prop := ∀ a b c d a' b' c' d' : Int, Ok4 [a, b, c, d] → Ok4 [a', b', c', d'] → U [a, b, c, d] → U [a', b', c', d'] → U [a, b, c', d']
def In4 (t : Int) (x : List Int) : Prop := ∃ a b c d : Int, x = [a, b, c, d] ∧ (0 ≤ a ∧ a ≤ t) ∧ (0 ≤ b ∧ b ≤ t) ∧ (0 ≤ c ∧ c ≤ t) ∧ (0 ≤ d ∧ d ≤ t)
theorem canon_le {M : List (List Int)} {U : List Int → Prop} (c : Canon M U) {m z : List Int} (hm : m ∈ M) (oz : Ok4 z) (u : U z) (l : le4 z m = true) : z = m := by
  obtain ⟨y, hy, ly⟩ := (c.up z oz).mpr u
  have e := c.anti y hy m hm (le4_trans ly l)
  subst e
  exact le4_anti l ly
theorem canon_u {M : List (List Int)} {U : List Int → Prop} (c : Canon M U) {m : List Int} (hm : m ∈ M) : U m := (c.up m (c.ok m hm)).mp ⟨m, hm, le4_refl (c.ok m hm)⟩
/-- the third number tells the fourth -/
theorem exch_third {M : List (List Int)} {U : List Int → Prop} (e : Exch U) (c : Canon M U) {a b x d a' b' d' : Int} (hm : [a, b, x, d] ∈ M) (hm' : [a', b', x, d'] ∈ M) : d = d' := by
  have key : ∀ {a b d a' b' d' : Int}, [a, b, x, d] ∈ M → [a', b', x, d'] ∈ M → d ≤ d' → d = d' := fun {a b d a' b' d'} hm hm' l => by
    obtain ⟨_, _, _, _, e1, p1, p2, p3, p4⟩ := c.ok _ hm
    cases e1
    obtain ⟨_, _, _, _, e2, q1, q2, q3, q4⟩ := c.ok _ hm'
    cases e2
    have u := e a' b' x d' a b x d ⟨_, _, _, _, rfl, q1, q2, q3, q4⟩ ⟨_, _, _, _, rfl, p1, p2, p3, p4⟩ (canon_u c hm') (canon_u c hm)
    have := canon_le c hm' ⟨_, _, _, _, rfl, q1, q2, p3, p4⟩ u (le4_iff.mpr ⟨Int.le_refl _, Int.le_refl _, Int.le_refl _, l⟩)
    injection this with _ this
    injection this with _ this
    injection this with _ this
    injection this
  rcases Int.le_total d d' with l | l
  · exact key hm hm' l
  · exact (key hm' hm l).symm
theorem exch_first {M : List (List Int)} {U : List Int → Prop} (e : Exch U) (c : Canon M U) {x b u d b' u' d' : Int} (hm : [x, b, u, d] ∈ M) (hm' : [x, b', u', d'] ∈ M) : b = b' := by
  have key : ∀ {b u d b' u' d' : Int}, [x, b, u, d] ∈ M → [x, b', u', d'] ∈ M → b ≤ b' → b = b' := fun {b u d b' u' d'} hm hm' l => by
    obtain ⟨_, _, _, _, e1, p1, p2, p3, p4⟩ := c.ok _ hm
    cases e1
    obtain ⟨_, _, _, _, e2, q1, q2, q3, q4⟩ := c.ok _ hm'
    cases e2
    have w := e x b u d x b' u' d' ⟨_, _, _, _, rfl, p1, p2, p3, p4⟩ ⟨_, _, _, _, rfl, q1, q2, q3, q4⟩ (canon_u c hm) (canon_u c hm')
    have := canon_le c hm' ⟨_, _, _, _, rfl, p1, p2, q3, q4⟩ w (le4_iff.mpr ⟨Int.le_refl _, l, Int.le_refl _, Int.le_refl _⟩)
    injection this with _ this
    injection this
  rcases Int.le_total b b' with l | l
  · exact key hm hm' l
  · exact (key hm' hm l).symm
/-- at most so many as the pairs of first and third numbers -/
theorem exch_len {M : List (List Int)} {U : List Int → Prop} {t : Int} (e : Exch U) (c : Canon M U) (hM : ∀ x ∈ M, In4 t x) : M.length ≤ (t.toNat + 1) * (t.toNat + 1) := by
  let q : List Int → List Int := fun x => [x.getD 0 0, x.getD 2 0]
  have nd : (M.map q).Nodup := by
    refine List.pairwise_map.mpr (List.Pairwise.imp_of_mem (fun {x y} hx hy ne e' => ne ?_) (canon_nodup c))
    obtain ⟨a, b, u, d, rfl, _⟩ := hM x hx
    obtain ⟨a', b', u', d', rfl, _⟩ := hM y hy
    have e1 : a = a' := by injection e'
    have e2 : u = u' := by injection e' with _ e'; injection e'
    subst e1 e2
    rw [exch_first e c hx hy, exch_third e c hx hy]
  have := sub_len (m := (List.range (t.toNat + 1)).flatMap fun i : Nat => (List.range (t.toNat + 1)).map fun j : Nat => [(i : Int), (j : Int)]) nd fun z hz => by
    obtain ⟨x, hx, rfl⟩ := List.mem_map.mp hz
    obtain ⟨a, b, u, d, rfl, ha, _, hu, _⟩ := hM x hx
    refine List.mem_flatMap.mpr ⟨a.toNat, List.mem_range.mpr (by omega), List.mem_map.mpr ⟨u.toNat, List.mem_range.mpr (by omega), ?_⟩⟩
    show [((a.toNat : Nat) : Int), ((u.toNat : Nat) : Int)] = [a, u]
    rw [Int.toNat_of_nonneg ha.1, Int.toNat_of_nonneg hu.1]
  rw [List.length_map, boxflat_len (q := t.toNat + 1) fun i => by rw [List.length_map, List.length_range], List.length_range] at this
  exact this
/-- joins that are least keep the second part -/
theorem jb22 {A N : List (List Int)} {t : Int} (hA : ∀ s ∈ A, In4 t s) (hN : ∀ s ∈ N, In4 t s) (one : ∀ a b x d a' b' d' : Int, [a, b, x, d] ∈ A → [a', b', x, d'] ∈ A → d = d')
    (low : ∀ a b c d e f g i : Int, [a, b, c, d] ∈ A → [e, f, g, i] ∈ N → UpS N [e, f, c, d]) (few : (t.toNat + 1) * ((t.toNat + 1) * (t.toNat + 1)) < 4096) : JB A N := by
  let pk : Nat → Int := fun k => ((A.find? fun m => m.getD 2 0 == (k : Int)).getD []).getD 3 0
  have pick : ∀ {a b c d : Int}, [a, b, c, d] ∈ A → pk c.toNat = d := fun {a b c d} h => by
    obtain ⟨_, _, _, _, e, _, _, hc, _⟩ := hA _ h
    cases e
    have ec : ((c.toNat : Nat) : Int) = c := Int.toNat_of_nonneg hc.1
    show ((A.find? fun m => m.getD 2 0 == ((c.toNat : Nat) : Int)).getD []).getD 3 0 = d
    rw [ec]
    cases e : A.find? fun m => m.getD 2 0 == c with
    | none =>
      have := List.find?_eq_none.mp e _ h
      exact absurd (by show (c == c) = true; exact beq_self_eq_true c) this
    | some m =>
      have mm := List.mem_of_find?_eq_some e
      have pm := List.find?_some e
      obtain ⟨a', b', c', d', rfl, _⟩ := hA m mm
      have : c' = c := by
        have : (c' == c) = true := pm
        exact eq_of_beq this
      subst this
      exact one _ _ _ _ _ _ _ mm h
  have inU : ∀ {p q c d a b : Int}, (0 ≤ p ∧ p ≤ t) → (0 ≤ q ∧ q ≤ t) → [a, b, c, d] ∈ A → [p, q, c, d] ∈ (List.range (t.toNat + 1)).flatMap fun i : Nat => (List.range (t.toNat + 1)).flatMap fun j : Nat => (List.range (t.toNat + 1)).map fun k : Nat => [(i : Int), (j : Int), (k : Int), pk k] := fun {p q c d a b} hp hq h => by
    obtain ⟨_, _, _, _, e, _, _, hc, _⟩ := hA _ h
    cases e
    refine List.mem_flatMap.mpr ⟨p.toNat, List.mem_range.mpr (by omega), List.mem_flatMap.mpr ⟨q.toNat, List.mem_range.mpr (by omega), List.mem_map.mpr ⟨c.toNat, List.mem_range.mpr (by omega), ?_⟩⟩⟩
    show [((p.toNat : Nat) : Int), ((q.toNat : Nat) : Int), ((c.toNat : Nat) : Int), pk c.toNat] = [p, q, c, d]
    rw [Int.toNat_of_nonneg hp.1, Int.toNat_of_nonneg hq.1, Int.toNat_of_nonneg hc.1, pick h]
  refine ⟨((List.range (t.toNat + 1)).flatMap fun i : Nat => (List.range (t.toNat + 1)).flatMap fun j : Nat => (List.range (t.toNat + 1)).map fun k : Nat => [(i : Int), (j : Int), (k : Int), pk k]), ?_, fun s hs => ?_, fun s hs m hm min => ?_⟩
  · rw [boxflat_len (q := (t.toNat + 1) * (t.toNat + 1)) fun i => by rw [boxflat_len (q := t.toNat + 1) fun j => by rw [List.length_map, List.length_range], List.length_range], List.length_range]
    exact few
  · obtain ⟨a, b, c, d, rfl, ha, hb, hc, hd⟩ := hA s hs
    exact inU ha hb hs
  · obtain ⟨n, hn, rfl⟩ := List.mem_map.mp hm
    obtain ⟨a, b, c, d, rfl, ha, hb, hc, hd⟩ := hA s hs
    obtain ⟨e, f, g, i, rfl, he, hf, hg, hi⟩ := hN n hn
    obtain ⟨y, hy, ly⟩ := low _ _ _ _ _ _ _ _ hs hn
    obtain ⟨e', f', g', i', rfl, he', hf', hg', hi'⟩ := hN y hy
    obtain ⟨l1, l2, l3, l4⟩ := le4_iff.mp ly
    have e1 : join4 [a, b, c, d] [e', f', g', i'] = [max a e', max b f', c, d] := by
      show [max a e', max b f', max c g', max d i'] = _
      rw [show max c g' = c by omega, show max d i' = d by omega]
    have e2 : join4 [a, b, c, d] [e, f, g, i] = [max a e, max b f, max c g, max d i] := rfl
    have := min _ (List.mem_map.mpr ⟨_, hy, rfl⟩) (by rw [e1, e2]; exact le4_iff.mpr ⟨by omega, by omega, by omega, by omega⟩)
    rw [← this, e1]
    exact inU (by omega) (by omega) hs
def sw4 (x : List Int) : List Int := [x.getD 2 0, x.getD 3 0, x.getD 0 0, x.getD 1 0]
theorem jb_sw {A N : List (List Int)} {t : Int} (hA : ∀ s ∈ A, In4 t s) (hN : ∀ s ∈ N, In4 t s) (j : JB (A.map sw4) (N.map sw4)) : JB A N := by
  obtain ⟨U, l, u1, u2⟩ := j
  have back : ∀ s, In4 t s → sw4 (sw4 s) = s := fun s h => by
    obtain ⟨a, b, c, d, rfl, _⟩ := h
    rfl
  have ej : ∀ s n, In4 t s → In4 t n → sw4 (join4 s n) = join4 (sw4 s) (sw4 n) := fun s n h1 h2 => by
    obtain ⟨a, b, c, d, rfl, _⟩ := h1
    obtain ⟨a', b', c', d', rfl, _⟩ := h2
    rfl
  have bj : ∀ s n, In4 t s → In4 t n → sw4 (sw4 (join4 s n)) = join4 s n := fun s n h1 h2 => by
    obtain ⟨a, b, c, d, rfl, _⟩ := h1
    obtain ⟨a', b', c', d', rfl, _⟩ := h2
    rfl
  refine ⟨U.map sw4, by rw [List.length_map]; exact l, fun s hs => ?_, fun s hs m hm min => ?_⟩
  · exact List.mem_map.mpr ⟨_, u1 _ (List.mem_map.mpr ⟨s, hs, rfl⟩), back s (hA s hs)⟩
  · obtain ⟨n, hn, rfl⟩ := List.mem_map.mp hm
    have is := hA s hs
    have i2 := hN n hn
    refine List.mem_map.mpr ⟨_, u2 _ (List.mem_map.mpr ⟨s, hs, rfl⟩) (join4 (sw4 s) (sw4 n)) (List.mem_map.mpr ⟨_, List.mem_map.mpr ⟨n, hn, rfl⟩, rfl⟩) fun y hy ly => ?_, by rw [← ej s n is i2, bj s n is i2]⟩
    obtain ⟨z, hz, rfl⟩ := List.mem_map.mp hy
    obtain ⟨n', hn', rfl⟩ := List.mem_map.mp hz
    have i3 := hN n' hn'
    rw [← ej s n' is i3, ← ej s n is i2] at ly ⊢
    have := min _ (List.mem_map.mpr ⟨n', hn', rfl⟩) (by
      obtain ⟨a, b, c, d, rfl, _⟩ := is
      obtain ⟨a1, b1, c1, d1, rfl, _⟩ := i2
      obtain ⟨a2, b2, c2, d2, rfl, _⟩ := i3
      have h := le4_iff.mp (show le4 [max c c2, max d d2, max a a2, max b b2] [max c c1, max d d1, max a a1, max b b1] = true from ly)
      exact show le4 [max a a2, max b b2, max c c2, max d d2] [max a a1, max b b1, max c c1, max d d1] = true from le4_iff.mpr ⟨h.2.2.1, h.2.2.2, h.1, h.2.1⟩)
    rw [this]
theorem beside_len {h g : Asks} {kd kg : Nat} (hl : ∀ a ∈ h, ∀ l ∈ a, l.length = kd) (gl : ∀ a ∈ g, ∀ l ∈ a, l.length = kg) : ∀ a ∈ besideH kd kg h g, ∀ l ∈ a, l.length = kd + kg := fun a ha l hm => by
  rcases List.mem_append.mp ha with ha | ha
  · obtain ⟨a0, ha0, rfl⟩ := List.mem_map.mp ha
    obtain ⟨w, hw, rfl⟩ := List.mem_map.mp hm
    unfold behW
    rw [List.length_append, List.length_replicate, hl a0 ha0 w hw]
  · obtain ⟨a0, ha0, rfl⟩ := List.mem_map.mp ha
    obtain ⟨w, hw, rfl⟩ := List.mem_map.mp hm
    unfold aheW
    rw [List.length_append, List.length_replicate, gl a0 ha0 w hw]
/-- two houses of two kinds beside: few enough -/
theorem few_beside {h g : Asks} {n : Nat} {s t : Int} (W : Ways4 (asks4 (besideH 2 2 h g)) s s s s) (hst : s * n ≤ t) (hl : ∀ a ∈ h, ∀ l ∈ a, l.length = 2) (gl : ∀ a ∈ g, ∀ l ∈ a, l.length = 2)
    (b1 : (t.toNat + 1) * (t.toNat + 1) * 5 < 4096) (b2 : (t.toNat + 1) * (t.toNat + 1) * ((t.toNat + 1) * (t.toNat + 1) + 1) ≤ 100000) (b3 : (t.toNat + 1) * ((t.toNat + 1) * (t.toNat + 1)) < 4096) : FewP none (oneR (asks4 (besideH 2 2 h g))) n := fun j hj => by
  have bl := beside_len hl gl
  obtain ⟨B, eB⟩ : ∃ B, B = besideH 2 2 h g := ⟨_, rfl⟩
  have s0 := W.p1
  have u1 : s * ((j + 1 : Nat) : Int) ≤ s * n := Int.mul_le_mul_of_nonneg_left (by omega) s0
  have u0 : s * (j : Int) ≤ s * n := Int.mul_le_mul_of_nonneg_left (by omega) s0
  have t0 : 0 ≤ t := Int.le_trans (Int.mul_nonneg s0 (by omega : (0 : Int) ≤ (j : Int))) (Int.le_trans u0 hst)
  have lnx : ∀ {a b c d : Int}, Ok4 [a, b, c, d] → (LN (asks4 B) j [a, b, c, d] ↔ RN h j [a, b] ∧ RN g j [c, d]) := fun {a b c d} o => by
    obtain ⟨_, _, _, _, e, p1, p2, p3, p4⟩ := o
    cases e
    have := rn_ln (h := besideH 2 2 h g) (kd := 4) (Nat.le_refl _) bl (n := j) (s := [a, b, c, d]) rfl
    rw [eB]
    refine Iff.trans this (rn_beside (s := [a, b]) (u := [c, d]) hl gl rfl rfl (fun z hz => ?_) fun z hz => ?_) <;>
    · simp only [List.mem_cons, List.not_mem_nil, or_false] at hz
      omega
  have ndx : ∀ b4 ∈ asks4 B, (∃ P : List Int → Prop, ∀ {a b c d : Int}, Ok4 [a, b, c, d] → (Nd (asks4 B) j b4 [a, b, c, d] ↔ P [a, b] ∧ RN g j [c, d])) ∨ (∃ P : List Int → Prop, ∀ {a b c d : Int}, Ok4 [a, b, c, d] → (Nd (asks4 B) j b4 [a, b, c, d] ↔ RN h j [a, b] ∧ P [c, d])) := fun b4 hb4 => by
    rw [eB] at hb4 ⊢
    obtain ⟨b0, hb0, rfl⟩ := List.mem_map.mp hb4
    have base := fun {a b c d : Int} => nd_rn (h := besideH 2 2 h g) (kd := 4) (Nat.le_refl _) bl (n := j) (s := [a, b, c, d]) rfl hb0
    rcases List.mem_append.mp hb0 with m | m
    · obtain ⟨a0, ha0, rfl⟩ := List.mem_map.mp m
      refine .inl ⟨RNd h j a0, fun {a b c d} o => ?_⟩
      obtain ⟨_, _, _, _, e, p1, p2, p3, p4⟩ := o
      cases e
      refine Iff.trans base (rnd_beside1 (s := [a, b]) (u := [c, d]) hl gl rfl rfl (fun z hz => ?_) ha0)
      simp only [List.mem_cons, List.not_mem_nil, or_false] at hz
      omega
    · obtain ⟨a0, ha0, rfl⟩ := List.mem_map.mp m
      refine .inr ⟨RNd g j a0, fun {a b c d} o => ?_⟩
      obtain ⟨_, _, _, _, e, p1, p2, p3, p4⟩ := o
      cases e
      refine Iff.trans base (rnd_beside2 (s := [a, b]) (u := [c, d]) hl gl rfl rfl (fun z hz => ?_) ha0)
      simp only [List.mem_cons, List.not_mem_nil, or_false] at hz
      omega
  rw [← eB] at W ⊢
  have mix : ∀ {a b c d a' b' c' d' : Int}, Ok4 [a, b, c, d] → Ok4 [a', b', c', d'] → Ok4 [a, b, c', d'] := fun {a b c d a' b' c' d'} o o' => by
    obtain ⟨_, _, _, _, e, p1, p2, p3, p4⟩ := o
    cases e
    obtain ⟨_, _, _, _, e, q1, q2, q3, q4⟩ := o'
    cases e
    exact ⟨_, _, _, _, rfl, p1, p2, q3, q4⟩
  have exL : Exch (LN (asks4 B) j) := fun a b c d a' b' c' d' o o' z z' => (lnx (mix o o')).mpr ⟨((lnx o).mp z).1, ((lnx o').mp z').2⟩
  have exN : ∀ b ∈ asks4 B, Exch (Nd (asks4 B) j b) := fun b hb a b' c d a' b'' c' d' o o' z z' => by
    rcases ndx b hb with ⟨P, hP⟩ | ⟨P, hP⟩
    · exact (hP (mix o o')).mpr ⟨((hP o).mp z).1, ((hP o').mp z').2⟩
    · exact (hP (mix o o')).mpr ⟨((hP o).mp z).1, ((hP o').mp z').2⟩
  have exU : ∀ bs : Asks, (∀ b ∈ bs, b ∈ asks4 B) → Exch (fun x => LN (asks4 B) j x ∧ ∀ a ∈ bs, Nd (asks4 B) j a x) := fun bs hbs a b c d a' b' c' d' o o' z z' => ⟨exL _ _ _ _ _ _ _ _ o o' z.1 z'.1, fun q hq => exN q (hbs q hq) _ _ _ _ _ _ _ _ o o' (z.2 q hq) (z'.2 q hq)⟩
  have ndc : ∀ a ∈ asks4 B, ∀ x, Ok4 x → Nd (asks4 B) j a x → Nd (asks4 B) j a (clip4 [t, t, t, t] x) := fun a ha x hx h => nd_clip W (ln_clip W j) ha hx (by omega) (by omega) (by omega) (by omega) h
  have lnc : ∀ x, Ok4 x → LN (asks4 B) j x → LN (asks4 B) j (clip4 [t, t, t, t] x) := fun x hx h => ln_clip W j hx (by omega) (by omega) (by omega) (by omega) h
  have cl : ∀ bs : Asks, (∀ b ∈ bs, b ∈ asks4 B) → ∀ x, Ok4 x → (LN (asks4 B) j x ∧ ∀ a ∈ bs, Nd (asks4 B) j a x) → (LN (asks4 B) j (clip4 [t, t, t, t] x) ∧ ∀ a ∈ bs, Nd (asks4 B) j a (clip4 [t, t, t, t] x)) := fun bs hbs x hx h => ⟨lnc x hx h.1, fun a ha => ndc a (hbs a ha) x hx (h.2 a ha)⟩
  have in4 : ∀ {M : List (List Int)} {U : List Int → Prop}, Canon M U → (∀ x, Ok4 x → U x → U (clip4 [t, t, t, t] x)) → ∀ x ∈ M, In4 t x := fun c hc x hx => by
    obtain ⟨a, b, cc, d, rfl, p1, p2, p3, p4⟩ := canon_box c t0 t0 t0 t0 hc x hx
    exact ⟨a, b, cc, d, rfl, p1, p2, p3, p4⟩
  have back : ∀ {as : List PAsk}, (∀ a ∈ as, a ∈ roomAt (oneR (asks4 B)) 0) → ∀ {M : List (List Int)}, Canon M (fun x => PB none (oneR (asks4 B)) j 0 x ∧ ∀ a ∈ as, NdB none (PB none (oneR (asks4 B)) j) a x) → ∃ bs : Asks, (∀ b ∈ bs, b ∈ asks4 B) ∧ Canon M (fun x => LN (asks4 B) j x ∧ ∀ a ∈ bs, Nd (asks4 B) j a x) := fun {as} sub {M} cM => by
    rw [roomAt_one] at sub
    obtain ⟨bs, hbs, rfl⟩ := sub_map sub
    refine ⟨bs, hbs, cM.congr fun x hx => ?_⟩
    rw [pb_one hx]
    refine and_congr Iff.rfl ⟨fun h b hb => (nd_ln hx).mp (h _ (List.mem_map.mpr ⟨b, hb, rfl⟩)), fun h a ha => ?_⟩
    obtain ⟨b, hb, rfl⟩ := List.mem_map.mp ha
    exact (nd_ln hx).mpr (h b hb)
  have backN : ∀ {a : PAsk}, a ∈ roomAt (oneR (asks4 B)) 0 → ∀ {M : List (List Int)}, Canon M (NdB none (PB none (oneR (asks4 B)) j) a) → ∃ b ∈ asks4 B, Canon M (Nd (asks4 B) j b) := fun {a} ha {M} cM => by
    rw [roomAt_one] at ha
    obtain ⟨b, hb, rfl⟩ := List.mem_map.mp ha
    exact ⟨b, hb, cM.congr fun x hx => nd_ln hx⟩
  refine ⟨(t.toNat + 1) * (t.toNat + 1), b1, fun r hr as sub M cM => ?_, (t.toNat + 1) * (t.toNat + 1), b2, by omega, fun r hr a ha M cM => ?_, fun r hr as sub a ha M N cM cN => ?_⟩
  · obtain rfl : r = 0 := by have : r < 1 := hr; omega
    obtain ⟨bs, hbs, cM⟩ := back sub cM
    exact exch_len (exU bs hbs) cM (in4 cM (cl bs hbs))
  · obtain rfl : r = 0 := by have : r < 1 := hr; omega
    obtain ⟨b, hb, cM⟩ := backN ha cM
    exact exch_len (exN b hb) cM (in4 cM (ndc b hb))
  · obtain rfl : r = 0 := by have : r < 1 := hr; omega
    obtain ⟨bs, hbs, cM⟩ := back sub cM
    obtain ⟨b, hb, cN⟩ := backN ha cN
    have iM := in4 cM (cl bs hbs)
    have iN := in4 cN (ndc b hb)
    have ex := exU bs hbs
    rcases ndx b hb with ⟨P, hP⟩ | ⟨P, hP⟩
    · refine jb22 iM iN (fun a b x d a' b' d' m m' => exch_third ex cM m m') (fun a b c d e f g i m m' => ?_) b3
      have o := cM.ok _ m
      have o' := cN.ok _ m'
      exact (cN.up _ (mix o' o)).mpr ((hP (mix o' o)).mpr ⟨((hP o').mp (canon_u cN m')).1, ((lnx o).mp (canon_u cM m).1).2⟩)
    · have back4 : ∀ {X : List (List Int)}, (∀ s ∈ X, In4 t s) → ∀ {a b c d : Int}, [a, b, c, d] ∈ X.map sw4 → [c, d, a, b] ∈ X := fun {X} hX {a b c d} m => by
        obtain ⟨x, hx, e⟩ := List.mem_map.mp m
        obtain ⟨a1, b1, c1, d1, rfl, _⟩ := hX x hx
        cases e
        exact hx
      have isw : ∀ {X : List (List Int)}, (∀ s ∈ X, In4 t s) → ∀ s ∈ X.map sw4, In4 t s := fun {X} hX s hs => by
        obtain ⟨x, hx, rfl⟩ := List.mem_map.mp hs
        obtain ⟨a1, b1, c1, d1, rfl, q1, q2, q3, q4⟩ := hX x hx
        exact ⟨c1, d1, a1, b1, rfl, q3, q4, q1, q2⟩
      refine jb_sw iM iN (jb22 (isw iM) (isw iN) (fun a b x d a' b' d' m m' => exch_first ex cM (back4 iM m) (back4 iM m')) (fun a b c d e f g i m m' => ?_) b3)
      have m := back4 iM m
      have m' := back4 iN m'
      have o := cM.ok _ m
      have o' := cN.ok _ m'
      obtain ⟨y, hy, ly⟩ := (cN.up _ (mix o o')).mpr ((hP (mix o o')).mpr ⟨((lnx o).mp (canon_u cM m).1).1, ((hP o').mp (canon_u cN m')).2⟩)
      refine ⟨sw4 y, List.mem_map.mpr ⟨y, hy, rfl⟩, ?_⟩
      obtain ⟨a1, b1, c1, d1, rfl, _⟩ := iN y hy
      obtain ⟨l1, l2, l3, l4⟩ := le4_iff.mp ly
      exact show le4 [c1, d1, a1, b1] [e, f, c, d] = true from le4_iff.mpr ⟨l3, l4, l1, l2⟩
/-- houses of two kinds -/
theorem few2 {asks : Asks} {s t : Int} (W : Ways4 asks s s 0 0) {n : Nat} (h : s * n ≤ t) (b1 : (t.toNat + 1) * (t.toNat + 1) < 4096) : FewP none (oneR asks) n := fun j hj => by
  have s0 := W.p1
  have u1 : s * ((j + 1 : Nat) : Int) ≤ s * n := Int.mul_le_mul_of_nonneg_left (by omega) s0
  have u0 : s * (j : Int) ≤ s * n := Int.mul_le_mul_of_nonneg_left (by omega) s0
  have t0 : 0 ≤ t := Int.le_trans (Int.mul_nonneg s0 (by omega : (0 : Int) ≤ (j : Int))) (Int.le_trans u0 h)
  have t63 : t.toNat + 1 ≤ 63 := by
    by_cases c : t.toNat + 1 ≤ 63
    · exact c
    · have : 64 * 64 ≤ (t.toNat + 1) * (t.toNat + 1) := Nat.mul_le_mul (by omega) (by omega)
      omega
  have ndc : ∀ a ∈ asks, ∀ x, Ok4 x → Nd asks j a x → Nd asks j a (clip4 [t, t, 0, 0] x) := fun a ha x hx h => nd_clip W (ln_clip W j) ha hx (by omega) (by omega) (by omega) (by omega) h
  have lnc : ∀ x, Ok4 x → LN asks j x → LN asks j (clip4 [t, t, 0, 0] x) := fun x hx h => ln_clip W j hx (by omega) (by omega) (by omega) (by omega) h
  have cl : ∀ bs : Asks, (∀ b ∈ bs, b ∈ asks) → ∀ x, Ok4 x → (LN asks j x ∧ ∀ a ∈ bs, Nd asks j a x) → (LN asks j (clip4 [t, t, 0, 0] x) ∧ ∀ a ∈ bs, Nd asks j a (clip4 [t, t, 0, 0] x)) := fun bs hbs x hx h => ⟨lnc x hx h.1, fun a ha => ndc a (hbs a ha) x hx (h.2 a ha)⟩
  have in2 : ∀ {M : List (List Int)} {U : List Int → Prop}, Canon M U → (∀ x, Ok4 x → U x → U (clip4 [t, t, 0, 0] x)) → ∀ x ∈ M, ∃ a b : Int, x = [a, b, 0, 0] ∧ (0 ≤ a ∧ a ≤ t) ∧ (0 ≤ b ∧ b ≤ t) := fun c hc x hx => by
    obtain ⟨a, b, cc, d, rfl, p1, p2, p3, p4⟩ := canon_box c t0 t0 (Int.le_refl 0) (Int.le_refl 0) hc x hx
    exact ⟨a, b, by rw [show cc = 0 by omega, show d = 0 by omega], p1, p2⟩
  have len2 : ∀ {M : List (List Int)} {U : List Int → Prop}, Canon M U → (∀ x, Ok4 x → U x → U (clip4 [t, t, 0, 0] x)) → M.length ≤ t.toNat + 1 := fun {M U} c hc => by
    have nd : (M.map fun x => x.getD 0 0).Nodup := by
      refine List.pairwise_map.mpr (List.Pairwise.imp_of_mem (fun {x y} hx hy ne e' => ne ?_) (canon_nodup c))
      obtain ⟨a, b, rfl, _⟩ := in2 c hc x hx
      obtain ⟨a', b', rfl, _⟩ := in2 c hc y hy
      have e1 : a = a' := e'
      subst e1
      rcases Int.le_total b b' with l | l
      · exact c.anti _ hx _ hy (le4_iff.mpr ⟨Int.le_refl _, l, Int.le_refl _, Int.le_refl _⟩)
      · exact (c.anti _ hy _ hx (le4_iff.mpr ⟨Int.le_refl _, l, Int.le_refl _, Int.le_refl _⟩)).symm
    have := sub_len (m := (List.range (t.toNat + 1)).map fun i : Nat => (i : Int)) nd fun z hz => by
      obtain ⟨x, hx, rfl⟩ := List.mem_map.mp hz
      obtain ⟨a, b, rfl, ha, _⟩ := in2 c hc x hx
      exact List.mem_map.mpr ⟨a.toNat, List.mem_range.mpr (by omega), Int.toNat_of_nonneg ha.1⟩
    rw [List.length_map, List.length_map, List.length_range] at this
    exact this
  have back : ∀ {as : List PAsk}, (∀ a ∈ as, a ∈ roomAt (oneR asks) 0) → ∀ {M : List (List Int)}, Canon M (fun x => PB none (oneR asks) j 0 x ∧ ∀ a ∈ as, NdB none (PB none (oneR asks) j) a x) → ∃ bs : Asks, (∀ b ∈ bs, b ∈ asks) ∧ Canon M (fun x => LN asks j x ∧ ∀ a ∈ bs, Nd asks j a x) := fun {as} sub {M} cM => by
    rw [roomAt_one] at sub
    obtain ⟨bs, hbs, rfl⟩ := sub_map sub
    refine ⟨bs, hbs, cM.congr fun x hx => ?_⟩
    rw [pb_one hx]
    refine and_congr Iff.rfl ⟨fun h b hb => (nd_ln hx).mp (h _ (List.mem_map.mpr ⟨b, hb, rfl⟩)), fun h a ha => ?_⟩
    obtain ⟨b, hb, rfl⟩ := List.mem_map.mp ha
    exact (nd_ln hx).mpr (h b hb)
  have backN : ∀ {a : PAsk}, a ∈ roomAt (oneR asks) 0 → ∀ {M : List (List Int)}, Canon M (NdB none (PB none (oneR asks) j) a) → ∃ b ∈ asks, Canon M (Nd asks j b) := fun {a} ha {M} cM => by
    rw [roomAt_one] at ha
    obtain ⟨b, hb, rfl⟩ := List.mem_map.mp ha
    exact ⟨b, hb, cM.congr fun x hx => nd_ln hx⟩
  refine ⟨t.toNat + 1, by omega, fun r hr as sub M cM => ?_, t.toNat + 1, ?_, by omega, fun r hr a ha M cM => ?_, fun r hr as sub a ha M N cM cN => ?_⟩
  · obtain rfl : r = 0 := by have : r < 1 := hr; omega
    obtain ⟨bs, hbs, cM⟩ := back sub cM
    exact len2 cM (cl bs hbs)
  · exact Nat.le_trans (Nat.mul_le_mul t63 (show t.toNat + 1 + 1 ≤ 64 by omega)) (by decide)
  · obtain rfl : r = 0 := by have : r < 1 := hr; omega
    obtain ⟨b, hb, cM⟩ := backN ha cM
    exact len2 cM (ndc b hb)
  · obtain rfl : r = 0 := by have : r < 1 := hr; omega
    obtain ⟨bs, hbs, cM⟩ := back sub cM
    obtain ⟨b, hb, cN⟩ := backN ha cN
    have iM := in2 cM (cl bs hbs)
    have iN := in2 cN (ndc b hb)
    have inU : ∀ {p q : Int}, (0 ≤ p ∧ p ≤ t) → (0 ≤ q ∧ q ≤ t) → [p, q, 0, 0] ∈ (List.range (t.toNat + 1)).flatMap fun i : Nat => (List.range (t.toNat + 1)).map fun k : Nat => [(i : Int), (k : Int), 0, 0] := fun {p q} hp hq => by
      refine List.mem_flatMap.mpr ⟨p.toNat, List.mem_range.mpr (by omega), List.mem_map.mpr ⟨q.toNat, List.mem_range.mpr (by omega), ?_⟩⟩
      show [((p.toNat : Nat) : Int), ((q.toNat : Nat) : Int), 0, 0] = [p, q, 0, 0]
      rw [Int.toNat_of_nonneg hp.1, Int.toNat_of_nonneg hq.1]
    refine ⟨((List.range (t.toNat + 1)).flatMap fun i : Nat => (List.range (t.toNat + 1)).map fun k : Nat => [(i : Int), (k : Int), 0, 0]), ?_, fun s hs => ?_, fun s hs m hm _ => ?_⟩
    · rw [boxflat_len (q := t.toNat + 1) fun i => by rw [List.length_map, List.length_range], List.length_range]
      exact b1
    · obtain ⟨a, b', rfl, ha', hb'⟩ := iM s hs
      exact inU ha' hb'
    · obtain ⟨y, hy, rfl⟩ := List.mem_map.mp hm
      obtain ⟨a, b', rfl, ha', hb'⟩ := iM s hs
      obtain ⟨c, d, rfl, hc', hd'⟩ := iN y hy
      show [max a c, max b' d, 0, 0] ∈ _
      exact inU (by omega) (by omega)
/-- a house of three kinds, each within a bound of its own -/
theorem fewBox {asks : Asks} {s1 s2 s3 t1 t2 t3 : Int} (W : Ways4 asks s1 s2 s3 0) {n : Nat} (h1 : s1 * n ≤ t1) (h2 : s2 * n ≤ t2) (h3 : s3 * n ≤ t3) (b1 : (t1.toNat + 1) * (t2.toNat + 1) * 5 < 4096)
    (b2 : (t1.toNat + 1) * (t2.toNat + 1) * ((t1.toNat + 1) * (t2.toNat + 1) + 1) ≤ 100000) (b3 : (t1.toNat + 1) * ((t2.toNat + 1) * (t3.toNat + 1)) < 4096) : FewP none (oneR asks) n := fun j hj => by
  have up : ∀ {s t : Int}, 0 ≤ s → s * n ≤ t → s * ((j + 1 : Nat) : Int) ≤ t ∧ s * (j : Int) ≤ t ∧ 0 ≤ t := fun {s t} s0 h => by
    have u1 : s * ((j + 1 : Nat) : Int) ≤ s * n := Int.mul_le_mul_of_nonneg_left (by omega) s0
    have u0 : s * (j : Int) ≤ s * n := Int.mul_le_mul_of_nonneg_left (by omega) s0
    have z : 0 ≤ s * (j : Int) := Int.mul_nonneg s0 (by omega)
    omega
  obtain ⟨p1, q1, r1⟩ := up W.p1 h1
  obtain ⟨p2, q2, r2⟩ := up W.p2 h2
  obtain ⟨p3, q3, r3⟩ := up W.p3 h3
  have ndc : ∀ a ∈ asks, ∀ x, Ok4 x → Nd asks j a x → Nd asks j a (clip4 [t1, t2, t3, 0] x) := fun a ha x hx h => nd_clip W (ln_clip W j) ha hx p1 p2 p3 (by omega) h
  have lnc : ∀ x, Ok4 x → LN asks j x → LN asks j (clip4 [t1, t2, t3, 0] x) := fun x hx h => ln_clip W j hx q1 q2 q3 (by omega) h
  have cl : ∀ bs : Asks, (∀ b ∈ bs, b ∈ asks) → ∀ x, Ok4 x → (LN asks j x ∧ ∀ a ∈ bs, Nd asks j a x) → (LN asks j (clip4 [t1, t2, t3, 0] x) ∧ ∀ a ∈ bs, Nd asks j a (clip4 [t1, t2, t3, 0] x)) := fun bs hbs x hx h => ⟨lnc x hx h.1, fun a ha => ndc a (hbs a ha) x hx (h.2 a ha)⟩
  have in3 : ∀ {M : List (List Int)} {U : List Int → Prop}, Canon M U → (∀ x, Ok4 x → U x → U (clip4 [t1, t2, t3, 0] x)) → ∀ x ∈ M, ∃ a b c : Int, x = [a, b, c, 0] ∧ (0 ≤ a ∧ a ≤ t1) ∧ (0 ≤ b ∧ b ≤ t2) ∧ (0 ≤ c ∧ c ≤ t3) := fun c hc x hx => by
    obtain ⟨a, b, cc, d, rfl, p1, p2, p3, p4⟩ := canon_box c r1 r2 r3 (Int.le_refl 0) hc x hx
    exact ⟨a, b, cc, by rw [show d = 0 by omega], p1, p2, p3⟩
  have back : ∀ {as : List PAsk}, (∀ a ∈ as, a ∈ roomAt (oneR asks) 0) → ∀ {M : List (List Int)}, Canon M (fun x => PB none (oneR asks) j 0 x ∧ ∀ a ∈ as, NdB none (PB none (oneR asks) j) a x) → ∃ bs : Asks, (∀ b ∈ bs, b ∈ asks) ∧ Canon M (fun x => LN asks j x ∧ ∀ a ∈ bs, Nd asks j a x) := fun {as} sub {M} cM => by
    rw [roomAt_one] at sub
    obtain ⟨bs, hbs, rfl⟩ := sub_map sub
    refine ⟨bs, hbs, cM.congr fun x hx => ?_⟩
    rw [pb_one hx]
    refine and_congr Iff.rfl ⟨fun h b hb => (nd_ln hx).mp (h _ (List.mem_map.mpr ⟨b, hb, rfl⟩)), fun h a ha => ?_⟩
    obtain ⟨b, hb, rfl⟩ := List.mem_map.mp ha
    exact (nd_ln hx).mpr (h b hb)
  have backN : ∀ {a : PAsk}, a ∈ roomAt (oneR asks) 0 → ∀ {M : List (List Int)}, Canon M (NdB none (PB none (oneR asks) j) a) → ∃ b ∈ asks, Canon M (Nd asks j b) := fun {a} ha {M} cM => by
    rw [roomAt_one] at ha
    obtain ⟨b, hb, rfl⟩ := List.mem_map.mp ha
    exact ⟨b, hb, cM.congr fun x hx => nd_ln hx⟩
  refine ⟨(t1.toNat + 1) * (t2.toNat + 1), b1, fun r hr as sub M cM => ?_, (t1.toNat + 1) * (t2.toNat + 1), b2, by omega, fun r hr a ha M cM => ?_, fun r hr as sub a ha M N cM cN => ?_⟩
  · obtain rfl : r = 0 := by have : r < 1 := hr; omega
    obtain ⟨bs, hbs, cM⟩ := back sub cM
    exact canon_len cM r1 r2 r3 (cl bs hbs)
  · obtain rfl : r = 0 := by have : r < 1 := hr; omega
    obtain ⟨b, hb, cM⟩ := backN ha cM
    exact canon_len cM r1 r2 r3 (ndc b hb)
  · obtain rfl : r = 0 := by have : r < 1 := hr; omega
    obtain ⟨bs, hbs, cM⟩ := back sub cM
    obtain ⟨b, hb, cN⟩ := backN ha cN
    have iM := in3 cM (cl bs hbs)
    have iN := in3 cN (ndc b hb)
    have inU : ∀ {p q r : Int}, (0 ≤ p ∧ p ≤ t1) → (0 ≤ q ∧ q ≤ t2) → (0 ≤ r ∧ r ≤ t3) → [p, q, r, 0] ∈ (List.range (t1.toNat + 1)).flatMap fun i : Nat => (List.range (t2.toNat + 1)).flatMap fun j : Nat => (List.range (t3.toNat + 1)).map fun k : Nat => [(i : Int), (j : Int), (k : Int), 0] := fun {p q r} hp hq hr => by
      refine List.mem_flatMap.mpr ⟨p.toNat, List.mem_range.mpr (by omega), List.mem_flatMap.mpr ⟨q.toNat, List.mem_range.mpr (by omega), List.mem_map.mpr ⟨r.toNat, List.mem_range.mpr (by omega), ?_⟩⟩⟩
      show [((p.toNat : Nat) : Int), ((q.toNat : Nat) : Int), ((r.toNat : Nat) : Int), 0] = [p, q, r, 0]
      rw [Int.toNat_of_nonneg hp.1, Int.toNat_of_nonneg hq.1, Int.toNat_of_nonneg hr.1]
    refine ⟨((List.range (t1.toNat + 1)).flatMap fun i : Nat => (List.range (t2.toNat + 1)).flatMap fun j : Nat => (List.range (t3.toNat + 1)).map fun k : Nat => [(i : Int), (j : Int), (k : Int), 0]), ?_, fun s hs => ?_, fun s hs m hm _ => ?_⟩
    · rw [boxflat_len (q := (t2.toNat + 1) * (t3.toNat + 1)) fun i => by rw [boxflat_len (q := t3.toNat + 1) fun j => by rw [List.length_map, List.length_range], List.length_range], List.length_range]
      exact b3
    · obtain ⟨a, b', c, rfl, ha', hb', hc'⟩ := iM s hs
      exact inU ha' hb' hc'
    · obtain ⟨y, hy, rfl⟩ := List.mem_map.mp hm
      obtain ⟨a, b', c, rfl, ha', hb', hc'⟩ := iM s hs
      obtain ⟨d, e, f, rfl, hd', he', hf'⟩ := iN y hy
      show [max a d, max b' e, max c f, 0] ∈ _
      exact inU (by omega) (by omega) (by omega)
/-- enough of each kind lasts -/
theorem rn_rich {h : Asks} {kd : Nat} {s : Int} (s0 : 0 ≤ s) (ne : ∀ a ∈ h, a ≠ []) (hl : ∀ a ∈ h, ∀ l ∈ a, l.length = kd) (num : ∀ a ∈ h, ∀ l ∈ a, ∀ z ∈ l, -s ≤ z) : ∀ (n : Nat) (x : List Int), x.length = kd → (∀ z ∈ x, s * n ≤ z) → RN h n x
  | 0, _, _, _ => True.intro
  | n + 1, x, lx, hx => fun a ha => by
    match a, ne a ha, ha with
    | w :: r, _, ha =>
      have lw := hl _ ha w List.mem_cons_self
      have nw := num _ ha w List.mem_cons_self
      have s1 : s * ((n + 1 : Nat) : Int) = s * n + s := mul_up s n
      have sn : 0 ≤ s * (n : Int) := Int.mul_nonneg s0 (by omega)
      have all : ∀ z ∈ adR x w, s * (n : Int) ≤ z := fun z hz => by
        unfold adR at hz
        obtain ⟨i, hi, rfl⟩ := List.mem_iff_getElem.mp hz
        rw [List.length_zipWith] at hi
        rw [List.getElem_zipWith]
        have h1 := hx _ (List.getElem_mem (show i < x.length by omega))
        have h2 := nw _ (List.getElem_mem (show i < w.length by omega))
        omega
      exact ⟨w, List.mem_cons_self, fun z hz => Int.le_trans sn (all z hz), rn_rich s0 ne hl num n _ (by rw [adR_len (by omega), lx]) all⟩
/-! ### the least ones of houses put together (plain Lean) -/
theorem le4_app {kd kg : Nat} (d1 : 1 ≤ kd) (d2 : kd ≤ 2) (g1 : 1 ≤ kg) (g2 : kg ≤ 2) {s u s' u' : List Int} (ls : s.length = kd) (lu : u.length = kg) (ls' : s'.length = kd) (lu' : u'.length = kg) :
    le4 (four (s ++ u)) (four (s' ++ u')) = true ↔ le4 (four s) (four s') = true ∧ le4 (four u) (four u') = true := by
  have e1 : kd = 1 ∨ kd = 2 := by omega
  have e2 : kg = 1 ∨ kg = 2 := by omega
  rcases e1 with rfl | rfl <;> rcases e2 with rfl | rfl
  · match s, u, s', u', ls, lu, ls', lu' with
    | [a], [b], [c], [d], _, _, _, _ =>
      have h1 : le4 (four ([a] ++ [b])) (four ([c] ++ [d])) = true ↔ _ := le4_iff (a := a) (b := b) (c := 0) (d := 0) (e := c) (f := d) (g := 0) (h := 0)
      have h2 : le4 (four [a]) (four [c]) = true ↔ _ := le4_iff (a := a) (b := 0) (c := 0) (d := 0) (e := c) (f := 0) (g := 0) (h := 0)
      have h3 : le4 (four [b]) (four [d]) = true ↔ _ := le4_iff (a := b) (b := 0) (c := 0) (d := 0) (e := d) (f := 0) (g := 0) (h := 0)
      rw [h1, h2, h3]
      omega
  · match s, u, s', u', ls, lu, ls', lu' with
    | [a], [b, b2], [c], [d, d2], _, _, _, _ =>
      have h1 : le4 (four ([a] ++ [b, b2])) (four ([c] ++ [d, d2])) = true ↔ _ := le4_iff (a := a) (b := b) (c := b2) (d := 0) (e := c) (f := d) (g := d2) (h := 0)
      have h2 : le4 (four [a]) (four [c]) = true ↔ _ := le4_iff (a := a) (b := 0) (c := 0) (d := 0) (e := c) (f := 0) (g := 0) (h := 0)
      have h3 : le4 (four [b, b2]) (four [d, d2]) = true ↔ _ := le4_iff (a := b) (b := b2) (c := 0) (d := 0) (e := d) (f := d2) (g := 0) (h := 0)
      rw [h1, h2, h3]
      omega
  · match s, u, s', u', ls, lu, ls', lu' with
    | [a, a2], [b], [c, c2], [d], _, _, _, _ =>
      have h1 : le4 (four ([a, a2] ++ [b])) (four ([c, c2] ++ [d])) = true ↔ _ := le4_iff (a := a) (b := a2) (c := b) (d := 0) (e := c) (f := c2) (g := d) (h := 0)
      have h2 : le4 (four [a, a2]) (four [c, c2]) = true ↔ _ := le4_iff (a := a) (b := a2) (c := 0) (d := 0) (e := c) (f := c2) (g := 0) (h := 0)
      have h3 : le4 (four [b]) (four [d]) = true ↔ _ := le4_iff (a := b) (b := 0) (c := 0) (d := 0) (e := d) (f := 0) (g := 0) (h := 0)
      rw [h1, h2, h3]
      omega
  · match s, u, s', u', ls, lu, ls', lu' with
    | [a, a2], [b, b2], [c, c2], [d, d2], _, _, _, _ =>
      have h1 : le4 (four ([a, a2] ++ [b, b2])) (four ([c, c2] ++ [d, d2])) = true ↔ _ := le4_iff (a := a) (b := a2) (c := b) (d := b2) (e := c) (f := c2) (g := d) (h := d2)
      have h2 : le4 (four [a, a2]) (four [c, c2]) = true ↔ _ := le4_iff (a := a) (b := a2) (c := 0) (d := 0) (e := c) (f := c2) (g := 0) (h := 0)
      have h3 : le4 (four [b, b2]) (four [d, d2]) = true ↔ _ := le4_iff (a := b) (b := b2) (c := 0) (d := 0) (e := d) (f := d2) (g := 0) (h := 0)
      rw [h1, h2, h3]
      omega
/-- the least ones of a house, as lists of its kinds -/
structure LowsR (h : Asks) (kd n : Nat) (R : List (List Int)) : Prop where
  ok : ∀ r ∈ R, StK kd r
  can : Canon (R.map four) (LN (asks4 h) n)
  srt : R.Pairwise fun x y => HT.lexLt x y = true
theorem LowsR.rn {h : Asks} {kd n : Nat} {R : List (List Int)} (o : LowsR h kd n R) (k1 : 1 ≤ kd) (k4 : kd ≤ 4) (hl : ∀ a ∈ h, ∀ l ∈ a, l.length = kd) {s : List Int} (hs : StK kd s) : (∃ r ∈ R, le4 (four r) (four s) = true) ↔ RN h n s := by
  rw [← rn_ln k4 hl hs.1, ← o.can.up _ (hs.four k1 k4)]
  constructor
  · rintro ⟨r, hr, l⟩
    exact ⟨_, List.mem_map.mpr ⟨r, hr, rfl⟩, l⟩
  · rintro ⟨y, hy, l⟩
    obtain ⟨r, hr, rfl⟩ := List.mem_map.mp hy
    exact ⟨r, hr, l⟩
theorem LowsR.min {h : Asks} {kd n : Nat} {R : List (List Int)} (o : LowsR h kd n R) (k1 : 1 ≤ kd) (k4 : kd ≤ 4) (hl : ∀ a ∈ h, ∀ l ∈ a, l.length = kd) {r s : List Int} (hr : r ∈ R) (hs : StK kd s) (z : RN h n s) (l : le4 (four s) (four r) = true) : s = r := by
  have := canon_le o.can (List.mem_map.mpr ⟨r, hr, rfl⟩) (hs.four k1 k4) ((rn_ln k4 hl hs.1).mpr z) l
  exact stk_inj hs (o.ok r hr) this
theorem LowsR.self {h : Asks} {kd n : Nat} {R : List (List Int)} (o : LowsR h kd n R) (k1 : 1 ≤ kd) (k4 : kd ≤ 4) (hl : ∀ a ∈ h, ∀ l ∈ a, l.length = kd) {r : List Int} (hr : r ∈ R) : RN h n r :=
  (o.rn k1 k4 hl (o.ok r hr)).mp ⟨r, hr, le4_refl ((o.ok r hr).four k1 k4)⟩
theorem LowsR.uniq {h : Asks} {kd n : Nat} {R S : List (List Int)} (o : LowsR h kd n R) (p : LowsR h kd n S) : R = S := map_inj o.ok p.ok (o.can.uniq p.can)
/-- beside: just the pairs -/
theorem lows_beside {h g : Asks} {kd kg n : Nat} {R R1 R2 : List (List Int)} (d1 : 1 ≤ kd) (d2 : kd ≤ 2) (g1 : 1 ≤ kg) (g2 : kg ≤ 2) (hl : ∀ a ∈ h, ∀ l ∈ a, l.length = kd) (gl : ∀ a ∈ g, ∀ l ∈ a, l.length = kg)
    (o : LowsR (besideH kd kg h g) (kd + kg) n R) (o1 : LowsR h kd n R1) (o2 : LowsR g kg n R2) (x : List Int) : x ∈ R ↔ ∃ s ∈ R1, ∃ u ∈ R2, x = s ++ u := by
  have bl := beside_len hl gl
  have cut : ∀ x, StK (kd + kg) x → ∃ s u, x = s ++ u ∧ StK kd s ∧ StK kg u := fun x hx =>
    ⟨x.take kd, x.drop kd, (List.take_append_drop kd x).symm, ⟨by rw [List.length_take, hx.1]; omega, fun z hz => hx.2 z (List.mem_of_mem_take hz)⟩, ⟨by rw [List.length_drop, hx.1]; omega, fun z hz => hx.2 z (List.mem_of_mem_drop hz)⟩⟩
  have rnb : ∀ {s u}, StK kd s → StK kg u → (RN (besideH kd kg h g) n (s ++ u) ↔ RN h n s ∧ RN g n u) := fun hs hu => rn_beside hl gl hs.1 hu.1 hs.2 hu.2
  have stk : ∀ {s u}, StK kd s → StK kg u → StK (kd + kg) (s ++ u) := fun hs hu => ⟨by rw [List.length_append, hs.1, hu.1], fun z hz => (List.mem_append.mp hz).elim (hs.2 z) (hu.2 z)⟩
  constructor
  · intro hx
    obtain ⟨s, u, rfl, hs, hu⟩ := cut x (o.ok x hx)
    obtain ⟨zs, zu⟩ := (rnb hs hu).mp (o.self (by omega) (by omega) bl hx)
    obtain ⟨r1, m1, l1⟩ := (o1.rn d1 (by omega) hl hs).mpr zs
    obtain ⟨r2, m2, l2⟩ := (o2.rn g1 (by omega) gl hu).mpr zu
    have s1 := o1.ok r1 m1
    have s2 := o2.ok r2 m2
    have := o.min (by omega) (by omega) bl hx (stk s1 s2) ((rnb s1 s2).mpr ⟨o1.self d1 (by omega) hl m1, o2.self g1 (by omega) gl m2⟩) ((le4_app d1 d2 g1 g2 s1.1 s2.1 hs.1 hu.1).mpr ⟨l1, l2⟩)
    exact ⟨r1, m1, r2, m2, this.symm⟩
  · rintro ⟨r1, m1, r2, m2, rfl⟩
    have s1 := o1.ok r1 m1
    have s2 := o2.ok r2 m2
    obtain ⟨y, my, ly⟩ := (o.rn (by omega) (by omega) bl (stk s1 s2)).mpr ((rnb s1 s2).mpr ⟨o1.self d1 (by omega) hl m1, o2.self g1 (by omega) gl m2⟩)
    obtain ⟨s, u, rfl, hs, hu⟩ := cut y (o.ok y my)
    obtain ⟨zs, zu⟩ := (rnb hs hu).mp (o.self (by omega) (by omega) bl my)
    obtain ⟨l1, l2⟩ := (le4_app d1 d2 g1 g2 hs.1 hu.1 s1.1 s2.1).mp ly
    rw [← o1.min d1 (by omega) hl m1 hs zs l1, ← o2.min g1 (by omega) gl m2 hu zu l2]
    exact my
theorem lex_times {m : Int} (m1 : 1 ≤ m) : ∀ (a b : List Int), HT.lexLt (a.map (m * ·)) (b.map (m * ·)) = HT.lexLt a b
  | [], [] => rfl
  | [], _ :: _ => rfl
  | _ :: _, [] => rfl
  | x :: a, y :: b => by
    rw [List.map_cons, List.map_cons, HT.lexLt_cons, HT.lexLt_cons, lex_times m1 a b]
    by_cases e : x = y
    · rw [if_pos e, if_pos (by rw [e])]
    · have ne : ¬ m * x = m * y := fun z => e (Int.eq_of_mul_eq_mul_left (by omega) z)
      rw [if_neg e, if_neg ne, Bool.eq_iff_iff, decide_eq_true_iff, decide_eq_true_iff]
      exact Int.mul_lt_mul_left (by omega)
theorem le4_times {kd : Nat} {m : Int} (m1 : 1 ≤ m) (d1 : 1 ≤ kd) (d2 : kd ≤ 2) {s x : List Int} (ls : s.length = kd) (lx : x.length = kd) : le4 (four (s.map (m * ·))) (four x) = true ↔ le4 (four s) (four (x.map (· / m))) = true := by
  have key : ∀ a b : Int, m * a ≤ b ↔ a ≤ b / m := fun a b => by
    rw [Int.mul_comm]
    exact (Int.le_ediv_iff_mul_le (by omega)).symm
  have e1 : kd = 1 ∨ kd = 2 := by omega
  rcases e1 with rfl | rfl
  · match s, x, ls, lx with
    | [a], [b], _, _ =>
      have h1 : le4 (four ([a].map (m * ·))) (four [b]) = true ↔ _ := le4_iff (a := m * a) (b := 0) (c := 0) (d := 0) (e := b) (f := 0) (g := 0) (h := 0)
      have h2 : le4 (four [a]) (four ([b].map (· / m))) = true ↔ _ := le4_iff (a := a) (b := 0) (c := 0) (d := 0) (e := b / m) (f := 0) (g := 0) (h := 0)
      rw [h1, h2, key a b]
  · match s, x, ls, lx with
    | [a, a2], [b, b2], _, _ =>
      have h1 : le4 (four ([a, a2].map (m * ·))) (four [b, b2]) = true ↔ _ := le4_iff (a := m * a) (b := m * a2) (c := 0) (d := 0) (e := b) (f := b2) (g := 0) (h := 0)
      have h2 : le4 (four [a, a2]) (four ([b, b2].map (· / m))) = true ↔ _ := le4_iff (a := a) (b := a2) (c := 0) (d := 0) (e := b / m) (f := b2 / m) (g := 0) (h := 0)
      rw [h1, h2, key a b, key a2 b2]
theorem div_times {m : Int} (m1 : 1 ≤ m) : ∀ r : List Int, (r.map (m * ·)).map (· / m) = r
  | [] => rfl
  | a :: r => by
    rw [List.map_cons, List.map_cons, div_times m1 r, Int.mul_ediv_cancel_left _ (by omega)]
/-- so many times: just the multiples -/
theorem lows_times {h : Asks} {kd n : Nat} {m : Int} {R R2 : List (List Int)} (m1 : 1 ≤ m) (d1 : 1 ≤ kd) (d2 : kd ≤ 2) (hl : ∀ a ∈ h, ∀ l ∈ a, l.length = kd) (tl : ∀ a ∈ timesH m h, ∀ l ∈ a, l.length = kd)
    (o : LowsR (timesH m h) kd n R) (o2 : LowsR h kd n R2) : R = R2.map (List.map (m * ·)) := by
  have st : ∀ {r : List Int}, StK kd r → StK kd (r.map (m * ·)) := fun {r} hr => ⟨by rw [List.length_map, hr.1], fun z hz => by
    obtain ⟨x, hx, rfl⟩ := List.mem_map.mp hz
    exact Int.mul_nonneg (by omega) (hr.2 x hx)⟩
  have sd : ∀ {r : List Int}, StK kd r → StK kd (r.map (· / m)) := fun {r} hr => ⟨by rw [List.length_map, hr.1], fun z hz => by
    obtain ⟨x, hx, rfl⟩ := List.mem_map.mp hz
    exact Int.ediv_nonneg (hr.2 x hx) (by omega)⟩
  have rt : ∀ {r : List Int}, r ∈ R2 → RN (timesH m h) n (r.map (m * ·)) := fun {r} hr => by
    rw [rn_times m1, div_times m1]
    exact o2.self d1 (by omega) hl hr
  refine srt_eq o.srt (List.pairwise_map.mpr (o2.srt.imp fun {a b} l => by rw [lex_times m1]; exact l)) fun x => ?_
  constructor
  · intro hx
    have sx := o.ok x hx
    obtain ⟨r, hr, l⟩ := (o2.rn d1 (by omega) hl (sd sx)).mpr ((rn_times m1).mp (o.self d1 (by omega) tl hx))
    have sr := o2.ok r hr
    have := o.min d1 (by omega) tl hx (st sr) (rt hr) ((le4_times m1 d1 d2 sr.1 sx.1).mpr l)
    exact List.mem_map.mpr ⟨r, hr, this⟩
  · intro hx
    obtain ⟨r, hr, rfl⟩ := List.mem_map.mp hx
    have sr := o2.ok r hr
    obtain ⟨y, my, ly⟩ := (o.rn d1 (by omega) tl (st sr)).mpr (rt hr)
    have sy := o.ok y my
    have zy := (rn_times m1).mp (o.self d1 (by omega) tl my)
    -- the least one of the house below y / m is r itself
    obtain ⟨r', hr', l'⟩ := (o2.rn d1 (by omega) hl (sd sy)).mpr zy
    have sr' := o2.ok r' hr'
    have l1 := (le4_times m1 d1 d2 sr'.1 sy.1).mpr l'
    have l2 := le4_trans l1 ly
    have l3 := (le4_times m1 d1 d2 sr'.1 (st sr).1).mp l2
    rw [div_times m1] at l3
    have e := o2.min d1 (by omega) hl hr sr' (o2.self d1 (by omega) hl hr') l3
    subst e
    have := le4_anti l1 ly
    rw [stk_inj (st sr) sy this]
    exact my
theorem askS_sub46 {h g : Asks} (s : ∀ b ∈ g, ∃ a ∈ h, ∀ w ∈ a, w ∈ b) : ∀ b ∈ asks4 g, ∃ a ∈ asks4 h, ∀ w ∈ a, w ∈ b := fun b hb => by
  obtain ⟨b0, hb0, rfl⟩ := List.mem_map.mp hb
  obtain ⟨a0, ha0, sub⟩ := s b0 hb0
  refine ⟨_, List.mem_map.mpr ⟨a0, ha0, rfl⟩, fun w hw => ?_⟩
  obtain ⟨l, hl, rfl⟩ := List.mem_map.mp hw
  exact List.mem_map.mpr ⟨l, sub l hl, rfl⟩
/-- a house with itself is as it is -/
theorem lows_twice {h : Asks} {kd n : Nat} {R R2 : List (List Int)} (o : LowsR (h ++ h) kd n R) (o2 : LowsR h kd n R2) : R = R2 := by
  refine LowsR.uniq (h := h) ⟨o.ok, o.can.congr fun x hx => ⟨LN.sub (askS_sub46 fun b hb => ⟨b, List.mem_append_left _ hb, fun w hw => hw⟩), LN.sub (askS_sub46 fun b hb => ?_)⟩, o.srt⟩ o2
  rcases List.mem_append.mp hb with hb | hb <;> exact ⟨b, hb, fun w hw => hw⟩
/-! ### houses put together: what may be asked of them (plain Lean) -/
structure G72 (h : Asks) (kd : Nat) (s : Int) : Prop where
  ne : h ≠ []
  few : h.length ≤ 4
  ways : ∀ a ∈ h, a ≠ [] ∧ a.length ≤ 4
  len : ∀ a ∈ h, ∀ l ∈ a, l.length = kd
  num : ∀ a ∈ h, ∀ l ∈ a, ∀ z ∈ l, -s ≤ z ∧ z ≤ s
  k1 : 1 ≤ kd
  k4 : kd ≤ 4
  s0 : 0 ≤ s
theorem G72.fst {h : Asks} {kd : Nat} {s : Int} (o : G72 h kd s) : ∃ a0 l0, h[0]? = some a0 ∧ a0[0]? = some l0 := by
  have ne := o.ne
  have w := o.ways
  match h, ne, w with
  | a :: r, _, w =>
    match a, (w a List.mem_cons_self).1 with
    | [], e => exact absurd rfl e
    | l :: a, _ => exact ⟨_, _, rfl, rfl⟩
theorem G72.ok {h : Asks} {kd : Nat} {s : Int} (o : G72 h kd s) : HsOk h kd :=
  ⟨o.fst, o.k1, o.k4, o.len, fun a ha => by have := (o.ways a ha).2; omega, by have := o.few; omega⟩
theorem G72.four {h : Asks} {kd : Nat} {s : Int} (o : G72 h kd s) : ∀ a ∈ asks4 h, ∀ w ∈ a, ∃ e f g i : Int, w = [e, f, g, i] ∧ (-s ≤ e ∧ e ≤ s) ∧ (-s ≤ f ∧ f ≤ s) ∧ (-s ≤ g ∧ g ≤ s) ∧ (-s ≤ i ∧ i ≤ s) ∧ (kd ≤ 3 → i = 0) ∧ (kd ≤ 2 → g = 0) := fun a ha w hw => by
  obtain ⟨a0, ha0, rfl⟩ := List.mem_map.mp ha
  obtain ⟨l, hl, rfl⟩ := List.mem_map.mp hw
  have ll := o.len a0 ha0 l hl
  have n3 := o.num a0 ha0 l hl
  have k1 := o.k1
  have k4 := o.k4
  have s0 := o.s0
  match l, ll, n3 with
  | [], ll, _ => exact absurd ll (by show ¬ (0 = kd); omega)
  | [a], _, n => exact ⟨a, 0, 0, 0, rfl, n a (by simp), by omega, by omega, by omega, fun _ => rfl, fun _ => rfl⟩
  | [a, b], _, n => exact ⟨a, b, 0, 0, rfl, n a (by simp), n b (by simp), by omega, by omega, fun _ => rfl, fun _ => rfl⟩
  | [a, b, c], ll, n => exact ⟨a, b, c, 0, rfl, n a (by simp), n b (by simp), n c (by simp), by omega, fun _ => rfl, fun z => absurd ll (by show ¬ (3 = kd); omega)⟩
  | [a, b, c, d], ll, n => exact ⟨a, b, c, d, rfl, n a (by simp), n b (by simp), n c (by simp), n d (by simp), fun z => absurd ll (by show ¬ (4 = kd); omega), fun z => absurd ll (by show ¬ (4 = kd); omega)⟩
  | _ :: _ :: _ :: _ :: _ :: _, ll, _ => exact absurd ll (by simp only [List.length_cons]; omega)
theorem G72.w4 {h : Asks} {kd : Nat} {s : Int} (o : G72 h kd s) : Ways4 (asks4 h) s s s s :=
  ⟨o.s0, o.s0, o.s0, o.s0, fun a ha w hw => let ⟨e, f, g, i, e1, p1, p2, p3, p4, _⟩ := o.four a ha w hw; ⟨e, f, g, i, e1, p1, p2, p3, p4⟩⟩
theorem G72.w3 {h : Asks} {kd : Nat} {s : Int} (o : G72 h kd s) (k3 : kd ≤ 3) : Ways4 (asks4 h) s s s 0 :=
  ⟨o.s0, o.s0, o.s0, Int.le_refl 0, fun a ha w hw => let ⟨e, f, g, i, e1, p1, p2, p3, p4, z, _⟩ := o.four a ha w hw; ⟨e, f, g, i, e1, p1, p2, p3, by have := z k3; omega⟩⟩
theorem G72.w2 {h : Asks} {kd : Nat} {s : Int} (o : G72 h kd s) (k2 : kd ≤ 2) : Ways4 (asks4 h) s s 0 0 :=
  ⟨o.s0, o.s0, Int.le_refl 0, Int.le_refl 0, fun a ha w hw => let ⟨e, f, g, i, e1, p1, p2, p3, p4, z, y⟩ := o.four a ha w hw; ⟨e, f, g, i, e1, p1, p2, by have := y k2; omega, by have := z (by omega); omega⟩⟩
theorem G72.few2 {h : Asks} {kd n : Nat} {s t : Int} (o : G72 h kd s) (k2 : kd ≤ 2) (ht : s * n ≤ t) (b1 : (t.toNat + 1) * (t.toNat + 1) < 4096) : FewP none (oneR (asks4 h)) n := My.few2 (o.w2 k2) ht b1
theorem G72.beside {h g : Asks} {kd kg : Nat} {s : Int} (o : G72 h kd s) (p : G72 g kg s) (k4 : kd + kg ≤ 4) (f4 : h.length + g.length ≤ 4) : G72 (besideH kd kg h g) (kd + kg) s := by
  have s0 := o.s0
  refine ⟨fun e => ?_, ?_, fun a ha => ?_, beside_len o.len p.len, fun a ha l hl z hz => ?_, by have := o.k1; omega, k4, s0⟩
  · have := congrArg List.length e
    unfold besideH at this
    rw [List.length_append, List.length_map] at this
    have ne := o.ne
    cases h with
    | nil => exact ne rfl
    | cons a r => simp at this
  · unfold besideH
    rw [List.length_append, List.length_map, List.length_map]
    exact f4
  · rcases List.mem_append.mp ha with ha | ha
    · obtain ⟨a0, ha0, rfl⟩ := List.mem_map.mp ha
      have := o.ways a0 ha0
      exact ⟨fun e => this.1 (List.map_eq_nil_iff.mp e), by rw [List.length_map]; exact this.2⟩
    · obtain ⟨a0, ha0, rfl⟩ := List.mem_map.mp ha
      have := p.ways a0 ha0
      exact ⟨fun e => this.1 (List.map_eq_nil_iff.mp e), by rw [List.length_map]; exact this.2⟩
  · rcases List.mem_append.mp ha with ha | ha
    · obtain ⟨a0, ha0, rfl⟩ := List.mem_map.mp ha
      obtain ⟨w, hw, rfl⟩ := List.mem_map.mp hl
      rcases List.mem_append.mp hz with hz | hz
      · exact o.num a0 ha0 w hw z hz
      · rw [List.eq_of_mem_replicate hz]
        omega
    · obtain ⟨a0, ha0, rfl⟩ := List.mem_map.mp ha
      obtain ⟨w, hw, rfl⟩ := List.mem_map.mp hl
      rcases List.mem_append.mp hz with hz | hz
      · rw [List.eq_of_mem_replicate hz]
        omega
      · exact p.num a0 ha0 w hw z hz
theorem G72.times {h : Asks} {kd : Nat} {s m : Int} (o : G72 h kd s) (m1 : 1 ≤ m) : G72 (timesH m h) kd (s * m) := by
  refine ⟨fun e => o.ne (List.map_eq_nil_iff.mp e), by unfold timesH; rw [List.length_map]; exact o.few, fun a ha => ?_, fun a ha l hl => ?_, fun a ha l hl z hz => ?_, o.k1, o.k4, Int.mul_nonneg o.s0 (by omega)⟩
  · obtain ⟨a0, ha0, rfl⟩ := List.mem_map.mp ha
    have := o.ways a0 ha0
    exact ⟨fun e => this.1 (List.map_eq_nil_iff.mp e), by rw [List.length_map]; exact this.2⟩
  · obtain ⟨a0, ha0, rfl⟩ := List.mem_map.mp ha
    obtain ⟨w, hw, rfl⟩ := List.mem_map.mp hl
    rw [List.length_map]
    exact o.len a0 ha0 w hw
  · obtain ⟨a0, ha0, rfl⟩ := List.mem_map.mp ha
    obtain ⟨w, hw, rfl⟩ := List.mem_map.mp hl
    obtain ⟨x, hx, rfl⟩ := List.mem_map.mp hz
    obtain ⟨l1, l2⟩ := o.num a0 ha0 w hw x hx
    have h1 : -s * m ≤ x * m := Int.mul_le_mul_of_nonneg_right l1 (by omega)
    have h2 : x * m ≤ s * m := Int.mul_le_mul_of_nonneg_right l2 (by omega)
    rw [Int.neg_mul] at h1
    exact ⟨h1, h2⟩
theorem G72.app {h g : Asks} {kd : Nat} {s : Int} (o : G72 h kd s) (p : G72 g kd s) (f4 : h.length + g.length ≤ 4) : G72 (h ++ g) kd s := by
  have both : ∀ {q : List (List Int) → Prop}, (∀ a ∈ h, q a) → (∀ a ∈ g, q a) → ∀ a ∈ h ++ g, q a := fun h1 h2 a ha => (List.mem_append.mp ha).elim (h1 a) (h2 a)
  refine ⟨fun e => o.ne (List.append_eq_nil_iff.mp e).1, by rw [List.length_append]; exact f4, both o.ways p.ways, both o.len p.len, both o.num p.num, o.k1, o.k4, o.s0⟩
theorem G72.mono {h : Asks} {kd : Nat} {s t : Int} (o : G72 h kd s) (l : s ≤ t) : G72 h kd t :=
  ⟨o.ne, o.few, o.ways, o.len, fun a ha w hw z hz => (by have := o.num a ha w hw z hz; omega), o.k1, o.k4, (by have := o.s0; omega)⟩
theorem HouseOk.g46 {kinds ways s : Int} {kd : Nat} {h : Asks} (o : HouseOk kinds 2 ways s h) (w3 : ways ≤ 3) (e : kinds = (kd : Int)) (k1 : 1 ≤ kd) (k4 : kd ≤ 4) (s0 : 0 ≤ s) : G72 h kd s := by
  refine ⟨fun z => ?_, ?_, fun a ha => ⟨fun z => ?_, ?_⟩, fun a ha l hl => ?_, fun a ha l hl => ((o.all a ha).all l hl).all, k1, k4, s0⟩
  · have := o.one
    rw [z] at this
    simp at this
  · have := o.most
    omega
  · have := (o.all a ha).one
    rw [z] at this
    simp at this
  · have := (o.all a ha).most
    omega
  · have := ((o.all a ha).all l hl).len
    omega
/-! ### a store near a least one, and how many asks it lasts -/
def sStore46 : Stmt := topS 34
def sMost46 : Stmt := topS 35
def rMx46 : List V → Hp → VK → Prop := fun xs H Q => ∃ i j, xs = [.int i, .int j] ∧ Q (.int (if j > i then j else i)) H
def spStore46 (K : PySem.W.Frag) : Sp := fun vs H Q _ => ∃ (p c : Addr) (ns : List Int) (m : Nat) (l : Addr) (vs' : List V) (R : List (List Int)) (kd : Nat), vs = [.ref p, .int (kd : Int), .ref l] ∧ Pen H p c ns m ∧ m + 20 < penMost ∧ H l = some (.lst vs') ∧ l ≠ p ∧ DpAll K H vs' (R.map wayD) ∧ R ≠ [] ∧ R.length ≤ 100000 ∧ (∀ r ∈ R, StK kd r) ∧ 1 ≤ kd ∧ kd ≤ 4 ∧
  ∀ v H' s, Kp p H H' → Pen H' p c ns (m + 20) → Dp K H' v (wayD s) → StK kd s → Q v H'
def spMost46 (K : PySem.W.Frag) : Sp := fun vs H Q _ => ∃ (x y : V) (h : Asks) (s : List Int) (kd n : Nat), vs = [x, y, .int (n : Int)] ∧ Dp K H x (houseD h) ∧ Dp K H y (wayD s) ∧ HsOk h kd ∧ StK kd s ∧ n ≤ 1000 ∧ FewP none (oneR (asks4 h)) n ∧
  ∀ (k : Nat) H', Same H H' → k ≤ n → LN (asks4 h) k (four s) → Q (.int (k : Int)) H'
section
variable {P : Program} {w : World} {K : PySem.W.Frag} {mg : Str → Option Value} {base : Heap}
theorem scStore46 : FnScope ["pen", "kinds", "lows", "low", "one", "kind"] ["pen", "kinds", "lows"] (defScope sStore46) := ⟨rfl, rfl, rfl, by decide +kernel, rfl, by decide +kernel, by decide +kernel⟩
theorem ok_store46 {f fT : Addr} {fd fdT : FuncData} {k : Nat} (F : Fun K "_law_store" "_law_store" sStore46 f fd) (GT : FnOk P w K mg base CX0 k fT fdT ["pen", "amount"] spTake) (kT : PySem.W.keepIn K (.ref fT) = true) (bT : Binds K fdT ["pen", "amount"] []) (gT : mg "_law_take" = some (.ref fT))
    (ml : mg "len" = none) (mt : mg "tuple" = none) (mr : mg "range" = none) (mx : mg "max" = none) : FnOk P w K mg base CX0 (k + 1) f fd ["pen", "kinds", "lows"] (spStore46 K) := by
  refine F.ok scStore46 (fun vs H Q E h => ?_) (fun cdv A outer s0 H vs Q E hr h => ?_)
  · obtain ⟨p, c, ns, m, l, vs', R, kd, rfl, _⟩ := h
    rfl
  · obtain ⟨p, c, ns, m, l, vs', R, kd, rfl, hP, hm, hL, nlp, hall, ne, lR, okR, k1, k4, q⟩ := h
    unfold penMost at hm
    refine ⟨_, pss_cons (ps_if (pt_cmpR op_gt (pe_call GT hr (by rfl) gT kT bT .nil pass0 (pa_cons (pv 0) (pa_cons pe_int pa_nil))) pe_int (nomark _)) (pss_cons (ps_set (i := 3) scStore46.nd rfl (.inl rfl) (pe_ix ix_list (pv 2) (pe_call GT hr (by rfl) gT kT bT .nil pass0 (pa_cons (pv 0) (pa_cons (pe_callB call_len_seq (by rfl) ml PySem.boot_len (pa_cons (pv 2) pa_nil)) pa_nil))) (fun _ _ => rfl)))
      (pss_one (ps_ret (pe_callTy call_tuple_of (by rfl) mt (by decide +kernel) (pa_cons (pe_lc (own := [("one", 4)]) (g := gName 4) (tt := tYes) (te := (tCB rMx46 (tCons (tC (.int 0)) (tCons (tOp (rI0 fun i j => .int (i + j)) (tVar 4) (tOp (rIxL K) (tLst (tCons (tC (.int 0)) (tCons (tC (.int 0)) (tCons (tC (.int 1)) (tCons (tUn (rU fun i => .int (-i)) (tC (.int 1))) tNil))))) (tCall spTake [] E0 (tCons (tVar 0) (tCons (tC (.int 4)) tNil))))) tNil)))) rfl scStore46.nd (pi_tup (pv 3))
        (blkOk_by (N := ["pen", "kinds", "lows", "low", "one", "kind"]) (sc := defScope sStore46) (by decide +kernel)) (fun _ _ _ _ _ => by exact (pg_name (i := 4) scStore46.nd rfl (.inl rfl))) (fun _ _ _ _ _ => pts_nil)
        (fun _ _ _ _ _ => by exact (pe_callB (call_max2 rfl) (by rfl) mx (by decide +kernel) (pa_cons pe_int (pa_cons (pe_op op_add (pv 4) (pe_ix ix_list (pe_lst (pa_cons pe_int (pa_cons pe_int (pa_cons pe_int (pa_cons (pe_un un_neg pe_int) pa_nil))))) (pe_call GT hr (by rfl) gT kT bT .nil pass0 (pa_cons (pv 0) (pa_cons pe_int pa_nil))) (fun _ _ => rfl))) pa_nil))))) pa_nil))))) pss_nil)
      (pss_one (ps_ret (pe_callTy call_tuple_of (by rfl) mt (by decide +kernel) (pa_cons (pe_lc (own := [("kind", 5)]) (g := gName 5) (tt := tYes) rfl scStore46.nd (pi_range1 (by rfl) mr (pa_cons (pv 1) pa_nil))
        (blkOk_by (N := ["pen", "kinds", "lows", "low", "one", "kind"]) (sc := defScope sStore46) (by decide +kernel)) (fun _ _ _ _ _ => by exact (pg_name (i := 5) scStore46.nd rfl (.inl rfl))) (fun _ _ _ _ _ => pts_nil)
        (fun _ _ _ _ _ => by exact (pe_call GT hr (by rfl) gT kT bT .nil pass0 (pa_cons (pv 0) (pa_cons pe_int pa_nil))))) pa_nil)))), ?_⟩
    -- sem1
    refine ⟨_, rfl, p, c, ns, m, 3, rfl, hP, by unfold penMost; omega, by decide, by decide, fun r H1 r0 r1 kp1 P1 => ?_⟩
    have hL1 := kp1 _ _ hL nlp
    have hall1 := hP.dpAll kp1 hall (noLAll_map noL_way R)
    have lvs := sts_len hall
    have lne : 0 < R.length := by
      cases R with
      | nil => exact absurd rfl ne
      | cons a r => exact Nat.succ_pos _
    refine ⟨_, 0, rfl, rfl, _, rfl, ite2 (fun _ => ?_) (fun _ => ?_)⟩
    · refine ⟨_, rfl, _, rfl, _, rfl, l, vs', rfl, .inl (SqL.of hL1), ?_⟩
      refine ⟨p, c, ns, _, (vs'.length : Int), rfl, P1, by unfold penMost; omega, by omega, by omega, fun r2 H2 r20 r21 kp2 P2 => ?_⟩
      obtain ⟨i, rfl⟩ : ∃ i : Nat, r2 = (i : Int) := ⟨r2.toNat, by omega⟩
      obtain ⟨t, ht⟩ : ∃ t, R[i]? = some t := ⟨_, List.getElem?_eq_getElem (by omega)⟩
      have hall2 := P1.dpAll kp2 hall1 (noLAll_map noL_way R)
      obtain ⟨v, hv, dv⟩ := dpAll_getD (i := i) (d := wayD t) hall2 (by rw [List.getElem?_map, ht]; rfl)
      have okt := okR t (List.mem_of_getElem? ht)
      refine ⟨l, vs', (i : Int), v, rfl, rfl, SqL.of (kp2 _ _ hL1 nlp), atI_nat hv, ?_⟩
      obtain ⟨ta, rfl, hT⟩ := way_of dv
      obtain ⟨_, hp2⟩ := P2.at
      refine ⟨_, rfl, ta, rfl, ⟨_, hT⟩, fun D nD => ?_⟩
      have sD := same_upd (o := .lst []) nD
      obtain ⟨npD, ncD⟩ := P2.nep nD
      refine lc_tup (K := K) (a := ta) (xs := t.map V.int) (fun j H5 => Kp p H2 H5 ∧ Pen H5 p c ns (m + 2 + j) ∧ ∃ xs : List Int, H5 D = some (.lst (xs.map V.int)) ∧ xs.length = j ∧ ∀ x ∈ xs, 0 ≤ x)
        ⟨sD.kp, P2.same sD, [], upd_same, rfl, by simp⟩ (fun j H5 _ ⟨kp5, _⟩ => kp5.seqT hp2 hT) ?_ ?_
      · rintro j v H5 hj ⟨kp5, P5, xs, hD, lx, bx⟩
        obtain ⟨z, hz, rfl⟩ := ints_get hj
        have jl := (List.getElem?_eq_some_iff.mp hz).1
        have tl := okt.1
        refine ⟨rfl, ?_⟩
        refine ⟨_, rfl, 1, rfl, by show 4 ≤ sizeLine; decide, fun L nL => ?_⟩
        have sL := same_upd (o := .lst [V.int 0, V.int 0, V.int 1, V.int (-1)]) nL
        have npL := (P5.nep nL).1
        refine ⟨_, rfl, p, c, ns, _, 4, rfl, P5.same sL, by unfold penMost; omega, by decide, by decide, fun r4 H6 r40 r41 kp6 P6 => ?_⟩
        obtain ⟨w, hw⟩ : ∃ w : Int, atI [V.int 0, V.int 0, V.int 1, V.int (-1)] r4 = some (.int w) := by
          have : r4 = 0 ∨ r4 = 1 ∨ r4 = 2 ∨ r4 = 3 := by omega
          rcases this with rfl | rfl | rfl | rfl
          · exact ⟨0, atI_nat (j := 0) rfl⟩
          · exact ⟨0, atI_nat (j := 1) rfl⟩
          · exact ⟨1, atI_nat (j := 2) rfl⟩
          · exact ⟨-1, atI_nat (j := 3) rfl⟩
        refine ⟨L, _, r4, _, rfl, rfl, SqL.of (kp6 _ _ upd_same npL.symm), hw, z, w, rfl, rfl, 0, z + w, rfl, ?_⟩
        have kp56 := sL.kp.trans kp6
        refine ⟨_, kp6 _ _ (sL _ _ hD) npD.symm, by rw [List.length_map]; exact small_line (by omega), ?_⟩
        refine ⟨(kp5.trans kp56).put nD, P6.put npD ncD, xs ++ [if z + w > 0 then z + w else 0], ?_, by rw [List.length_append, lx]; rfl, mem_app1 bx (by split <;> omega)⟩
        rw [upd_same, List.map_append]
        rfl
      rintro H5 ⟨kp5, P5, xs, hD, lx, bx⟩
      rw [List.length_map] at lx
      refine ⟨D, _, rfl, .inl ⟨SqL.of hD, fun W nW => ?_⟩⟩
      exact q _ _ xs (((kp1.trans kp2).trans kp5).same (same_upd nW)) ((P5.same (same_upd nW)).mono (by rw [List.length_map, okt.1]; omega)) (dp_tup nW (dpAll_ints xs)) ⟨by rw [lx, okt.1], bx⟩
    · refine ⟨_, rfl, (kd : Int), rfl, by omega, by omega, fun D nD => ?_⟩
      have sD := same_upd (o := .lst []) nD
      obtain ⟨npD, ncD⟩ := P1.nep nD
      refine lc_range (lo := 0) (n := (kd : Int).toNat) (fun j H5 => Kp p H1 H5 ∧ Pen H5 p c ns (m + 1 + j) ∧ ∃ xs : List Int, H5 D = some (.lst (xs.map V.int)) ∧ xs.length = j ∧ ∀ x ∈ xs, 0 ≤ x)
        ⟨sD.kp, P1.same sD, [], upd_same, rfl, by simp⟩ ?_ ?_
      · rintro j H5 hj ⟨kp5, P5, xs, hD, lx, bx⟩
        refine ⟨rfl, ?_⟩
        refine ⟨_, rfl, p, c, ns, _, 7, rfl, P5, by unfold penMost; omega, by decide, by decide, fun z H6 z0 z1 kp6 P6 => ?_⟩
        refine ⟨_, kp6 _ _ hD npD.symm, by rw [List.length_map]; exact small_line (by omega), ?_⟩
        refine ⟨(kp5.trans kp6).put nD, P6.put npD ncD, xs ++ [z], ?_, by rw [List.length_append, lx]; rfl, mem_app1 bx z0⟩
        rw [upd_same, List.map_append]
        rfl
      rintro H5 ⟨kp5, P5, xs, hD, lx, bx⟩
      refine ⟨D, _, rfl, .inl ⟨SqL.of hD, fun W nW => ?_⟩⟩
      exact q _ _ xs ((kp1.trans kp5).same (same_upd nW)) ((P5.same (same_upd nW)).mono (by omega)) (dp_tup nW (dpAll_ints xs)) ⟨by omega, bx⟩
theorem scMost46 : FnScope ["house", "store", "most", "found"] ["house", "store", "most"] (defScope sMost46) := ⟨rfl, rfl, rfl, by decide +kernel, rfl, by decide +kernel, by decide +kernel⟩
theorem ok_most46 {f fL : Addr} {fd fdL : FuncData} {k : Nat} (F : Fun K "_law_most" "_law_most" sMost46 f fd) (GL : FnOk P w K mg base CX0 k fL fdL ["house", "store", "n"] (spLastsP K)) (kL : PySem.W.keepIn K (.ref fL) = true) (bL : Binds K fdL ["house", "store", "n"] []) (gL : mg "lasts" = some (.ref fL)) : FnOk P w K mg base CX0 (k + 1) f fd ["house", "store", "most"] (spMost46 K) := by
  refine F.ok scMost46 (fun vs H Q E h => ?_) (fun cdv A outer s0 H vs Q E hr h => ?_)
  · obtain ⟨x, y, h, s, kd, n, rfl, _⟩ := h
    rfl
  · obtain ⟨x, y, h, s, kd, n, rfl, hx, hy, o, os, n1, fw, q⟩ := h
    refine ⟨_, pss_cons (ps_set (i := 3) scMost46.nd rfl (.inl rfl) pe_int)
      (pss_cons (ps_while PassesOwn.never (PW.pt (pw_and (pt_cmpR op_lt (pv 3) (pv 2) (nomark _)) (pw_and1 (pt_val (pe_call GL hr (by rfl) gL kL bL .nil pass0 (pa_cons (pv 0) (pa_cons (pv 1) (pa_cons (pe_op op_add (pv 3) pe_int) pa_nil)))))))) (pss_one (ps_set (i := 3) scMost46.nd rfl (.inl rfl) (pe_op op_add (pv 3) pe_int))))
      (pss_one (ps_ret (pv 3)))), ?_⟩
    -- sem2
    refine ⟨fun k σ H1 => ∃ j : Nat, σ = [some x, some y, some (.int (n : Int)), some (.int (j : Int))] ∧ Same H H1 ∧ j ≤ n ∧ LN (asks4 h) j (four s) ∧ n - j < k, ⟨n + 1, 0, rfl, Same.refl _, Nat.zero_le _, True.intro, by omega⟩, ?_⟩
    rintro k1 σ H1 ⟨j, rfl, s1, jn, lnj, mk⟩
    refine ⟨_, rfl, _, rfl, (j : Int), (n : Int), rfl, rfl, _, rfl, ite2 (fun c => ?_) (fun c => ?_)⟩
    · have c : (j : Int) < (n : Int) := of_decide_eq_true c
      refine ⟨_, rfl, _, rfl, _, rfl, (j : Int), 1, rfl, rfl, x, y, h, s, kd, j + 1, rfl, dp_same s1 hx, dp_same s1 hy, o, by rw [os.1]; exact o.k1, by rw [os.1]; exact o.k4, os.2, by omega, fw.le (by omega), fun b H2 s2 hb => ?_⟩
      refine ⟨b, rfl, ?_⟩
      cases b with
      | true =>
        refine ifT rfl ⟨fun σ' H' => ∃ j' : Nat, σ' = [some x, some y, some (.int (n : Int)), some (.int (j' : Int))] ∧ Same H H' ∧ j' ≤ n ∧ LN (asks4 h) j' (four s) ∧ n - j' < n - j, fun σ' H' z => ?_, ?_⟩
        · obtain ⟨j', e1, e2, e3, e4, e5⟩ := z
          exact ⟨n - j, by omega, j', e1, e2, e3, e4, e5⟩
        · exact ⟨_, rfl, (j : Int), 1, rfl, rfl, j + 1, rfl, s1.trans s2, by omega, hb.mp rfl, by omega⟩
      | false =>
        refine ifF rfl ?_
        exact ⟨_, rfl, q j H2 (s1.trans s2) jn lnj⟩
    · exact ⟨_, rfl, q j H1 s1 jn lnj⟩
end
/-! ### small helpers of k46 -/
theorem fw46 {K : PySem.W.Frag} {H : Hp} {h : Asks} {kd : Nat} {s : Int} (o : G72 h kd s) {v : V} (d : Dp K H v (houseD h)) : ∃ (xa : Addr) (as : List V) (ya : Addr) (ws : List V) (wa : Addr) (l : List Int), v = .ref xa ∧ SqT K H xa as ∧ as[0]? = some (.ref ya) ∧ SqT K H ya ws ∧ ws[0]? = some (.ref wa) ∧ SqT K H wa (l.map V.int) ∧ l.length = kd := by
  obtain ⟨a0, l0, h0, hl0⟩ := o.fst
  have ml0 := o.len a0 (List.mem_of_getElem? h0) l0 (List.mem_of_getElem? hl0)
  obtain ⟨xa, as, rfl, hX, hA⟩ := tupD_of d
  obtain ⟨v0, hv0, dv0⟩ := dpAll_getD (i := 0) (d := askD a0) hA (by rw [List.getElem?_map, h0]; rfl)
  obtain ⟨ya, ws0, rfl, hY, hW0⟩ := tupD_of dv0
  obtain ⟨w0, hw0, dw0⟩ := dpAll_getD (i := 0) (d := wayD l0) hW0 (by rw [List.getElem?_map, hl0]; rfl)
  obtain ⟨wa, rfl, hWa⟩ := way_of dw0
  exact ⟨xa, as, ya, ws0, wa, l0, rfl, hX, hv0, hY, hw0, hWa, ml0⟩
theorem lowsR_of {h : Asks} {kd n : Nat} (o : HsOk h kd) {M : List (List Int)} (can : Canon M (LN (asks4 h) n)) : LowsR h kd n (M.map fun x => x.take kd) := by
  have lo := lows_of can o.k1 o.k4 fun x hx => ln_prj o n hx
  refine ⟨told_stk lo, ?_, lo.srt⟩
  rw [told_back lo]
  exact can
theorem LowsR.ne {h : Asks} {kd n : Nat} {s : Int} {R : List (List Int)} (o : LowsR h kd n R) (g : G72 h kd s) : R ≠ [] := fun e => by
  subst e
  have z : 0 ≤ s * (n : Int) := Int.mul_nonneg g.s0 (by omega)
  have st : StK kd (List.replicate kd (s * n)) := ⟨List.length_replicate, fun z' hz => by rw [List.eq_of_mem_replicate hz]; exact z⟩
  obtain ⟨r, hr, _⟩ := (o.rn g.k1 g.k4 g.len st).mpr (rn_rich g.s0 (fun a ha => (g.ways a ha).1) g.len (fun a ha l hl z' hz => (g.num a ha l hl z' hz).1) n _ List.length_replicate fun z' hz => by rw [List.eq_of_mem_replicate hz]; exact Int.le_refl _)
  cases hr
theorem LowsR.few {h : Asks} {kd n : Nat} {s t : Int} {R : List (List Int)} (o : LowsR h kd n R) (g : G72 h kd s) (k2 : kd ≤ 2) (ht : s * n ≤ t) (t1 : t ≤ 200) : R.length ≤ 50000 := by
  have s0 := g.s0
  have z : 0 ≤ s * (n : Int) := Int.mul_nonneg s0 (by omega)
  have := canon_len o.can (t1 := t) (t2 := t) (t3 := 0) (by omega) (by omega) (by decide) fun x hx u => ln_clip (g.w2 k2) n hx ht ht (by omega) (by omega) u
  rw [List.length_map] at this
  have h2 : (t.toNat + 1) * (t.toNat + 1) ≤ 201 * 201 := Nat.mul_le_mul (by omega) (by omega)
  omega
theorem bnot_self (x : Bool) : (!decide (V.bl x = V.bl x)) = false := by cases x <;> rfl
/-! ### two houses together -/
def sJoinR : Stmt := topS 36
def spJoinR (K : PySem.W.Frag) : Sp := fun vs H Q _ => ∃ (p c : Addr) (ns : List Int) (m : Nat) (x y : V) (h g : Asks) (kd n : Nat) (s : Int), vs = [.ref p, x, y, .int (n : Int)] ∧ Pen H p c ns m ∧ m + 100 < penMost ∧ Dp K H x (houseD h) ∧ Dp K H y (houseD g) ∧ G72 h kd s ∧ G72 g kd s ∧ h.length ≤ 2 ∧ g.length ≤ 2 ∧ kd ≤ 2 ∧ s * n ≤ 27 ∧ n ≤ 5 ∧
  ∀ H', Kp p H H' → Pen H' p c ns (m + 100) → Q (.bl true) H'
section
variable {P : Program} {w : World} {K : PySem.W.Frag} {mg : Str → Option Value} {base : Heap}
theorem scJoinR : FnScope ["pen", "house", "other", "n", "one", "two", "both", "fewer", "a", "b"] ["pen", "house", "other", "n"] (defScope sJoinR) := ⟨rfl, rfl, rfl, by decide +kernel, rfl, by decide +kernel, by decide +kernel⟩
structure C46 (P : Program) (w : World) (K : PySem.W.Frag) (mg : Str → Option Value) (base : Heap) (k : Nat) (fS fL fB fM fG : Addr) (dS dL dB dM dG : FuncData) : Prop where
  GS : FnOk P w K mg base CX0 k fS dS ["pen", "kinds", "lows"] (spStore46 K)
  kS : PySem.W.keepIn K (.ref fS) = true
  bS : Binds K dS ["pen", "kinds", "lows"] []
  gS : mg "_law_store" = some (.ref fS)
  GL : FnOk P w K mg base CX0 k fL dL ["house", "n"] (spLeastP K)
  kL : PySem.W.keepIn K (.ref fL) = true
  bL : Binds K dL ["house", "n"] []
  gL : mg "least" = some (.ref fL)
  GB : FnOk P w K mg base CX0 k fB dB ["house", "store", "n"] (spLastsP K)
  kB : PySem.W.keepIn K (.ref fB) = true
  bB : Binds K dB ["house", "store", "n"] []
  gB : mg "lasts" = some (.ref fB)
  GM : FnOk P w K mg base CX0 k fM dM ["house", "store", "most"] (spMost46 K)
  kM : PySem.W.keepIn K (.ref fM) = true
  bM : Binds K dM ["house", "store", "most"] []
  gM : mg "_law_most" = some (.ref fM)
  GG : FnOk P w K mg base CX0 k fG dG ["house", "other"] (spTogether K)
  kG : PySem.W.keepIn K (.ref fG) = true
  bG : Binds K dG ["house", "other"] []
  gG : mg "together" = some (.ref fG)
  len : mg "len" = none
  tuple : mg "tuple" = none
  zip : mg "zip" = none
  min : mg "min" = none
theorem ok_joinR {f fS fL fB fM fG : Addr} {fd dS dL dB dM dG : FuncData} {k : Nat} (F : Fun K "_law_joined_right" "_law_joined_right" sJoinR f fd) (T : C46 P w K mg base k fS fL fB fM fG dS dL dB dM dG) : FnOk P w K mg base CX0 (k + 1) f fd ["pen", "house", "other", "n"] (spJoinR K) := by
  refine F.ok scJoinR (fun vs H Q E h => ?_) (fun cdv A outer s0 H vs Q E hr h => ?_)
  · obtain ⟨p, c, ns, m, x, y, h, g, kd, n, s, rfl, _⟩ := h
    rfl
  · obtain ⟨p, c, ns, m, x, y, h, g, kd, n, s, rfl, hP, hm, dx, dy, gh, gg, lh, lg, k2, st, n5, q⟩ := h
    unfold penMost at hm
    refine ⟨_, pss_cons (ps_par (i := 4) (j := 5) rfl scJoinR.nd rfl rfl (by decide) rfl rfl (pa_cons (pe_call T.GS hr (by rfl) T.gS T.kS T.bS .nil pass0 (pa_cons (pv 0) (pa_cons (pe_callB call_len_seq (by rfl) T.len PySem.boot_len (pa_cons (pe_ix ix_tup (pe_ix ix_tup (pv 1) pe_int (fun _ _ => rfl)) pe_int (fun _ _ => rfl)) pa_nil)) (pa_cons (pe_call T.GL hr (by rfl) T.gL T.kL T.bL .nil pass0 (pa_cons (pv 1) (pa_cons (pv 3) pa_nil))) pa_nil)))) (pa_cons (pe_call T.GS hr (by rfl) T.gS T.kS T.bS .nil pass0 (pa_cons (pv 0) (pa_cons (pe_callB call_len_seq (by rfl) T.len PySem.boot_len (pa_cons (pe_ix ix_tup (pe_ix ix_tup (pv 1) pe_int (fun _ _ => rfl)) pe_int (fun _ _ => rfl)) pa_nil)) (pa_cons (pe_call T.GL hr (by rfl) T.gL T.kL T.bL .nil pass0 (pa_cons (pv 2) (pa_cons (pv 3) pa_nil))) pa_nil)))) pa_nil)) (by rfl))
      (pss_cons (ps_set (i := 6) scJoinR.nd rfl (.inl rfl) (pe_call T.GG hr (by rfl) T.gG T.kG T.bG .nil pass0 (pa_cons (pv 1) (pa_cons (pv 2) pa_nil))))
      (pss_cons (ps_set (i := 7) scJoinR.nd rfl (.inl rfl) (pe_callB (call_min2 rfl) (by rfl) T.min (by decide +kernel) (pa_cons (pe_call T.GM hr (by rfl) T.gM T.kM T.bM .nil pass0 (pa_cons (pv 1) (pa_cons (pv 4) (pa_cons (pv 3) pa_nil)))) (pa_cons (pe_call T.GM hr (by rfl) T.gM T.kM T.bM .nil pass0 (pa_cons (pv 2) (pa_cons (pv 5) (pa_cons (pv 3) pa_nil)))) pa_nil))))
      (pss_cons (ps_if (pt_not (pt_val (pe_call T.GB hr (by rfl) T.gB T.kB T.bB .nil pass0 (pa_cons (pv 6) (pa_cons (pe_callTy call_tuple_of (by rfl) T.tuple (by decide +kernel) (pa_cons (pe_lc (own := [("a", 8), ("b", 9)]) (g := gTup K 2 (gCons (gName 8) (gCons (gName 9) gNil))) (tt := tYes) rfl scJoinR.nd (pi_zipA (by rfl) T.zip (pa_cons (pv 4) (pa_cons (pv 5) pa_nil)))
        (blkOk_by (N := ["pen", "house", "other", "n", "one", "two", "both", "fewer", "a", "b"]) (sc := defScope sJoinR) (by decide +kernel))
        (fun _ _ _ _ _ => by refine pg_tup rfl (pgs_cons ?_ (pgs_cons ?_ pgs_nil)); exact pg_name (i := 8) scJoinR.nd rfl (.inl rfl); exact pg_name (i := 9) scJoinR.nd rfl (.inl rfl))
        (fun _ _ _ _ _ => pts_nil) (fun _ _ _ _ _ => by exact (pe_op op_add (pv 8) (pv 9)))) pa_nil)) (pa_cons (pv 7) pa_nil)))))) (pss_one (ps_ret pe_bl)) pss_nil)
      (pss_cut (ps_if (PW.pt (pw_and (pt_val (pe_call T.GB hr (by rfl) T.gB T.kB T.bB .nil pass0 (pa_cons (pv 6) (pa_cons (pv 4) (pa_cons (pv 3) pa_nil))))) (pw_and1 (pt_not (PW.pt (pw_and (pt_val (pe_call T.GB hr (by rfl) T.gB T.kB T.bB .nil pass0 (pa_cons (pv 1) (pa_cons (pv 4) (pa_cons (pv 3) pa_nil))))) (pw_and1 (pt_val (pe_call T.GB hr (by rfl) T.gB T.kB T.bB .nil pass0 (pa_cons (pv 2) (pa_cons (pv 4) (pa_cons (pv 3) pa_nil)))))))))))) (pss_one (ps_ret pe_bl)) pss_nil)
      (pss_one (ps_ret (pe_cmpR (op_eqD hr.units) (pe_call T.GL hr (by rfl) T.gL T.kL T.bL .nil pass0 (pa_cons (pe_call T.GG hr (by rfl) T.gG T.kG T.bG .nil pass0 (pa_cons (pv 1) (pa_cons (pv 1) pa_nil))) (pa_cons (pv 3) pa_nil))) (pe_call T.GL hr (by rfl) T.gL T.kL T.bL .nil pass0 (pa_cons (pv 1) (pa_cons (pv 3) pa_nil))) (nomark _)))))))), ?_⟩
    -- sem
    have k1 := gh.k1
    have n1 : n ≤ 1000 := by omega
    have fewH : FewP none (oneR (asks4 h)) n := gh.few2 k2 (t := 27) st (by decide)
    have fewG : FewP none (oneR (asks4 g)) n := gg.few2 k2 (t := 27) st (by decide)
    obtain ⟨xa, as, ya, ws, wa, l0, rfl, hX, hv0, hY, hw0, hWa, ll0⟩ := fw46 gh dx
    -- one
    refine ⟨_, rfl, _, rfl, xa, as, 0, .ref ya, rfl, rfl, hX, atI_nat (j := 0) hv0, ya, ws, 0, .ref wa, rfl, rfl, hY, atI_nat (j := 0) hw0, wa, _, rfl, .inr hWa, ?_⟩
    refine ⟨_, rfl, _, rfl, .ref xa, h, kd, n, rfl, dx, gh.ok, n1, fewH, fun q1 H1 ps1 M1 s1 nq1 hq1 d1 can1 => ?_⟩
    have lo1 := lowsR_of gh.ok can1
    generalize M1.map (fun x : List Int => x.take kd) = R1 at d1 lo1
    refine ⟨p, c, ns, m, q1, ps1, R1, kd, by rw [List.length_map, ll0]; rfl, hP.same s1, by unfold penMost; omega, hq1, (hP.nep nq1).1.symm, d1, lo1.ne gh, Nat.le_trans (lo1.few gh k2 st (by decide)) (by decide), lo1.ok, k1, by omega, fun v1 H2 x1 kp2 P2 dv1 os1 => ?_⟩
    have kp02 := s1.kp.trans kp2
    have dx2 := hP.dp kp02 dx (noL_house h)
    have dy2 := hP.dp kp02 dy (noL_house g)
    clear hX hY hWa hv0 hw0 ll0 kp2 d1 hq1 nq1 s1
    obtain ⟨xa', as, ya, ws, wa, l0, e, hX, hv0, hY, hw0, hWa, ll0⟩ := fw46 gh dx2
    cases e
    -- two
    refine ⟨_, rfl, _, rfl, xa, as, 0, .ref ya, rfl, rfl, hX, atI_nat (j := 0) hv0, ya, ws, 0, .ref wa, rfl, rfl, hY, atI_nat (j := 0) hw0, wa, _, rfl, .inr hWa, ?_⟩
    refine ⟨_, rfl, _, rfl, y, g, kd, n, rfl, dy2, gg.ok, n1, fewG, fun q2 H3 ps2 M2 s3 nq2 hq2 d2 can2 => ?_⟩
    have lo2 := lowsR_of gg.ok can2
    generalize M2.map (fun x : List Int => x.take kd) = R2 at d2 lo2
    refine ⟨p, c, ns, _, q2, ps2, R2, kd, by rw [List.length_map, ll0]; rfl, P2.same s3, by unfold penMost; omega, hq2, (P2.nep nq2).1.symm, d2, lo2.ne gg, Nat.le_trans (lo2.few gg k2 st (by decide)) (by decide), lo2.ok, k1, by omega, fun v2 H4 x2 kp4 P4 dv2 os2 => ?_⟩
    have kp24 := s3.kp.trans kp4
    have kp04 := kp02.trans kp24
    have dx4 := P2.dp kp24 dx2 (noL_house h)
    have dy4 := P2.dp kp24 dy2 (noL_house g)
    have dv14 := P2.dp kp24 dv1 (noL_way x1)
    clear hX hY hWa hv0 hw0 ll0 kp4 d2 hq2 nq2 s3 kp24 dx2 dy2 dv1 P2
    refine ⟨_, _, rfl, ?_⟩
    -- both
    refine ⟨_, rfl, _, rfl, .ref xa, y, h, g, rfl, dx4, dy4, by omega, fun v3 H5 s5 d3 => ?_⟩
    have gT := gh.app gg (by omega)
    have fewT : FewP none (oneR (asks4 (h ++ g))) n := gT.few2 k2 (t := 27) st (by decide)
    -- fewer
    refine ⟨_, rfl, _, rfl, _, rfl, .ref xa, v1, h, x1, kd, n, rfl, dp_same s5 dx4, dp_same s5 dv14, gh.ok, os1, n1, fewH, fun f1 H6 s6 fn1 lf1 => ?_⟩
    have s46 := s5.trans s6
    refine ⟨_, rfl, _, rfl, _, rfl, y, v2, g, x2, kd, n, rfl, dp_same s46 dy4, dp_same s46 dv2, gg.ok, os2, n1, fewG, fun f2 H7 s7 fn2 lf2 => ?_⟩
    have s47 := s46.trans s7
    refine ⟨(f1 : Int), (f2 : Int), rfl, ?_⟩
    obtain ⟨f, ef, fl1, fl2⟩ : ∃ f : Nat, (if (f2 : Int) < (f1 : Int) then (f2 : Int) else (f1 : Int)) = (f : Int) ∧ f ≤ f1 ∧ f ≤ f2 := by
      by_cases e : (f2 : Int) < (f1 : Int)
      · exact ⟨f2, by rw [if_pos e], by omega, by omega⟩
      · exact ⟨f1, by rw [if_neg e], by omega, by omega⟩
    rw [ef]
    obtain ⟨sa, rfl, hSA⟩ := way_of (dp_same s47 dv14)
    obtain ⟨ua, rfl, hUA⟩ := way_of (dp_same s47 dv2)
    have rn1 : RN h f x1 := (rn_ln gh.k4 gh.len os1.1).mp (lf1.le fl1)
    have rn2 : RN g f x2 := (rn_ln gg.k4 gg.len os2.1).mp (lf2.le fl2)
    -- the sum
    refine ⟨_, rfl, _, rfl, _, rfl, sa, ua, _, _, rfl, .inr ⟨hSA, hUA, fun DZ nDZ => ?_⟩⟩
    have sDZ := same_upd (o := .lst []) nDZ
    have lsu : x1.length = x2.length := by rw [os1.1, os2.1]
    have l1 := os1.1
    refine lc_it (walk_zipT (K := K) (a := sa) (b := ua) (xs := x1.map V.int) (ys := x2.map V.int) (n := x1.length) (by rw [List.length_map, List.length_map, lsu, Nat.min_self])) (fun m4 H8 => Same H7 H8 ∧ H8 DZ = some (.lst (((List.zipWith (fun a b : Int => a + b) x1 x2).take m4).map V.int))) ⟨sDZ, upd_same⟩ ?_ ?_ ?_
    · rintro m4 H8 _ ⟨s8, _⟩
      exact ⟨s8.seqT hSA, s8.seqT hUA⟩
    · rintro m4 v H8 H9 hm4 ⟨s8, hDZ⟩ ⟨U4, y1', y2', rfl, nU4, rfl, g1, g2⟩
      obtain ⟨u1, e1, rfl⟩ := ints_get g1
      obtain ⟨u2, e2, rfl⟩ := ints_get g2
      have sU4 := same_upd (o := .tup [V.int u1, V.int u2]) nU4
      refine ⟨U4, _, rfl, SqT.of upd_same, rfl, _, _, rfl, _, _, rfl, rfl, rfl, ?_⟩
      refine ⟨_, rfl, _, rfl, u1, u2, rfl, rfl, _, sU4 _ _ hDZ, ?_, fun b o e => ?_, ?_⟩
      · rw [List.length_map, List.length_take, List.length_zipWith]
        exact small_line (by omega)
      · rw [upd_ne (ne_of_none e nDZ)]
        exact sU4 _ _ (s8 _ _ e)
      · rw [upd_same, zip_take e1 e2, List.map_append]
        rfl
    · rintro H8 ⟨s8, hDZ⟩
      rw [List.take_of_length_le (by rw [List.length_zipWith]; omega)] at hDZ
      refine ⟨DZ, _, rfl, .inl ⟨SqL.of hDZ, fun DW nDW => ?_⟩⟩
      have sDW := same_upd (o := .tup ((List.zipWith (fun a b : Int => a + b) x1 x2).map V.int)) nDW
      have dDW : Dp K _ (.ref DW) (wayD (adR x1 x2)) := of_way (SqT.of (upd_same (H := H8) (a := DW) (o := .tup ((List.zipWith (fun a b : Int => a + b) x1 x2).map V.int))))
      have s49 := (s47.trans s8).trans sDW
      have s59 := ((s6.trans s7).trans s8).trans sDW
      generalize upd H8 DW (.tup ((List.zipWith (fun a b : Int => a + b) x1 x2).map V.int)) = H9 at dDW s49 s59
      clear sDW sDZ nDW nDZ hDZ s8
      have lad : (adR x1 x2).length = kd := by rw [adR_len (by omega), l1]
      have k4 := gh.k4
      refine ⟨_, rfl, v3, .ref DW, h ++ g, adR x1 x2, kd, f, rfl, dp_same s59 d3, dDW, gT.ok, by omega, by omega, okR_ad os1.2 os2.2, by omega, fewT.le (by omega), fun b1 H10 s10 hb1 => ?_⟩
      obtain rfl : b1 = true := hb1.mpr ((rn_ln gT.k4 gT.len lad).mpr (rn_together os1.2 os2.2 rn1 rn2))
      refine ⟨_, rfl, ifF rfl ?_⟩
      have s410 := s49.trans s10
      have s510 := s59.trans s10
      -- what lasts together lasts in each
      refine ⟨fun σ H' => σ = [some (V.ref p), some (V.ref xa), some y, some (V.int (n : Int)), some (V.ref sa), some (V.ref ua), some v3, some (V.int (f : Int)), none, none] ∧ Same H4 H', ?_, ?_⟩
      · refine ⟨_, rfl, _, rfl, _, rfl, v3, .ref sa, h ++ g, x1, kd, n, rfl, dp_same s510 d3, dp_same s410 dv14, gT.ok, by omega, by omega, os1.2, n1, fewT, fun b2 H11 s11 hb2 => ?_⟩
        have s411 := s410.trans s11
        refine ⟨b2, rfl, ?_⟩
        cases b2 with
        | false => exact ifF rfl (ifF rfl ⟨rfl, s411⟩)
        | true =>
          refine ifT rfl ?_
          have both := hb2.mp rfl
          refine ⟨_, rfl, _, rfl, _, rfl, .ref xa, .ref sa, h, x1, kd, n, rfl, dp_same s411 dx4, dp_same s411 dv14, gh.ok, by omega, by omega, os1.2, n1, fewH, fun b3 H12 s12 hb3 => ?_⟩
          have s412 := s411.trans s12
          obtain rfl : b3 = true := hb3.mpr (LN.sub (askS_sub46 fun b hb => ⟨b, List.mem_append_left _ hb, fun w hw => hw⟩) both)
          refine ⟨_, rfl, ifT rfl ?_⟩
          refine ⟨_, rfl, _, rfl, _, rfl, y, .ref sa, g, x1, kd, n, rfl, dp_same s412 dy4, dp_same s412 dv14, gg.ok, by omega, by omega, os1.2, n1, fewG, fun b4 H13 s13 hb4 => ?_⟩
          obtain rfl : b4 = true := hb4.mpr (LN.sub (askS_sub46 fun b hb => ⟨b, List.mem_append_right _ hb, fun w hw => hw⟩) both)
          exact ⟨_, rfl, ifF rfl ⟨rfl, s412.trans s13⟩⟩
      · rintro σ H11 ⟨rfl, s411⟩
        have dx11 := dp_same s411 dx4
        have gHH := gh.app gh (by omega)
        refine ⟨_, rfl, _, rfl, .ref xa, .ref xa, h, h, rfl, dx11, dx11, by omega, fun v4 H12 s12 d4 => ?_⟩
        refine ⟨_, rfl, v4, h ++ h, kd, n, rfl, d4, gHH.ok, n1, gHH.few2 k2 (t := 27) st (by decide), fun q3 H13 ps3 M3 s13 nq3 hq3 d3' can3 => ?_⟩
        have lo3 := lowsR_of gHH.ok can3
        generalize M3.map (fun x : List Int => x.take kd) = R3 at d3' lo3
        have s1213 := s12.trans s13
        refine ⟨_, rfl, _, rfl, .ref xa, h, kd, n, rfl, dp_same s1213 dx11, gh.ok, n1, fewH, fun q4 H14 ps4 M4 s14 nq4 hq4 d4' can4 => ?_⟩
        have lo4 := lowsR_of gh.ok can4
        generalize M4.map (fun x : List Int => x.take kd) = R4 at d4' lo4
        obtain rfl := lows_twice lo3 lo4
        refine ⟨stsD R3, stsD R3, .lst (SqL.of (s14 _ _ hq3)) (dpAll_same s14 d3'), .lst (SqL.of hq4) d4', sts_shaped _, sts_shaped _, ?_⟩
        rw [eqv_sts_self]
        have s414 := (s411.trans s1213).trans s14
        exact q _ (kp04.same s414) ((P4.same s414).mono (by omega))
end
/-! ### so many times a house -/
def sTimR : Stmt := topS 38
theorem G72.w1 {h : Asks} {s : Int} (o : G72 h 1 s) : Ways4 (asks4 h) s 0 0 0 :=
  ⟨o.s0, Int.le_refl 0, Int.le_refl 0, Int.le_refl 0, fun a ha w hw => by
    obtain ⟨a0, ha0, rfl⟩ := List.mem_map.mp ha
    obtain ⟨l, hl, rfl⟩ := List.mem_map.mp hw
    match l, o.len a0 ha0 l hl, o.num a0 ha0 l hl with
    | [a], _, n => exact ⟨a, 0, 0, 0, rfl, n a (by simp), by decide, by decide, by decide⟩⟩
theorem few_times {h : Asks} {kd n : Nat} {s m : Int} (o : G72 h kd s) (k2 : kd ≤ 2) (st : s * n ≤ 27) (s2 : kd = 2 → s * n ≤ 6) (m1 : 1 ≤ m) (m4 : m ≤ 4) : FewP none (oneR (asks4 (timesH m h))) n := by
  have sn : 0 ≤ s * (n : Int) := Int.mul_nonneg o.s0 (by omega)
  have e : s * m * (n : Int) = s * n * m := by rw [Int.mul_assoc, Int.mul_comm m, ← Int.mul_assoc]
  have oT := o.times m1
  by_cases k : kd = 2
  · have h1 : s * (n : Int) * m ≤ 6 * 4 := Int.mul_le_mul (s2 k) m4 (by omega) (by decide)
    exact oT.few2 k2 (t := 24) (by omega) (by decide)
  · have h1 : s * (n : Int) * m ≤ 27 * 4 := Int.mul_le_mul st m4 (by omega) (by decide)
    obtain rfl : kd = 1 := by have := o.k1; omega
    exact fewBox oT.w1 (t1 := 108) (t2 := 0) (t3 := 0) (by omega) (by omega) (by omega) (by decide) (by decide) (by decide)
def spTimR (K : PySem.W.Frag) : Sp := fun vs H Q _ => ∃ (p c : Addr) (ns : List Int) (m : Nat) (x : V) (h : Asks) (kd n : Nat) (s : Int), vs = [.ref p, x, .int (n : Int)] ∧ Pen H p c ns m ∧ m + 100 < penMost ∧ Dp K H x (houseD h) ∧ G72 h kd s ∧ h.length ≤ 2 ∧ kd ≤ 2 ∧ s * n ≤ 27 ∧ (kd = 2 → s * n ≤ 6) ∧ n ≤ 5 ∧
  ∀ H', Kp p H H' → Pen H' p c ns (m + 100) → Q (.bl true) H'
section
variable {P : Program} {w : World} {K : PySem.W.Frag} {mg : Str → Option Value} {base : Heap}
theorem scTimR : FnScope ["pen", "house", "n", "many", "store", "parts", "one", "low"] ["pen", "house", "n"] (defScope sTimR) := ⟨rfl, rfl, rfl, by decide +kernel, rfl, by decide +kernel, by decide +kernel⟩
theorem ok_timR {f fS fL fB fM fG fT fI : Addr} {fd dS dL dB dM dG dT dI : FuncData} {k : Nat} (F : Fun K "_law_times_right" "_law_times_right" sTimR f fd) (T : C46 P w K mg base k fS fL fB fM fG dS dL dB dM dG)
    (GT : FnOk P w K mg base CX0 k fT dT ["pen", "amount"] spTake) (kT : PySem.W.keepIn K (.ref fT) = true) (bT : Binds K dT ["pen", "amount"] []) (gT : mg "_law_take" = some (.ref fT))
    (GI : FnOk P w K mg base CX0 k fI dI ["house", "m"] (spTimes K)) (kI : PySem.W.keepIn K (.ref fI) = true) (bI : Binds K dI ["house", "m"] []) (gI : mg "times" = some (.ref fI)) : FnOk P w K mg base CX0 (k + 1) f fd ["pen", "house", "n"] (spTimR K) := by
  refine F.ok scTimR (fun vs H Q E h => ?_) (fun cdv A outer s0 H vs Q E hr h => ?_)
  · obtain ⟨p, c, ns, m, x, h, kd, n, s, rfl, _⟩ := h
    rfl
  · obtain ⟨p, c, ns, m, x, h, kd, n, s, rfl, hP, hm, dx, gh, lh, k2, st, s2, n5, q⟩ := h
    unfold penMost at hm
    refine ⟨_, pss_cons (ps_set (i := 3) scTimR.nd rfl (.inr rfl) (pe_op op_add pe_int (pe_call GT hr (by rfl) gT kT bT .nil pass0 (pa_cons (pv 0) (pa_cons pe_int pa_nil)))))
      (pss_cons (ps_set (i := 4) scTimR.nd rfl (.inl rfl) (pe_call T.GS hr (by rfl) T.gS T.kS T.bS .nil pass0 (pa_cons (pv 0) (pa_cons (pe_callB call_len_seq (by rfl) T.len PySem.boot_len (pa_cons (pe_ix ix_tup (pe_ix ix_tup (pv 1) pe_int (fun _ _ => rfl)) pe_int (fun _ _ => rfl)) pa_nil)) (pa_cons (pe_call T.GL hr (by rfl) T.gL T.kL T.bL .nil pass0 (pa_cons (pv 1) (pa_cons (pv 2) pa_nil))) pa_nil)))))
      (pss_cons (ps_set (i := 4) scTimR.nd rfl (.inl rfl) (pe_callTy call_tuple_of (by rfl) T.tuple (by decide +kernel) (pa_cons (pe_lc (own := [("one", 6)]) (g := gName 6) (tt := tYes) rfl scTimR.nd (pi_tup (pv 4))
        (blkOk_by (N := ["pen", "house", "n", "many", "store", "parts", "one", "low"]) (sc := defScope sTimR) (by decide +kernel)) (fun _ _ _ _ _ => by exact (pg_name (i := 6) scTimR.nd rfl (.inl rfl))) (fun _ _ _ _ _ => pts_nil)
        (fun _ _ _ _ _ => by exact (pe_op op_add (pe_op op_mul (pv 3) (pv 6)) (pe_call GT hr (by rfl) gT kT bT .nil pass0 (pa_cons (pv 0) (pa_cons (pv 3) pa_nil)))))) pa_nil)))
      (pss_cons (ps_set (i := 5) scTimR.nd rfl (.inl rfl) (pe_callTy call_tuple_of (by rfl) T.tuple (by decide +kernel) (pa_cons (pe_lc (own := [("one", 6)]) (g := gName 6) (tt := tYes) rfl scTimR.nd (pi_tup (pv 4))
        (blkOk_by (N := ["pen", "house", "n", "many", "store", "parts", "one", "low"]) (sc := defScope sTimR) (by decide +kernel)) (fun _ _ _ _ _ => by exact (pg_name (i := 6) scTimR.nd rfl (.inl rfl))) (fun _ _ _ _ _ => pts_nil)
        (fun _ _ _ _ _ => by exact (pe_op op_fdiv (pv 6) (pv 3)))) pa_nil)))
      (pss_cons (ps_if (pt_cmpR op_ne (pe_call T.GB hr (by rfl) T.gB T.kB T.bB .nil pass0 (pa_cons (pe_call GI hr (by rfl) gI kI bI .nil pass0 (pa_cons (pv 1) (pa_cons (pv 3) pa_nil))) (pa_cons (pv 4) (pa_cons (pv 2) pa_nil)))) (pe_call T.GB hr (by rfl) T.gB T.kB T.bB .nil pass0 (pa_cons (pv 1) (pa_cons (pv 5) (pa_cons (pv 2) pa_nil)))) (nomark _)) (pss_one (ps_ret pe_bl)) pss_nil)
      (pss_one (ps_ret (pe_cmpR (op_eqD hr.units) (pe_call T.GL hr (by rfl) T.gL T.kL T.bL .nil pass0 (pa_cons (pe_call GI hr (by rfl) gI kI bI .nil pass0 (pa_cons (pv 1) (pa_cons (pv 3) pa_nil))) (pa_cons (pv 2) pa_nil))) (pe_lc (own := [("low", 7)]) (g := gName 7) (tt := tYes) (te := (tCB (rTupOf K) (tCons (tLc (iTup K (tVar 7)) (gName 6) tYes (tOp (rI CMul fun i j => .int (i * j)) (tVar 3) (tVar 6)) [6]) tNil))) rfl scTimR.nd (pi_list (pe_call T.GL hr (by rfl) T.gL T.kL T.bL .nil pass0 (pa_cons (pv 1) (pa_cons (pv 2) pa_nil))))
        (blkOk_by (N := ["pen", "house", "n", "many", "store", "parts", "one", "low"]) (sc := defScope sTimR) (by decide +kernel)) (fun _ _ _ _ _ => by exact (pg_name (i := 7) scTimR.nd rfl (.inl rfl))) (fun _ _ _ _ _ => pts_nil)
        (fun _ _ _ _ _ => by exact (by
          refine pe_callTy call_tuple_of (by rfl) T.tuple (by decide +kernel) (pa_cons ?_ pa_nil)
          refine pe_lc (wi := iTup K (tVar 7)) (own := [("one", 6)]) (g := gName 6) (tt := tYes) (te := tOp (rI CMul fun i j => .int (i * j)) (tVar 3) (tVar 6)) ?_ ?_ ?_ ?_ ?_ ?_ ?_
          · rfl
          · exact scTimR.nd
          · exact (pi_tup (pv 7))
          · exact blkOk_by (N := ["pen", "house", "n", "many", "store", "parts", "one", "low"]) (sc := lcSc [(".0", .local), ("low", .local), ("tuple", .globalImplicit), ("many", .cell)]) (by decide +kernel)
          · exact fun _ _ _ _ _ => by exact (pg_name (i := 6) scTimR.nd rfl (.inl rfl))
          · exact fun _ _ _ _ _ => pts_nil
          · exact fun _ _ _ _ _ => by exact pe_op op_mul (pv 3) (pv 6)))) (nomark _)))))))), ?_⟩
    -- sem
    have k1 := gh.k1
    have n1 : n ≤ 1000 := by omega
    have fewH : FewP none (oneR (asks4 h)) n := gh.few2 k2 (t := 27) st (by decide)
    -- how many times
    refine ⟨_, rfl, p, c, ns, m, 3, rfl, hP, by unfold penMost; omega, by decide, by decide, fun r H1 r0 r1 kp1 P1 => ?_⟩
    refine ⟨2, r, rfl, rfl, ?_⟩
    obtain ⟨u, eu⟩ : ∃ u : Int, 2 + r = u := ⟨_, rfl⟩
    simp only [eu]
    have dx1 := hP.dp kp1 dx (noL_house h)
    obtain ⟨xa, as, ya, ws, wa, l0, rfl, hX, hv0, hY, hw0, hWa, ll0⟩ := fw46 gh dx1
    refine ⟨_, rfl, _, rfl, xa, as, 0, .ref ya, rfl, rfl, hX, atI_nat (j := 0) hv0, ya, ws, 0, .ref wa, rfl, rfl, hY, atI_nat (j := 0) hw0, wa, _, rfl, .inr hWa, ?_⟩
    refine ⟨_, rfl, _, rfl, .ref xa, h, kd, n, rfl, dx1, gh.ok, n1, fewH, fun q1 H2 ps1 M1 s2' nq1 hq1 d1 can1 => ?_⟩
    have lo1 := lowsR_of gh.ok can1
    generalize M1.map (fun x : List Int => x.take kd) = R1 at d1 lo1
    refine ⟨p, c, ns, _, q1, ps1, R1, kd, by rw [List.length_map, ll0]; rfl, P1.same s2', by unfold penMost; omega, hq1, (P1.nep nq1).1.symm, d1, lo1.ne gh, Nat.le_trans (lo1.few gh k2 st (by decide)) (by decide), lo1.ok, k1, by omega, fun v1 H3 x1 kp3 P3 dv1 os1 => ?_⟩
    have kp03 := (kp1.same s2').trans kp3
    have dx3 := hP.dp kp03 dx (noL_house h)
    clear hX hY hWa hv0 hw0 ll0 kp3 d1 hq1 nq1 s2' dx1 P1
    obtain ⟨sa, rfl, hSA⟩ := way_of dv1
    -- a store of so many times
    obtain ⟨_, hp3⟩ := P3.at
    refine ⟨_, rfl, sa, rfl, ⟨_, hSA⟩, fun D nD => ?_⟩
    have sD := same_upd (o := .lst []) nD
    obtain ⟨npD, ncD⟩ := P3.nep nD
    have l1 := os1.1
    refine lc_tup (K := K) (a := sa) (xs := x1.map V.int) (fun j H5 => Kp p H3 H5 ∧ Pen H5 p c ns (m + 1 + 20 + j) ∧ ∃ xs : List Int, H5 D = some (.lst (xs.map V.int)) ∧ xs.length = j ∧ ∀ x ∈ xs, 0 ≤ x)
      ⟨sD.kp, P3.same sD, [], upd_same, rfl, by simp⟩ (fun j H5 _ ⟨kp5, _⟩ => kp5.seqT hp3 hSA) ?_ ?_
    · rintro j v H5 hj ⟨kp5, P5, xs, hD, lx, bx⟩
      obtain ⟨z, hz, rfl⟩ := ints_get hj
      have z0 := os1.2 z (List.mem_of_getElem? hz)
      have jl := (List.getElem?_eq_some_iff.mp hz).1
      refine ⟨rfl, ?_⟩
      refine ⟨_, rfl, _, rfl, u, z, rfl, rfl, .inl ⟨by omega, by omega⟩, ?_⟩
      refine ⟨_, rfl, _, rfl, p, c, ns, _, u, rfl, P5, by unfold penMost; omega, by omega, by omega, fun r2 H6 r20 r21 kp6 P6 => ?_⟩
      have uz : 0 ≤ u * z := Int.mul_nonneg (by omega) z0
      refine ⟨u * z, r2, rfl, rfl, _, kp6 _ _ hD npD.symm, by rw [List.length_map]; exact small_line (by omega), ?_⟩
      refine ⟨(kp5.trans kp6).put nD, P6.put npD ncD, xs ++ [u * z + r2], ?_, by rw [List.length_append, lx]; rfl, mem_app1 bx (by omega)⟩
      rw [upd_same, List.map_append]
      rfl
    rintro H5 ⟨kp5, P5, xs, hD, lx, bx⟩
    rw [List.length_map] at lx
    refine ⟨D, _, rfl, .inl ⟨SqL.of hD, fun W nW => ?_⟩⟩
    have sW := same_upd (o := .tup (xs.map V.int)) nW
    have hW := SqT.of (K := K) (upd_same (H := H5) (a := W) (o := .tup (xs.map V.int)))
    have P6 := (P5.mono (show m + 1 + 20 + (x1.map V.int).length ≤ m + 30 by rw [List.length_map]; omega)).same sW
    have kp06 := kp03.trans (kp5.same sW)
    have dx6 := hP.dp kp06 dx (noL_house h)
    have oxs : StK kd xs := ⟨by omega, bx⟩
    generalize upd H5 W (.tup (xs.map V.int)) = H6 at hW P6 kp06 dx6
    clear hD sW nW sD nD kp5 P5 hSA dv1 P3 hp3 kp03 dx3 npD ncD
    have lxs : xs.length = kd := oxs.1
    -- its parts
    refine ⟨_, rfl, W, rfl, ⟨_, hW⟩, fun DV nDV => ?_⟩
    refine lc_tupD (S := xs) (f := PyData.int) (h := PyData.int) (w := (· / u)) hW (dpAll_ints xs) nDV (by omega) (fun _ => rfl) noL_int (fun i3 x z H7 s7 hz dz Q3 q3 => ?_) (fun H7 ps s7 hDV dps => ?_)
    · cases dz
      exact ⟨_, rfl, _, rfl, _, _, rfl, rfl, ⟨by omega, by omega⟩, q3 _ H7 (Same.refl _) (.int _)⟩
    refine ⟨DV, ps, rfl, .inl ⟨SqL.of hDV, fun DT nDT => ?_⟩⟩
    have sDT := same_upd (o := .tup ps) nDT
    have dDT : Dp K (upd H7 DT (.tup ps)) (.ref DT) (wayD (xs.map (· / u))) := .tup (SqT.of upd_same) (dpAll_same sDT dps)
    have s68 := s7.trans sDT
    generalize upd H7 DT (.tup ps) = H8 at dDT s68
    clear sDT nDT hDV dps nDV s7
    have dW6 : Dp K H6 (.ref W) (wayD xs) := of_way hW
    have dx8 := dp_same s68 dx6
    -- so many times
    have gI' := gh.times (m := u) (by omega)
    have fewI := few_times gh k2 st s2 (m := u) (by omega) (by omega)
    refine ⟨_, rfl, _, rfl, .ref xa, h, kd, u, rfl, dx8, gh.ok, by omega, by omega, fun v2 H9 s9 d2 => ?_⟩
    have s69 := s68.trans s9
    refine ⟨_, rfl, _, rfl, v2, .ref W, timesH u h, xs, kd, n, rfl, d2, dp_same s69 dW6, gI'.ok, by omega, by omega, oxs.2, n1, fewI, fun b4 H10 s10 hb4 => ?_⟩
    have s610 := s69.trans s10
    refine ⟨_, rfl, _, rfl, _, rfl, .ref xa, .ref DT, h, xs.map (· / u), kd, n, rfl, dp_same s610 dx6, dp_same (s9.trans s10) dDT, gh.ok, by rw [List.length_map]; omega, by rw [List.length_map]; omega, (okR_div (by omega)).mp oxs.2, n1, fewH, fun b5 H11 s11 hb5 => ?_⟩
    have e4 : b4 = b5 := by
      rw [Bool.eq_iff_iff, hb4, hb5, rn_ln gh.k4 gh.len (by rw [List.length_map, lxs]), ← rn_times (by omega)]
      exact rn_ln gI'.k4 gI'.len lxs
    refine ⟨rfl, _, rfl, ?_⟩
    rw [e4, bnot_self]
    refine ifF rfl ?_
    have s611 := s610.trans s11
    have dx11 := dp_same s611 dx6
    -- the least ones
    refine ⟨_, rfl, _, rfl, .ref xa, h, kd, u, rfl, dx11, gh.ok, by omega, by omega, fun v3 H12 s12 d3 => ?_⟩
    refine ⟨_, rfl, v3, timesH u h, kd, n, rfl, d3, gI'.ok, n1, fewI, fun q3 H13 ps3 M3 s13 nq3 hq3 d3' can3 => ?_⟩
    have lo3 := lowsR_of gI'.ok can3
    generalize M3.map (fun x : List Int => x.take kd) = R3 at d3' lo3
    have s1113 := s12.trans s13
    refine ⟨_, rfl, _, rfl, .ref xa, h, kd, n, rfl, dp_same s1113 dx11, gh.ok, n1, fewH, fun q4 H14 ps4 M4 s14 nq4 hq4 d4' can4 => ?_⟩
    have lo4 := lowsR_of gh.ok can4
    generalize M4.map (fun x : List Int => x.take kd) = R4 at d4' lo4
    have lps4 := sts_len d4'
    have few4 := lo4.few gh k2 st (by decide)
    refine ⟨q4, rfl, ⟨_, SqL.of hq4⟩, fun Z nZ => ?_⟩
    have sZ := same_upd (o := .lst []) nZ
    refine lc_list (K := K) (a := q4) (xs := ps4) (fun j H5 => Same H14 H5 ∧ ∃ vs, H5 Z = some (.lst vs) ∧ DpAll K H5 vs (((R4.take j).map (List.map (u * ·))).map wayD)) ⟨sZ, [], upd_same, .nil⟩ (fun j H5 _ ⟨s5, _⟩ => SqL.of (s5 _ _ hq4)) ?_ ?_
    · rintro j v H15 hj ⟨s15, vs, hZ, dZ⟩
      obtain ⟨t, ht, dv⟩ := sts_get (dpAll_same s15 d4') hj
      have jl := (List.getElem?_eq_some_iff.mp ht).1
      have okt := lo4.ok t (List.mem_of_getElem? ht)
      have tl := okt.1
      obtain ⟨ta, rfl, hT⟩ := way_of dv
      have lvs := dpAll_len dZ
      simp only [List.length_map, List.length_take] at lvs
      refine ⟨rfl, ?_⟩
      refine ⟨_, rfl, ta, rfl, ⟨_, hT⟩, fun G nG => ?_⟩
      refine lc_tupD (S := t) (f := PyData.int) (h := PyData.int) (w := (u * ·)) hT (dpAll_ints t) nG (by omega) (fun _ => rfl) noL_int (fun i3 x z H7 s7 hz dz Q3 q3 => ?_) (fun H16 ps s16 hG dps => ?_)
      · cases dz
        exact ⟨_, rfl, _, rfl, _, _, rfl, rfl, .inl ⟨by omega, by omega⟩, q3 _ H7 (Same.refl _) (.int _)⟩
      · refine ⟨G, ps, rfl, .inl ⟨SqL.of hG, fun W2 nW2 => ?_⟩⟩
        have s17 := same_upd (o := .tup ps) nW2
        have dv : Dp K (upd H16 W2 (.tup ps)) (.ref W2) (wayD (t.map (u * ·))) := .tup (SqT.of upd_same) (dpAll_same s17 dps)
        have s1517 := s16.trans s17
        refine ⟨vs, s1517 _ _ hZ, small_line (by omega), fun b o e => ?_, vs ++ [V.ref W2], upd_same, ?_⟩
        · rw [upd_ne (ne_of_none e nZ)]
          exact s1517 _ _ (s15 _ _ e)
        · rw [take_snoc ht, List.map_append]
          exact dpAll_put (s1517 _ _ hZ) (dpAll_app1 (dpAll_same s1517 dZ) dv) (noLAll_map noL_way _)
    rintro H15 ⟨s15, vs, hZ, dZ⟩
    rw [take_all lps4] at dZ
    have eR := lows_times (m := u) (by omega) k1 k2 gh.len gI'.len lo3 lo4
    rw [← eR] at dZ
    have s1115 := (s1113.trans s14).trans s15
    refine ⟨stsD R3, stsD R3, .lst (SqL.of ((s14.trans s15) _ _ hq3)) (dpAll_same (s14.trans s15) d3'), .lst (SqL.of hZ) dZ, sts_shaped _, sts_shaped _, ?_⟩
    rw [eqv_sts_self]
    have s615 := s611.trans s1115
    exact q _ (kp06.same s615) ((P6.same s615).mono (by omega))
end
/-! ### max of a list of ints, and two houses beside (plain) -/
def rMaxLi (K : PySem.W.Frag) : List V → Hp → VK → Prop := fun vs H Q => ∃ (a : Addr) (n : Int) (ns : List Int), vs = [V.ref a] ∧ SqL K H a ((n :: ns).map V.int) ∧ Q (.int (ns.foldl max n)) H
theorem cr_maxLi {X : Cx} {k : Nat} (hc : X.calm = true) (room : Room k X.A) : CallR X (.builtin "max") (rMaxLi X.K) := by
  intro pins s σ H vs us Q I r h
  obtain ⟨a, n, ns, rfl, seq, q⟩ := h
  obtain ⟨its, vals, pl, _⟩ := I.list seq
  rw [Vals.ref1 r]
  obtain ⟨as, reads⟩ := ints_readsAll (h := s.heap) vals
  have alike : PySem.W.AlikeAll ((n :: ns).map PyData.int) := by
    refine ⟨fun x hx y hy => ?_, fun x hx e => ?_⟩
    · obtain ⟨i, _, rfl⟩ := List.mem_map.mp hx
      obtain ⟨j, _, rfl⟩ := List.mem_map.mp hy
      simp [PySem.W.alike]
    · obtain ⟨i, _, rfl⟩ := List.mem_map.mp hx
      cases e
  have un := room.un
  have dp := depthAll_ints (n :: ns)
  refine PySem.W.max_list_data (I.ok.hd hc) pl.isList (by simpa using reads) alike (by show X.A.units + 1 + _ < _; have : PyData.depthAll (PyData.int n :: ns.map PyData.int) ≤ 1 := dp; omega) fun i v h' tk bs hv rd keeps => ?_
  rw [PySem.W.maxD_ints] at rd
  cases rd with
  | int _ t => exact ⟨.int _, H, I.kept keeps, ⟨t, rfl⟩, q⟩
theorem ways12 {h g : Asks} {s : Int} (o : G72 h 1 s) (p : G72 g 2 2) : Ways4 (asks4 (besideH 1 2 h g)) s 2 2 0 := by
  have s0 := o.s0
  refine ⟨s0, by decide, by decide, by decide, fun a ha w hw => ?_⟩
  obtain ⟨a0, ha0, rfl⟩ := List.mem_map.mp ha
  obtain ⟨l, hl, rfl⟩ := List.mem_map.mp hw
  rcases List.mem_append.mp ha0 with m | m
  · obtain ⟨a1, ha1, rfl⟩ := List.mem_map.mp m
    obtain ⟨l1, hl1, rfl⟩ := List.mem_map.mp hl
    match l1, o.len a1 ha1 l1 hl1, o.num a1 ha1 l1 hl1 with
    | [a], _, n => exact ⟨a, 0, 0, 0, rfl, n a (by simp), by decide, by decide, by decide⟩
  · obtain ⟨a1, ha1, rfl⟩ := List.mem_map.mp m
    obtain ⟨l1, hl1, rfl⟩ := List.mem_map.mp hl
    match l1, p.len a1 ha1 l1 hl1, p.num a1 ha1 l1 hl1 with
    | [a, b], _, n => exact ⟨0, a, b, 0, rfl, by omega, n a (by simp), n b (by simp), by decide⟩
theorem ways21 {h g : Asks} {s : Int} (o : G72 h 2 s) (p : G72 g 1 2) : Ways4 (asks4 (besideH 2 1 h g)) s s 2 0 := by
  have s0 := o.s0
  refine ⟨s0, s0, by decide, by decide, fun a ha w hw => ?_⟩
  obtain ⟨a0, ha0, rfl⟩ := List.mem_map.mp ha
  obtain ⟨l, hl, rfl⟩ := List.mem_map.mp hw
  rcases List.mem_append.mp ha0 with m | m
  · obtain ⟨a1, ha1, rfl⟩ := List.mem_map.mp m
    obtain ⟨l1, hl1, rfl⟩ := List.mem_map.mp hl
    match l1, o.len a1 ha1 l1 hl1, o.num a1 ha1 l1 hl1 with
    | [a, b], _, n => exact ⟨a, b, 0, 0, rfl, n a (by simp), n b (by simp), by decide, by decide⟩
  · obtain ⟨a1, ha1, rfl⟩ := List.mem_map.mp m
    obtain ⟨l1, hl1, rfl⟩ := List.mem_map.mp hl
    match l1, p.len a1 ha1 l1 hl1, p.num a1 ha1 l1 hl1 with
    | [a], _, n => exact ⟨0, 0, a, 0, rfl, by omega, by omega, n a (by simp), by decide⟩
/-- the sizes that the law draws -/
def Cfg46 (kd n : Nat) (s : Int) : Prop := kd = 1 ∧ (s * n ≤ 15 ∧ n ≤ 5 ∨ s * n ≤ 27 ∧ n ≤ 3) ∨ kd = 2 ∧ s * n ≤ 6 ∧ n ≤ 4
theorem few_bes46 {h g : Asks} {kd kg n : Nat} {s : Int} (o : G72 h kd s) (p : G72 g kg 2) (cf : Cfg46 kd n s) (kg2 : kg ≤ 2) (f4 : h.length + g.length ≤ 4) : FewP none (oneR (asks4 (besideH kd kg h g))) n := by
  have g1 := p.k1
  have e2 : kg = 1 ∨ kg = 2 := by omega
  -- both within the greater of their sizes
  obtain ⟨s', l1, l2, es⟩ : ∃ s' : Int, s ≤ s' ∧ 2 ≤ s' ∧ (s' = s ∨ s' = 2) := by
    by_cases c : s ≤ 2
    · exact ⟨2, c, by decide, .inr rfl⟩
    · exact ⟨s, by omega, by omega, .inl rfl⟩
  have b := (o.mono l1).beside (p.mono l2)
  rcases cf with ⟨rfl, c⟩ | ⟨rfl, c1, c2⟩
  · rcases e2 with rfl | rfl
    · refine (b (by omega) f4).few2 (by omega) (t := 27) ?_ (by decide)
      rcases es with rfl | rfl <;> omega
    · rcases c with ⟨c1, c2⟩ | ⟨c1, c2⟩
      · exact fewBox (ways12 o p) (t1 := 15) (t2 := 10) (t3 := 10) c1 (by omega) (by omega) (by decide) (by decide) (by decide)
      · exact fewBox (ways12 o p) (t1 := 27) (t2 := 6) (t3 := 6) c1 (by omega) (by omega) (by decide) (by decide) (by decide)
  · rcases e2 with rfl | rfl
    · exact fewBox (ways21 o p) (t1 := 6) (t2 := 6) (t3 := 8) c1 c1 (by omega) (by decide) (by decide) (by decide)
    · refine few_beside (t := 8) (b (by omega) f4).w4 ?_ o.len p.len (by decide) (by decide) (by decide)
      rcases es with rfl | rfl <;> omega
theorem Cfg46.n5 {kd n : Nat} {s : Int} (c : Cfg46 kd n s) : n ≤ 5 ∧ s * n ≤ 27 ∧ kd ≤ 2 ∧ (kd = 2 → s * n ≤ 6) := by
  rcases c with ⟨rfl, ⟨c1, c2⟩ | ⟨c1, c2⟩⟩ | ⟨rfl, c1, c2⟩
  · exact ⟨c2, by omega, by decide, fun e => (nomatch e)⟩
  · exact ⟨by omega, c1, by decide, fun e => (nomatch e)⟩
  · exact ⟨by omega, by omega, by decide, fun _ => c1⟩
/-- no number of a least one is above so many times the size -/
theorem LowsR.bd {h : Asks} {kd n : Nat} {s t : Int} {R : List (List Int)} (o : LowsR h kd n R) (g : G72 h kd s) (ht : s * n ≤ t) : ∀ r ∈ R, ∀ z ∈ r, z ≤ t := fun r hr z hz => by
  have s0 := g.s0
  have z0 : 0 ≤ s * (n : Int) := Int.mul_nonneg s0 (by omega)
  obtain ⟨a, b, c, d, e, ha, hb, hc, hd⟩ := canon_box o.can (t1 := t) (t2 := t) (t3 := t) (t4 := t) (by omega) (by omega) (by omega) (by omega) (fun x hx u => ln_clip g.w4 n hx ht ht ht ht u) (four r) (List.mem_map.mpr ⟨r, hr, rfl⟩)
  have : z ∈ four r := by
    unfold four
    exact List.mem_append_left _ hz
  rw [e] at this
  simp only [List.mem_cons, List.not_mem_nil, or_false] at this
  omega
theorem pairs_nodup {kd : Nat} : ∀ {R1 R2 : List (List Int)}, R1.Nodup → R2.Nodup → (∀ r ∈ R1, r.length = kd) → (R1.flatMap fun a => R2.map (a ++ ·)).Nodup
  | [], _, _, _, _ => by simp
  | a :: R1, R2, n1, n2, hl => by
    rw [List.flatMap_cons]
    obtain ⟨na, nr⟩ := List.nodup_cons.mp n1
    refine List.nodup_append.mpr ⟨?_, pairs_nodup nr n2 fun r hr => hl r (List.mem_cons_of_mem _ hr), fun x hx y hy e => ?_⟩
    · exact List.pairwise_map.mpr (n2.imp fun {x y} ne e => ne (List.append_cancel_left e))
    · obtain ⟨u, hu, rfl⟩ := List.mem_map.mp hx
      obtain ⟨b, hb, hy⟩ := List.mem_flatMap.mp hy
      obtain ⟨v, hv, rfl⟩ := List.mem_map.mp hy
      have := (List.append_inj e (by rw [hl a List.mem_cons_self, hl b (List.mem_cons_of_mem _ hb)])).1
      subst this
      exact na hb
/-! ### two houses beside -/
def sBesR : Stmt := topS 37
def rLen46 (K : PySem.W.Frag) : List V → Hp → VK → Prop := fun xs H Q => ∃ p ys, xs = [V.ref p] ∧ (SqL K H p ys ∨ SqT K H p ys) ∧ Q (V.int ↑ys.length) H
def spBesR (K : PySem.W.Frag) : Sp := fun vs H Q _ => ∃ (p c : Addr) (ns : List Int) (m : Nat) (x y : V) (h g : Asks) (kd kg n : Nat) (s : Int), vs = [.ref p, x, y, .int (n : Int)] ∧ Pen H p c ns m ∧ m + 100 < penMost ∧ Dp K H x (houseD h) ∧ Dp K H y (houseD g) ∧ G72 h kd s ∧ G72 g kg 2 ∧ h.length ≤ 2 ∧ g.length ≤ 2 ∧ kg ≤ 2 ∧ Cfg46 kd n s ∧
  ∀ H', Kp p H H' → Pen H' p c ns (m + 100) → Q (.bl true) H'
section
variable {P : Program} {w : World} {K : PySem.W.Frag} {mg : Str → Option Value} {base : Heap}
theorem scBesR : FnScope ["pen", "house", "far", "n", "one", "two", "both", "lows", "low", "k", "other"] ["pen", "house", "far", "n"] (defScope sBesR) := ⟨rfl, rfl, rfl, by decide +kernel, rfl, by decide +kernel, by decide +kernel⟩
theorem ok_besR {f fS fL fB fM fG fI : Addr} {fd dS dL dB dM dG dI : FuncData} {k : Nat} (F : Fun K "_law_beside_right" "_law_beside_right" sBesR f fd) (T : C46 P w K mg base k fS fL fB fM fG dS dL dB dM dG)
    (GI : FnOk P w K mg base CX0 k fI dI ["house", "other"] (spBeside K)) (kI : PySem.W.keepIn K (.ref fI) = true) (bI : Binds K dI ["house", "other"] []) (gI : mg "beside" = some (.ref fI))
    (mr : mg "range" = none) (mx : mg "max" = none) (ms : mg "sorted" = none) : FnOk P w K mg base CX0 (k + 1) f fd ["pen", "house", "far", "n"] (spBesR K) := by
  refine F.ok scBesR (fun vs H Q E h => ?_) (fun cdv A outer s0 H vs Q E hr h => ?_)
  · obtain ⟨p, c, ns, m, x, y, h, g, kd, kg, n, s, rfl, _⟩ := h
    rfl
  · obtain ⟨p, c, ns, m, x, y, h, g, kd, kg, n, s, rfl, hP, hm, dx, dy, gh, gg, lh, lg, kg2, cf, q⟩ := h
    unfold penMost at hm
    obtain ⟨n5, st, k2, s2⟩ := cf.n5
    have k1 := gh.k1
    have g1 := gg.k1
    have d1' : 1 ≤ kd + kg := by omega
    refine ⟨_, pss_cons (ps_par (i := 4) (j := 5) rfl scBesR.nd rfl rfl (by decide) rfl rfl (pa_cons (pe_call T.GS hr (by rfl) T.gS T.kS T.bS .nil pass0 (pa_cons (pv 0) (pa_cons (pe_callB call_len_seq (by rfl) T.len PySem.boot_len (pa_cons (pe_ix ix_tup (pe_ix ix_tup (pv 1) pe_int (fun _ _ => rfl)) pe_int (fun _ _ => rfl)) pa_nil)) (pa_cons (pe_call T.GL hr (by rfl) T.gL T.kL T.bL .nil pass0 (pa_cons (pv 1) (pa_cons (pv 3) pa_nil))) pa_nil)))) (pa_cons (pe_call T.GS hr (by rfl) T.gS T.kS T.bS .nil pass0 (pa_cons (pv 0) (pa_cons (pe_callB call_len_seq (by rfl) T.len PySem.boot_len (pa_cons (pe_ix ix_tup (pe_ix ix_tup (pv 2) pe_int (fun _ _ => rfl)) pe_int (fun _ _ => rfl)) pa_nil)) (pa_cons (pe_call T.GL hr (by rfl) T.gL T.kL T.bL .nil pass0 (pa_cons (pv 2) (pa_cons (pv 3) pa_nil))) pa_nil)))) pa_nil)) (by rfl))
      (pss_cons (ps_set (i := 6) scBesR.nd rfl (.inl rfl) (pe_call GI hr (by rfl) gI kI bI .nil pass0 (pa_cons (pv 1) (pa_cons (pv 2) pa_nil))))
      (pss_cons (ps_if (pt_cmpR op_gt (pe_callB (cr_maxLi rfl hr) (by rfl) mx (by decide +kernel) (pa_cons (pe_lc (own := [("k", 9)]) (g := gName 9) (tt := tYes) (te := (tOp (rI CMul fun i j => .int (i * j)) (tCB (rLen46 K) (tCons (tCall (spLeastP K) [] E0 (tCons (tVar 1) (tCons (tVar 9) tNil))) tNil)) (tCB (rLen46 K) (tCons (tCall (spLeastP K) [] E0 (tCons (tVar 2) (tCons (tVar 9) tNil))) tNil)))) rfl scBesR.nd (pi_range1 (by rfl) mr (pa_cons (pe_op op_add (pv 3) pe_int) pa_nil))
        (blkOk_by (N := ["pen", "house", "far", "n", "one", "two", "both", "lows", "low", "k", "other"]) (sc := defScope sBesR) (by decide +kernel)) (fun _ _ _ _ _ => by exact (pg_name (i := 9) scBesR.nd rfl (.inl rfl))) (fun _ _ _ _ _ => pts_nil)
        (fun _ _ _ _ _ => by exact (pe_op op_mul (pe_callB call_len_seq (by rfl) T.len PySem.boot_len (pa_cons (pe_call T.GL hr (by rfl) T.gL T.kL T.bL .nil pass0 (pa_cons (pv 1) (pa_cons (pv 9) pa_nil))) pa_nil)) (pe_callB call_len_seq (by rfl) T.len PySem.boot_len (pa_cons (pe_call T.GL hr (by rfl) T.gL T.kL T.bL .nil pass0 (pa_cons (pv 2) (pa_cons (pv 9) pa_nil))) pa_nil))))) pa_nil)) pe_int (nomark _)) (pss_one (ps_ret pe_bl)) pss_nil)
      (pss_cut (ps_if (pt_cmpR op_ne (pe_call T.GB hr (by rfl) T.gB T.kB T.bB .nil pass0 (pa_cons (pv 6) (pa_cons (pe_op op_catN (pv 4) (pv 5)) (pa_cons (pv 3) pa_nil)))) (pe_and (pe_call T.GB hr (by rfl) T.gB T.kB T.bB .nil pass0 (pa_cons (pv 1) (pa_cons (pv 4) (pa_cons (pv 3) pa_nil)))) (pe_one (pe_call T.GB hr (by rfl) T.gB T.kB T.bB .nil pass0 (pa_cons (pv 2) (pa_cons (pv 5) (pa_cons (pv 3) pa_nil)))))) (nomark _)) (pss_one (ps_ret pe_bl)) pss_nil)
      (pss_cons (ps_set (i := 7) scBesR.nd rfl (.inl rfl) (pe_lst pa_nil))
      (pss_cons (ps_for PassesOwn.never rfl (pi_list (pe_call T.GL hr (by rfl) T.gL T.kL T.bL .nil pass0 (pa_cons (pv 1) (pa_cons (pv 3) pa_nil)))) (pg_name (i := 8) scBesR.nd rfl (.inr rfl)) (pss_one (ps_expr (pe_bm PySem.F.plainAttrs_list PySem.F.slot_list_extend PySem.F.type_list_extend mt_extend (pv 7) (pa_cons (pe_lc (own := [("other", 10)]) (g := gName 10) (tt := tYes) (te := (tOp (rCatN K) (tVar 8) (tVar 10))) rfl scBesR.nd (pi_list (pe_call T.GL hr (by rfl) T.gL T.kL T.bL .nil pass0 (pa_cons (pv 2) (pa_cons (pv 3) pa_nil))))
        (blkOk_by (N := ["pen", "house", "far", "n", "one", "two", "both", "lows", "low", "k", "other"]) (sc := defScope sBesR) (by decide +kernel)) (fun _ _ _ _ _ => by exact (pg_name (i := 10) scBesR.nd rfl (.inl rfl))) (fun _ _ _ _ _ => pts_nil)
        (fun _ _ _ _ _ => by exact (pe_op op_catN (pv 8) (pv 10)))) pa_nil)))))
      (pss_one (ps_ret (pe_cmpR (op_eqD hr.units) (pe_call T.GL hr (by rfl) T.gL T.kL T.bL .nil pass0 (pa_cons (pv 6) (pa_cons (pv 3) pa_nil))) (pe_callB (cr_sortD (d := kd + kg) (B := 1000) d1') (by rfl) ms (by decide +kernel) (pa_cons (pv 7) pa_nil)) (nomark _))))))))), ?_⟩
    -- sem
    have n1 : n ≤ 1000 := by omega
    have st2 : (2 : Int) * n ≤ 27 := by omega
    have fewH : FewP none (oneR (asks4 h)) n := gh.few2 k2 (t := 27) st (by decide)
    have fewG : FewP none (oneR (asks4 g)) n := gg.few2 kg2 (t := 27) st2 (by decide)
    have fewB := few_bes46 gh gg cf kg2 (show h.length + g.length ≤ 4 by omega)
    have gB := (gh.mono (show s ≤ max s 2 by omega)).beside (gg.mono (show 2 ≤ max s 2 by omega)) (by omega) (by omega)
    obtain ⟨xa, as, ya, ws, wa, l0, rfl, hX, hv0, hY, hw0, hWa, ll0⟩ := fw46 gh dx
    -- one
    refine ⟨_, rfl, _, rfl, xa, as, 0, .ref ya, rfl, rfl, hX, atI_nat (j := 0) hv0, ya, ws, 0, .ref wa, rfl, rfl, hY, atI_nat (j := 0) hw0, wa, _, rfl, .inr hWa, ?_⟩
    refine ⟨_, rfl, _, rfl, .ref xa, h, kd, n, rfl, dx, gh.ok, n1, fewH, fun q1 H1 ps1 M1 s1 nq1 hq1 d1 can1 => ?_⟩
    have lo1 := lowsR_of gh.ok can1
    generalize M1.map (fun x : List Int => x.take kd) = R1 at d1 lo1
    refine ⟨p, c, ns, m, q1, ps1, R1, kd, by rw [List.length_map, ll0]; rfl, hP.same s1, by unfold penMost; omega, hq1, (hP.nep nq1).1.symm, d1, lo1.ne gh, Nat.le_trans (lo1.few gh k2 st (by decide)) (by decide), lo1.ok, k1, by omega, fun v1 H2 x1 kp2 P2 dv1 os1 => ?_⟩
    have kp02 := s1.kp.trans kp2
    have dx2 := hP.dp kp02 dx (noL_house h)
    have dy2 := hP.dp kp02 dy (noL_house g)
    clear hX hY hWa hv0 hw0 ll0 kp2 d1 hq1 nq1 s1
    obtain ⟨ga, as, ya, ws, wa, l0, rfl, hX, hv0, hY, hw0, hWa, ll0⟩ := fw46 gg dy2
    -- two
    refine ⟨_, rfl, _, rfl, ga, as, 0, .ref ya, rfl, rfl, hX, atI_nat (j := 0) hv0, ya, ws, 0, .ref wa, rfl, rfl, hY, atI_nat (j := 0) hw0, wa, _, rfl, .inr hWa, ?_⟩
    refine ⟨_, rfl, _, rfl, .ref ga, g, kg, n, rfl, dy2, gg.ok, n1, fewG, fun q2 H3 ps2 M2 s3 nq2 hq2 d2 can2 => ?_⟩
    have lo2 := lowsR_of gg.ok can2
    generalize M2.map (fun x : List Int => x.take kg) = R2 at d2 lo2
    refine ⟨p, c, ns, _, q2, ps2, R2, kg, by rw [List.length_map, ll0]; rfl, P2.same s3, by unfold penMost; omega, hq2, (P2.nep nq2).1.symm, d2, lo2.ne gg, Nat.le_trans (lo2.few gg kg2 st2 (by decide)) (by decide), lo2.ok, g1, by omega, fun v2 H4 x2 kp4 P4 dv2 os2 => ?_⟩
    have kp24 := s3.kp.trans kp4
    have kp04 := kp02.trans kp24
    have dx4 := P2.dp kp24 dx2 (noL_house h)
    have dy4 := P2.dp kp24 dy2 (noL_house g)
    have dv14 := P2.dp kp24 dv1 (noL_way x1)
    clear hX hY hWa hv0 hw0 ll0 kp4 d2 hq2 nq2 s3 kp24 dx2 dy2 dv1 P2
    refine ⟨_, _, rfl, ?_⟩
    -- both
    refine ⟨_, rfl, _, rfl, .ref xa, .ref ga, h, g, kd, kg, rfl, dx4, dy4, gh.ok, gg.ok, fun v3 H5 s5 d3 => ?_⟩
    -- not too many pairs
    refine ⟨_, rfl, (n : Int), 1, rfl, rfl, (n : Int) + 1, rfl, by omega, by omega, fun D nD => ?_⟩
    have sD := same_upd (o := .lst []) nD
    refine lc_range (lo := 0) (n := ((n : Int) + 1).toNat) (fun j H6 => Same H5 H6 ∧ ∃ xs : List Int, H6 D = some (.lst (xs.map V.int)) ∧ xs.length = j ∧ ∀ (i : Nat) (z : Int), xs[i]? = some z → ∃ S1 S2, LowsR h kd i S1 ∧ LowsR g kg i S2 ∧ z = (S1.length : Int) * S2.length)
      ⟨sD, [], upd_same, rfl, fun i z e => (nomatch e)⟩ ?_ ?_
    · rintro j H6 hj ⟨s6, xs, hD, lx, bx⟩
      have jn : j ≤ n := by omega
      rw [Int.zero_add]
      refine ⟨rfl, ?_⟩
      have s46 := s5.trans s6
      refine ⟨_, rfl, _, rfl, .ref xa, h, kd, j, rfl, dp_same s46 dx4, gh.ok, by omega, fewH.le jn, fun q3 H7 ps3 M3 s7 nq3 hq3 d3' can3 => ?_⟩
      have lo3 := lowsR_of gh.ok can3
      generalize M3.map (fun x : List Int => x.take kd) = S1 at d3' lo3
      have lps3 := sts_len d3'
      refine ⟨q3, ps3, rfl, .inl (SqL.of hq3), ?_⟩
      have s47 := s46.trans s7
      refine ⟨_, rfl, _, rfl, .ref ga, g, kg, j, rfl, dp_same s47 dy4, gg.ok, by omega, fewG.le jn, fun q4 H8 ps4 M4 s8 nq4 hq4 d4' can4 => ?_⟩
      have lo4 := lowsR_of gg.ok can4
      generalize M4.map (fun x : List Int => x.take kg) = S2 at d4' lo4
      have lps4 := sts_len d4'
      have sj : s * (j : Int) ≤ 27 := Int.le_trans (Int.mul_le_mul_of_nonneg_left (by omega) gh.s0) st
      have f3 := lo3.few gh k2 sj (by decide)
      have f4 := lo4.few gg kg2 (show (2 : Int) * j ≤ 27 by omega) (by decide)
      refine ⟨q4, ps4, rfl, .inl (SqL.of hq4), _, _, rfl, rfl, .inl ⟨by omega, by omega⟩, ?_⟩
      have s68 := s7.trans s8
      refine ⟨_, s68 _ _ hD, by rw [List.length_map]; exact small_line (by omega), fun b o e => ?_, xs ++ [(ps3.length : Int) * ps4.length], ?_, by rw [List.length_append, lx]; rfl, fun i z ez => ?_⟩
      · rw [upd_ne (ne_of_none e nD)]
        exact s68 _ _ (s6 _ _ e)
      · rw [upd_same, List.map_append]
        rfl
      · by_cases c1 : i < xs.length
        · rw [List.getElem?_append_left c1] at ez
          exact bx i z ez
        · have il := (List.getElem?_eq_some_iff.mp ez).1
          rw [List.length_append, List.length_singleton] at il
          obtain rfl : i = xs.length := by omega
          rw [List.getElem?_append_right (Nat.le_refl _), Nat.sub_self] at ez
          obtain rfl := Option.some.inj ez
          rw [lx]
          exact ⟨S1, S2, lo3, lo4, by rw [lps3, lps4]⟩
    rintro H6 ⟨s6, xs, hD, lx, bx⟩
    have lx' : xs.length = n + 1 := by omega
    obtain ⟨z0, zs, rfl⟩ : ∃ z0 zs, xs = z0 :: zs := by
      match xs, lx' with
      | z0 :: zs, _ => exact ⟨z0, zs, rfl⟩
    refine ⟨D, z0, zs, rfl, SqL.of hD, _, 60, rfl, rfl, _, rfl, ite2 (fun _ => ?_) (fun c => ?_)⟩
    · have s46 := s5.trans s6
      exact q _ (kp04.same s46) ((P4.same s46).mono (by omega))
    have c : ¬ (60 : Int) < zs.foldl max z0 := fun z => c (decide_eq_true z)
    have all60 : ∀ z ∈ z0 :: zs, z ≤ 60 := fun z hz => by
      have := (foldl_max_le zs z0 60).mp (by omega)
      rcases List.mem_cons.mp hz with rfl | hz
      · exact this.1
      · exact this.2 z hz
    have pairs60 : ∀ S1 S2, LowsR h kd n S1 → LowsR g kg n S2 → S1.length * S2.length ≤ 60 := fun S1 S2 o1 o2 => by
      obtain ⟨z, hz⟩ : ∃ z, (z0 :: zs)[n]? = some z := ⟨_, List.getElem?_eq_getElem (by omega)⟩
      obtain ⟨T1, T2, t1, t2, e⟩ := bx n z hz
      have := all60 z (List.mem_of_getElem? hz)
      rw [o1.uniq t1, o2.uniq t2]
      have e' : ((T1.length * T2.length : Nat) : Int) = (T1.length : Int) * T2.length := Int.natCast_mul _ _
      omega
    obtain ⟨sa, rfl, hSA⟩ := way_of (dp_same (s5.trans s6) dv14)
    obtain ⟨ua, rfl, hUA⟩ := way_of (dp_same (s5.trans s6) dv2)
    have l1 := os1.1
    have l2 := os2.1
    have rn1 : LN (asks4 h) n (four x1) ↔ RN h n x1 := rn_ln gh.k4 gh.len l1
    have rn2 : LN (asks4 g) n (four x2) ↔ RN g n x2 := rn_ln gg.k4 gg.len l2
    have k4 := gh.k4
    have s46 := s5.trans s6
    have d36 := dp_same s6 d3
    refine ⟨fun σ H' => σ = [some (V.ref p), some (V.ref xa), some (V.ref ga), some (V.int (n : Int)), some (V.ref sa), some (V.ref ua), some v3, none, none, none, none] ∧ Same H6 H', ?_, ?_⟩
    · refine ⟨_, rfl, _, rfl, _, rfl, sa, ua, _, _, rfl, rfl, hSA, hUA, by rw [List.length_map, List.length_map, sizeLine_eq]; omega, fun c1 H7 s7 hc1 => ?_⟩
      refine ⟨_, rfl, v3, .ref c1, besideH kd kg h g, x1 ++ x2, kd + kg, n, rfl, dp_same s7 d36, of_way (by rw [List.map_append]; exact hc1), gB.ok, by rw [List.length_append]; omega, by rw [List.length_append]; omega, okR_app.mpr ⟨os1.2, os2.2⟩, n1, fewB, fun b1 H8 s8 hb1 => ?_⟩
      have s68 := s7.trans s8
      have s48 := s46.trans s68
      have e1 : b1 = true ↔ RN h n x1 ∧ RN g n x2 := by
        rw [hb1, ← rn_beside gh.len gg.len l1 l2 os1.2 os2.2]
        exact rn_ln gB.k4 gB.len (by rw [List.length_append, l1, l2])
      refine ⟨_, rfl, _, rfl, _, rfl, .ref xa, .ref sa, h, x1, kd, n, rfl, dp_same s48 dx4, of_way (s68.seqT hSA), gh.ok, by omega, by omega, os1.2, n1, fewH, fun b2 H9 s9 hb2 => ?_⟩
      refine ⟨b2, rfl, ?_⟩
      have s69 := s68.trans s9
      cases b2 with
      | false =>
        refine ifF rfl ?_
        have : b1 = false := by
          cases b1 with
          | false => rfl
          | true => exact absurd (hb2.mpr (rn1.mpr (e1.mp rfl).1)) (by decide)
        subst this
        exact ⟨rfl, _, rfl, ifF rfl ⟨rfl, s69⟩⟩
      | true =>
        refine ifT rfl ?_
        refine ⟨_, rfl, _, rfl, _, rfl, .ref ga, .ref ua, g, x2, kg, n, rfl, dp_same (s46.trans s69) dy4, of_way (s69.seqT hUA), gg.ok, by omega, by omega, os2.2, n1, fewG, fun b3 H10 s10 hb3 => ?_⟩
        have : b1 = b3 := by
          rw [Bool.eq_iff_iff, e1, hb3, rn2]
          exact ⟨fun z => z.2, fun z => ⟨rn1.mp (hb2.mp rfl), z⟩⟩
        subst this
        refine ⟨rfl, _, rfl, ?_⟩
        rw [bnot_self]
        exact ifF rfl ⟨rfl, s69.trans s10⟩
    · rintro σ H7 ⟨rfl, s67⟩
      have s47 := s46.trans s67
      have d37 := dp_same s67 d36
      have dx7 := dp_same s47 dx4
      have dy7 := dp_same s47 dy4
      -- the pairs
      refine ⟨by show 0 ≤ sizeLine; decide, fun L nL => ?_⟩
      have sL := same_upd (o := .lst []) nL
      have hL := upd_same (H := H7) (a := L) (o := .lst [])
      generalize upd H7 L (.lst []) = H8 at sL hL
      have s48 := s47.trans sL
      refine ⟨_, rfl, _, rfl, .ref xa, h, kd, n, rfl, dp_same sL dx7, gh.ok, n1, fewH, fun q3 H9 ps3 M3 s9 nq3 hq3 d3' can3 => ?_⟩
      have lo3 := lowsR_of gh.ok can3
      generalize M3.map (fun x : List Int => x.take kd) = S1 at d3' lo3
      have lps3 := sts_len d3'
      have nLq : L ≠ q3 := ne_of_none hL nq3
      have hL9 := s9 _ _ hL
      have nL4 : H4 L = none := s47.free nL
      refine ⟨q3, rfl, ⟨_, SqL.of hq3⟩, ?_⟩
      refine for_list (K := K) (a := q3) (xs := ps3) (fun j σ H10 => ∃ (z8 : Option V) (us : List V) (U : List (List Int)), σ = [some (V.ref p), some (V.ref xa), some (V.ref ga), some (V.int (n : Int)), some (V.ref sa), some (V.ref ua), some v3, some (V.ref L), z8, none, none] ∧ Kp L H9 H10 ∧ H10 L = some (.lst us) ∧ DpAll K H10 us (U.map wayD) ∧ U = (S1.take j).flatMap fun a => R2.map (a ++ ·))
        ⟨none, [], [], rfl, Kp.refl _ _, hL9, .nil, rfl⟩ (fun j σ H10 _ ⟨_, _, _, _, kp, _⟩ => SqL.of (kp _ _ hq3 nLq.symm)) ?_ ?_
      · rintro j v σ H10 hj ⟨z8, us, U, rfl, kp10, hL10, dU, eU⟩
        obtain ⟨t, ht, dv⟩ := sts_get (dpAll_kp kp10 hL9 d3' (noLAll_map noL_way S1)) hj
        have mt := List.mem_of_getElem? ht
        have okt := lo3.ok t mt
        have jl := (List.getElem?_eq_some_iff.mp ht).1
        have tl := okt.1
        have dy10 := dp_kp kp10 hL9 (dp_same (sL.trans s9) dy7) (noL_house g)
        have p60 := pairs60 S1 R2 lo3 lo2
        have lU : U.length ≤ 60 := by
          rw [eU, boxflat_len (q := R2.length) fun a => List.length_map _, List.length_take]
          exact Nat.le_trans (Nat.mul_le_mul_right _ (Nat.min_le_right _ _)) p60
        have lus := sts_len dU
        refine ⟨_, rfl, .inl ⟨rfl, _, SqL.of hL10⟩, ?_⟩
        refine ⟨_, rfl, _, rfl, .ref ga, g, kg, n, rfl, dy10, gg.ok, n1, fewG, fun q4 H11 ps4 M4 s11 nq4 hq4 d4' can4 => ?_⟩
        have lo4 := lowsR_of gg.ok can4
        generalize M4.map (fun x : List Int => x.take kg) = S2 at d4' lo4
        obtain rfl := lo4.uniq lo2
        have lps4 := sts_len d4'
        have f4 := lo4.few gg kg2 st2 (by decide)
        refine ⟨q4, rfl, ⟨_, SqL.of hq4⟩, fun D2 nD2 => ?_⟩
        have sD2 := same_upd (o := .lst []) nD2
        refine lc_list (K := K) (a := q4) (xs := ps4) (fun i H12 => Same H11 H12 ∧ ∃ ds, H12 D2 = some (.lst ds) ∧ DpAll K H12 ds (((S2.take i).map (t ++ ·)).map wayD)) ⟨sD2, [], upd_same, .nil⟩ (fun i H12 _ ⟨s12, _⟩ => SqL.of (s12 _ _ hq4)) ?_ ?_
        · rintro i u H12 hi ⟨s12, ds, hD2, dd⟩
          obtain ⟨r, hr', dr⟩ := sts_get (dpAll_same s12 d4') hi
          have il := (List.getElem?_eq_some_iff.mp hr').1
          have okr := lo4.ok r (List.mem_of_getElem? hr')
          have rl := okr.1
          obtain ⟨ra, rfl, hR⟩ := way_of dr
          obtain ⟨ta, rfl, hT⟩ := way_of (dp_same (s11.trans s12) dv)
          have lds := dpAll_len dd
          simp only [List.length_map, List.length_take] at lds
          refine ⟨rfl, ?_⟩
          refine ⟨_, rfl, _, rfl, ta, ra, _, _, rfl, rfl, hT, hR, by rw [List.length_map, List.length_map, sizeLine_eq]; omega, fun c1 H13 s13 hc1 => ?_⟩
          refine ⟨ds, s13 _ _ hD2, small_line (by omega), fun b o e => ?_, ds ++ [.ref c1], upd_same, ?_⟩
          · rw [upd_ne (ne_of_none e nD2)]
            exact s13 _ _ (s12 _ _ e)
          · rw [take_snoc hr', List.map_append]
            exact dpAll_put (s13 _ _ hD2) (dpAll_app1 (dpAll_same s13 dd) (of_way (by rw [List.map_append]; exact hc1))) (noLAll_map noL_way _)
        rintro H12 ⟨s12, ds, hD2, dd⟩
        rw [take_all lps4] at dd
        have s1012 := s11.trans s12
        have hL12 := s1012 _ _ hL10
        have lds := dpAll_len dd
        simp only [List.length_map] at lds
        refine ⟨L, D2, us, ds, rfl, rfl, hL12, hD2, Nat.le_of_lt (small_line (by omega)), ?_⟩
        refine ⟨_, us ++ ds, U ++ S2.map (t ++ ·), rfl, fun b o e nb => ?_, upd_same, ?_, ?_⟩
        · rw [upd_ne nb]
          exact s1012 _ _ (kp10 _ _ e nb)
        · rw [List.map_append]
          refine dpAll_put hL12 (dpAll_app (dpAll_same s1012 dU) dd) ?_
          rw [← List.map_append]
          exact noLAll_map noL_way _
        · rw [eU, take_snoc ht, List.flatMap_append]
          simp
      · rintro σ H10 ⟨z8, us, U, rfl, kp10, hL10, dU, eU⟩
        rw [take_all lps3] at eU
        have s410 : Same H4 H10 := fun b o e => kp10 _ _ (s9 _ _ (s48 _ _ e)) (ne_of_none e nL4)
        have d310 := dp_kp kp10 hL9 (dp_same (sL.trans s9) d37) (noL_house _)
        have p60 := pairs60 S1 R2 lo3 lo2
        refine ⟨_, rfl, _, rfl, v3, besideH kd kg h g, kd + kg, n, rfl, d310, gB.ok, n1, fewB, fun q5 H11 ps5 M5 s11 nq5 hq5 d5 can5 => ?_⟩
        have lo5 := lowsR_of gB.ok can5
        generalize M5.map (fun x : List Int => x.take (kd + kg)) = R5 at d5 lo5
        have mem := lows_beside k1 k2 g1 kg2 gh.len gg.len lo5 lo3 lo2
        have memU : ∀ x, x ∈ U ↔ x ∈ R5 := fun x => by
          rw [mem, eU, List.mem_flatMap]
          constructor
          · rintro ⟨a, ha, hx⟩
            obtain ⟨b, hb, rfl⟩ := List.mem_map.mp hx
            exact ⟨a, ha, b, hb, rfl⟩
          · rintro ⟨a, ha, b, hb, rfl⟩
            exact ⟨a, ha, List.mem_map.mpr ⟨b, hb, rfl⟩⟩
        have ndU : U.Nodup := by
          rw [eU]
          exact pairs_nodup (kd := kd) (nodup_of_srt lo3.srt) (nodup_of_srt lo2.srt) fun r hr => (lo3.ok r hr).1
        have pU : U.Perm R5 := (List.perm_ext_iff_of_nodup ndU (nodup_of_srt lo5.srt)).mpr memU
        have lU : U.length ≤ 60 := by
          rw [eU, boxflat_len (q := R2.length) fun a => List.length_map _]
          exact p60
        have bdU : ∀ x ∈ R5, x.length = kd + kg ∧ TS.Bd 1000 x := fun x hx => by
          refine ⟨(lo5.ok x hx).1, fun z hz => ⟨(lo5.ok x hx).2 z hz, ?_⟩⟩
          obtain ⟨a, ha, b, hb, rfl⟩ := (mem x).mp hx
          rcases List.mem_append.mp hz with hz | hz
          · have := lo3.bd gh st a ha z hz
            omega
          · have := lo2.bd gg st2 b hb z hz
            omega
        refine ⟨_, rfl, L, us, U, rfl, SqL.of (s11 _ _ hL10), dpAll_same s11 dU, by omega, fun x hx => bdU x ((memU x).mp hx), fun ys Z pz pm pw np dZ => ?_⟩
        obtain rfl := sorted_same bdU lo5.srt (pm.trans pU) pw
        have sz := same_upd (o := .lst ys) np
        refine ⟨stsD Z, stsD Z, .lst (SqL.of (sz _ _ hq5)) (dpAll_same sz d5), .lst (SqL.of upd_same) dZ, sts_shaped _, sts_shaped _, ?_⟩
        rw [eqv_sts_self]
        have s4z := (s410.trans s11).trans sz
        exact q _ (kp04.same s4z) ((P4.same s4z).mono (by omega))
end
/-! ### the law of k46 -/
def sLaw46 : Stmt := topS 39
def spLaw46 (K : PySem.W.Frag) : Sp := fun vs H Q _ => ∃ (a : Addr) (ns : List Int), vs = [.ref a] ∧ SqL K H a (ns.map V.int) ∧ ns.length ≤ 63 ∧ ∀ H', Q (.bl true) H'
theorem cfg46 {kd nn : Nat} {s : Int} (h : kd = 1 ∧ s = 3 ∧ nn = 5 ∨ kd = 1 ∧ s = 9 ∧ nn = 3 ∨ kd = 2 ∧ s = 1 ∧ nn = 4 ∨ kd = 2 ∧ s = 2 ∧ nn = 3 ∨ kd = 2 ∧ s = 3 ∧ nn = 2) {n : Nat} (hn : n ≤ nn) : Cfg46 kd n s := by
  rcases h with ⟨rfl, rfl, rfl⟩ | ⟨rfl, rfl, rfl⟩ | ⟨rfl, rfl, rfl⟩ | ⟨rfl, rfl, rfl⟩ | ⟨rfl, rfl, rfl⟩
  · exact .inl ⟨rfl, .inl ⟨by omega, by omega⟩⟩
  · exact .inl ⟨rfl, .inr ⟨by omega, by omega⟩⟩
  · exact .inr ⟨rfl, by omega, by omega⟩
  · exact .inr ⟨rfl, by omega, by omega⟩
  · exact .inr ⟨rfl, by omega, by omega⟩
section
variable {P : Program} {w : World} {K : PySem.W.Frag} {mg : Str → Option Value} {base : Heap}
structure T46 (mg : Str → Option Value) (fO fT fH fJ fB fI : Addr) : Prop where
  gO : mg "_law_open" = some (.ref fO)
  gT : mg "_law_take" = some (.ref fT)
  gH : mg "_law_house" = some (.ref fH)
  gJ : mg "_law_joined_right" = some (.ref fJ)
  gB : mg "_law_beside_right" = some (.ref fB)
  gI : mg "_law_times_right" = some (.ref fI)
  range : mg "range" = none
structure L46 (P : Program) (w : World) (K : PySem.W.Frag) (mg : Str → Option Value) (base : Heap) (k : Nat) (fO fT fH fJ fB fI : Addr) (dO dT dH dJ dB dI : FuncData) : Prop where
  GO : FnOk P w K mg base CX0 k fO dO ["script"] (spOpen K)
  kO : PySem.W.keepIn K (.ref fO) = true
  bO : Binds K dO ["script"] []
  GT : FnOk P w K mg base CX0 k fT dT ["pen", "amount"] spTake
  kT : PySem.W.keepIn K (.ref fT) = true
  bT : Binds K dT ["pen", "amount"] []
  GH : FnOk P w K mg base CX0 k fH dH ["pen", "kinds", "asks", "ways", "size"] (spHouse K)
  kH : PySem.W.keepIn K (.ref fH) = true
  bH : Binds K dH ["pen", "kinds", "asks", "ways", "size"] []
  GJ : FnOk P w K mg base CX0 k fJ dJ ["pen", "house", "other", "n"] (spJoinR K)
  kJ : PySem.W.keepIn K (.ref fJ) = true
  bJ : Binds K dJ ["pen", "house", "other", "n"] []
  GB : FnOk P w K mg base CX0 k fB dB ["pen", "house", "far", "n"] (spBesR K)
  kB : PySem.W.keepIn K (.ref fB) = true
  bB : Binds K dB ["pen", "house", "far", "n"] []
  GI : FnOk P w K mg base CX0 k fI dI ["pen", "house", "n"] (spTimR K)
  kI : PySem.W.keepIn K (.ref fI) = true
  bI : Binds K dI ["pen", "house", "n"] []
theorem scLaw46 : FnScope ["script", "pen", "turn", "kinds", "size", "n", "house", "other", "far", "asked"] ["script"] (defScope sLaw46) := ⟨rfl, rfl, rfl, by decide +kernel, rfl, by decide +kernel, by decide +kernel⟩
theorem ok_law46 {f fO fT fH fJ fB fI : Addr} {fd dO dT dH dJ dB dI : FuncData} {k : Nat} (F : Fun K "law" "law" sLaw46 f fd) (T : T46 mg fO fT fH fJ fB fI) (c : L46 P w K mg base k fO fT fH fJ fB fI dO dT dH dJ dB dI) : FnOk P w K mg base CX0 (k + 1) f fd ["script"] (spLaw46 K) := by
  refine F.ok scLaw46 (fun vs H Q E h => ?_) (fun cdv A outer s0 H vs Q E hr h => ?_)
  · obtain ⟨a, ns, rfl, _⟩ := h
    rfl
  · obtain ⟨a, ns, rfl, hS, hlen, q⟩ := h
    refine ⟨_, pss_cons (ps_set (i := 1) scLaw46.nd rfl (.inl rfl) (pe_call c.GO hr (by rfl) T.gO c.kO c.bO .nil pass0 (pa_cons (pv 0) pa_nil)))
      (pss_cons (ps_for PassesOwn.never rfl (pi_range1 (by rfl) T.range (pa_cons pe_int pa_nil)) (pg_name (i := 2) scLaw46.nd rfl (.inl rfl)) (pss_cons (ps_asg (pe_ix ix_list (pe_lst (pa_cons (pe_tup (pa_cons pe_int (pa_cons pe_int (pa_cons pe_int pa_nil)))) (pa_cons (pe_tup (pa_cons pe_int (pa_cons pe_int (pa_cons pe_int pa_nil)))) (pa_cons (pe_tup (pa_cons pe_int (pa_cons pe_int (pa_cons pe_int pa_nil)))) (pa_cons (pe_tup (pa_cons pe_int (pa_cons pe_int (pa_cons pe_int pa_nil)))) (pa_cons (pe_tup (pa_cons pe_int (pa_cons pe_int (pa_cons pe_int pa_nil)))) pa_nil)))))) (pe_call c.GT hr (by rfl) T.gT c.kT c.bT .nil pass0 (pa_cons (pv 1) (pa_cons pe_int pa_nil))) (fun _ _ => rfl)) (pg_tup (by rfl) (pgs_cons (pg_name (i := 3) scLaw46.nd rfl (.inl rfl)) (pgs_cons (pg_name (i := 4) scLaw46.nd rfl (.inl rfl)) (pgs_cons (pg_name (i := 5) scLaw46.nd rfl (.inl rfl)) pgs_nil)))))
      (pss_cons (ps_par (i := 6) (j := 7) rfl scLaw46.nd rfl rfl (by decide) rfl rfl (pa_cons (pe_call c.GH hr (by rfl) T.gH c.kH c.bH .nil pass0 (pa_cons (pv 1) (pa_cons (pv 3) (pa_cons pe_int (pa_cons pe_int (pa_cons (pv 4) pa_nil)))))) (pa_cons (pe_call c.GH hr (by rfl) T.gH c.kH c.bH .nil pass0 (pa_cons (pv 1) (pa_cons (pv 3) (pa_cons pe_int (pa_cons pe_int (pa_cons (pv 4) pa_nil)))))) pa_nil)) (by rfl))
      (pss_cons (ps_set (i := 8) scLaw46.nd rfl (.inl rfl) (pe_call c.GH hr (by rfl) T.gH c.kH c.bH .nil pass0 (pa_cons (pv 1) (pa_cons (pe_op op_add pe_int (pe_call c.GT hr (by rfl) T.gT c.kT c.bT .nil pass0 (pa_cons (pv 1) (pa_cons pe_int pa_nil)))) (pa_cons pe_int (pa_cons pe_int (pa_cons pe_int pa_nil)))))))
      (pss_cons (ps_set (i := 9) scLaw46.nd rfl (.inl rfl) (pe_call c.GT hr (by rfl) T.gT c.kT c.bT .nil pass0 (pa_cons (pv 1) (pa_cons (pe_op op_add (pv 5) pe_int) pa_nil))))
      (pss_cons (ps_if (PW.pt (pw_or (pt_not (pt_val (pe_call c.GJ hr (by rfl) T.gJ c.kJ c.bJ .nil pass0 (pa_cons (pv 1) (pa_cons (pv 6) (pa_cons (pv 7) (pa_cons (pv 9) pa_nil))))))) (pw_or1 (pt_not (pt_val (pe_call c.GB hr (by rfl) T.gB c.kB c.bB .nil pass0 (pa_cons (pv 1) (pa_cons (pv 6) (pa_cons (pv 8) (pa_cons (pv 9) pa_nil)))))))))) (pss_one (ps_ret pe_bl)) pss_nil)
      (pss_one (ps_if (pt_not (pt_val (pe_call c.GI hr (by rfl) T.gI c.kI c.bI .nil pass0 (pa_cons (pv 1) (pa_cons (pv 6) (pa_cons (pv 9) pa_nil)))))) (pss_one (ps_ret pe_bl)) pss_nil))))))))
      (pss_one (ps_ret pe_bl))), ?_⟩
    -- sem
    refine ⟨_, rfl, a, ns, rfl, hS, hlen, fun H0 p cc ms s0' P0 _ => ?_⟩
    refine ⟨3, rfl, by decide, by decide, ?_⟩
    refine for_range (lo := 0) (n := 3) (fun t σ H1 => ∃ (y2 y3 y4 y5 y6 y7 y8 y9 : Option V), σ = [some (.ref a), some (.ref p), y2, y3, y4, y5, y6, y7, y8, y9] ∧ Pen H1 p cc ms (5000 * t))
      ⟨none, none, none, none, none, none, none, none, rfl, P0⟩ ?_ ?_
    · rintro t σ H1 ht ⟨y2, y3, y4, y5, y6, y7, y8, y9, rfl, P1⟩
      refine ⟨by show 3 ≤ sizeLine; decide, fun A1 n1 => ?_⟩
      have s1 := same_upd (o := .tup [V.int 1, V.int 3, V.int 5]) n1
      have h1 := upd_same (H := H1) (a := A1) (o := .tup [V.int 1, V.int 3, V.int 5])
      generalize upd H1 A1 (.tup [V.int 1, V.int 3, V.int 5]) = H2 at s1 h1
      refine ⟨by show 3 ≤ sizeLine; decide, fun A2 n2 => ?_⟩
      have s2 := same_upd (o := .tup [V.int 1, V.int 9, V.int 3]) n2
      have h2 := upd_same (H := H2) (a := A2) (o := .tup [V.int 1, V.int 9, V.int 3])
      generalize upd H2 A2 (.tup [V.int 1, V.int 9, V.int 3]) = H3 at s2 h2
      refine ⟨by show 3 ≤ sizeLine; decide, fun A3 n3 => ?_⟩
      have s3 := same_upd (o := .tup [V.int 2, V.int 1, V.int 4]) n3
      have h3 := upd_same (H := H3) (a := A3) (o := .tup [V.int 2, V.int 1, V.int 4])
      generalize upd H3 A3 (.tup [V.int 2, V.int 1, V.int 4]) = H4 at s3 h3
      refine ⟨by show 3 ≤ sizeLine; decide, fun A4 n4 => ?_⟩
      have s4 := same_upd (o := .tup [V.int 2, V.int 2, V.int 3]) n4
      have h4 := upd_same (H := H4) (a := A4) (o := .tup [V.int 2, V.int 2, V.int 3])
      generalize upd H4 A4 (.tup [V.int 2, V.int 2, V.int 3]) = H5 at s4 h4
      refine ⟨by show 3 ≤ sizeLine; decide, fun A5 n5 => ?_⟩
      have s5 := same_upd (o := .tup [V.int 2, V.int 3, V.int 2]) n5
      have h5 := upd_same (H := H5) (a := A5) (o := .tup [V.int 2, V.int 3, V.int 2])
      generalize upd H5 A5 (.tup [V.int 2, V.int 3, V.int 2]) = H6 at s5 h5
      refine ⟨by show 5 ≤ sizeLine; decide, fun L nL => ?_⟩
      have s6 := same_upd (o := .lst [V.ref A1, V.ref A2, V.ref A3, V.ref A4, V.ref A5]) nL
      have hL := upd_same (H := H6) (a := L) (o := .lst [V.ref A1, V.ref A2, V.ref A3, V.ref A4, V.ref A5])
      have s17 := (s1.trans (s2.trans (s3.trans (s4.trans s5)))).trans s6
      obtain ⟨npL, _⟩ := (P1.same (s1.trans (s2.trans (s3.trans (s4.trans s5))))).nep nL
      have g1 := (s2.trans (s3.trans (s4.trans (s5.trans s6)))) _ _ h1
      have g2 := (s3.trans (s4.trans (s5.trans s6))) _ _ h2
      have g3 := (s4.trans (s5.trans s6)) _ _ h3
      have g4 := (s5.trans s6) _ _ h4
      have g5 := s6 _ _ h5
      generalize upd H6 L (.lst [V.ref A1, V.ref A2, V.ref A3, V.ref A4, V.ref A5]) = H7 at hL s17 g1 g2 g3 g4 g5
      have P7 := P1.same s17
      obtain ⟨_, hp7⟩ := P7.at
      refine ⟨_, rfl, p, cc, ms, _, 5, rfl, P7, by unfold penMost; omega, by decide, by decide, fun r H8 r0 r1 kp8 P8 => ?_⟩
      have tn : ∀ {A : Addr} {o : List V}, H7 A = some (.tup o) → H8 A = some (.tup o) := fun {A o} e => kp8 _ _ e fun z => by
        rw [z, hp7] at e
        cases e
      obtain ⟨A, kd, nn, sz, hA, hAt, cf⟩ : ∃ (A : Addr) (kd nn : Nat) (sz : Int), atI [V.ref A1, V.ref A2, V.ref A3, V.ref A4, V.ref A5] r = some (.ref A) ∧ H8 A = some (.tup [V.int (kd : Int), V.int sz, V.int (nn : Int)]) ∧ (kd = 1 ∧ sz = 3 ∧ nn = 5 ∨ kd = 1 ∧ sz = 9 ∧ nn = 3 ∨ kd = 2 ∧ sz = 1 ∧ nn = 4 ∨ kd = 2 ∧ sz = 2 ∧ nn = 3 ∨ kd = 2 ∧ sz = 3 ∧ nn = 2) := by
        have : r = 0 ∨ r = 1 ∨ r = 2 ∨ r = 3 ∨ r = 4 := by omega
        rcases this with rfl | rfl | rfl | rfl | rfl
        · exact ⟨A1, 1, 5, 3, atI_nat (j := 0) rfl, tn g1, .inl ⟨rfl, rfl, rfl⟩⟩
        · exact ⟨A2, 1, 3, 9, atI_nat (j := 1) rfl, tn g2, .inr (.inl ⟨rfl, rfl, rfl⟩)⟩
        · exact ⟨A3, 2, 4, 1, atI_nat (j := 2) rfl, tn g3, .inr (.inr (.inl ⟨rfl, rfl, rfl⟩))⟩
        · exact ⟨A4, 2, 3, 2, atI_nat (j := 3) rfl, tn g4, .inr (.inr (.inr (.inl ⟨rfl, rfl, rfl⟩)))⟩
        · exact ⟨A5, 2, 2, 3, atI_nat (j := 4) rfl, tn g5, .inr (.inr (.inr (.inr ⟨rfl, rfl, rfl⟩)))⟩
      refine ⟨L, _, r, _, rfl, rfl, SqL.of (kp8 _ _ hL npL.symm), hA, ?_⟩
      refine ⟨A, _, rfl, SqT.of hAt, rfl, _, _, rfl, _, _, rfl, _, _, rfl, rfl, ?_⟩
      have k12 : 1 ≤ kd ∧ kd ≤ 2 := by omega
      have sz9 : 1 ≤ sz ∧ sz ≤ 9 := by omega
      clear s1 s2 s3 s4 s5 s6 s17 h1 h2 h3 h4 h5 g1 g2 g3 g4 g5 hL tn hp7 n1 n2 n3 n4 n5 nL
      -- houses
      refine ⟨_, rfl, _, rfl, _, rfl, p, cc, ms, _, (kd : Int), 2, 3, sz, rfl, P8, by unfold penMost; omega, ⟨by omega, by omega⟩, ⟨by decide, by decide⟩, ⟨by decide, by decide⟩, ⟨by omega, by omega⟩, fun ha H9 h kp9 P9 dh oh => ?_⟩
      refine ⟨_, rfl, _, rfl, _, rfl, p, cc, ms, _, (kd : Int), 2, 3, sz, rfl, P9, by unfold penMost; omega, ⟨by omega, by omega⟩, ⟨by decide, by decide⟩, ⟨by decide, by decide⟩, ⟨by omega, by omega⟩, fun oa H10 o kp10 P10 dO oo => ?_⟩
      refine ⟨_, _, rfl, ?_⟩
      have dh10 := P9.dp kp10 dh (noL_house h)
      refine ⟨_, rfl, _, rfl, p, cc, ms, _, 2, rfl, P10, by unfold penMost; omega, by decide, by decide, fun r2 H11 r20 r21 kp11 P11 => ?_⟩
      refine ⟨1, r2, rfl, rfl, ?_⟩
      refine ⟨p, cc, ms, _, 1 + r2, 2, 2, 2, rfl, P11, by unfold penMost; omega, ⟨by omega, by omega⟩, ⟨by decide, by decide⟩, ⟨by decide, by decide⟩, ⟨by decide, by decide⟩, fun fa H12 g kp12 P12 df of' => ?_⟩
      have kp1012 := kp11.trans kp12
      have dh12 := P10.dp kp1012 dh10 (noL_house h)
      have do12 := P10.dp kp1012 dO (noL_house o)
      obtain ⟨kf, ekf⟩ : ∃ kf : Nat, 1 + r2 = (kf : Int) := ⟨(1 + r2).toNat, by omega⟩
      have gh : G72 h kd sz := oh.g46 (by decide) rfl k12.1 (by omega) (by omega)
      have go : G72 o kd sz := oo.g46 (by decide) rfl k12.1 (by omega) (by omega)
      have gf : G72 g kf 2 := of'.g46 (by decide) ekf (by omega) (by omega) (by decide)
      have lh := oh.most
      have lo := oo.most
      have lf := of'.most
      -- asked
      refine ⟨_, rfl, _, rfl, (nn : Int), 1, rfl, rfl, p, cc, ms, _, (nn : Int) + 1, rfl, P12, by unfold penMost; omega, by omega, by omega, fun r3 H13 r30 r31 kp13 P13 => ?_⟩
      obtain ⟨n, rfl⟩ : ∃ n : Nat, r3 = (n : Int) := ⟨r3.toNat, by omega⟩
      have cg : Cfg46 kd n sz := cfg46 cf (by omega)
      obtain ⟨n5, st, k2, st2⟩ := cg.n5
      have dh13 := P12.dp kp13 dh12 (noL_house h)
      have do13 := P12.dp kp13 do12 (noL_house o)
      have df13 := P12.dp kp13 df (noL_house g)
      refine ⟨_, rfl, _, rfl, _, rfl, _, rfl, p, cc, ms, _, .ref ha, .ref oa, h, o, kd, n, sz, rfl, P13, by unfold penMost; omega, dh13, do13, gh, go, by omega, by omega, k2, st, n5, fun H14 kp14 P14 => ?_⟩
      refine ⟨_, rfl, ?_⟩
      have dh14 := P13.dp kp14 dh13 (noL_house h)
      have df14 := P13.dp kp14 df13 (noL_house g)
      refine ⟨_, rfl, _, rfl, _, rfl, _, rfl, p, cc, ms, _, .ref ha, .ref fa, h, g, kd, kf, n, sz, rfl, P14, by unfold penMost; omega, dh14, df14, gh, gf, by omega, by omega, by omega, cg, fun H15 kp15 P15 => ?_⟩
      refine ⟨_, rfl, ifF rfl ?_⟩
      have dh15 := P14.dp kp15 dh14 (noL_house h)
      refine ⟨_, rfl, _, rfl, _, rfl, p, cc, ms, _, .ref ha, h, kd, n, sz, rfl, P15, by unfold penMost; omega, dh15, gh, by omega, k2, st, st2, n5, fun H16 kp16 P16 => ?_⟩
      refine ⟨_, rfl, ifF rfl ?_⟩
      exact ⟨_, _, _, _, _, _, _, _, rfl, P16.mono (by omega)⟩
    · rintro σ H1 ⟨y2, y3, y4, y5, y6, y7, y8, y9, rfl, P1⟩
      exact q H1
end
/-! ### what the top has written -/
theorem all_mk {l : PySem.W.OpenLaw} {w : World} {K : PySem.W.Frag} {h : Heap} {mg : Str → Option Value} {fa f1 f2 f3 f4 f5 f6 f7 f8 f9 f10 f11 f12 f13 f14 f15 f16 f17 f18 f19 f20 f21 f22 f23 f24 f25 f26 f27 f28 f29 f30 f31 f32 f33 C1 : Addr} (X : K.In h) (G : h.Ns mainGlobals mg) (hfa : mg "law" = some (.ref fa))
    {od1 an1 od2 an2 od3 an3 od4 an4 od5 an5 od6 an6 od7 an7 od8 an8 od9 an9 od10 an10 od11 an11 od12 an12 od13 an13 od14 an14 od15 an15 od16 an16 od17 an17 od18 an18 od19 an19 od20 an20 od21 an21 od22 an22 od23 an23 od24 an24 od25 an25 od26 an26 od27 an27 od28 an28 od29 an29 od30 an30 od31 an31 od32 an32 od33 an33 : Option Addr} {sl1 sl2 sl3 sl4 sl5 sl6 sl7 sl8 sl9 sl10 sl11 sl12 sl13 sl14 sl15 sl16 sl17 sl18 sl19 sl20 sl21 sl22 sl23 sl24 sl25 sl26 sl27 sl28 sl29 sl30 sl31 sl32 sl33 : Array (Option Value)} {oc1 kV1 dc1 pm1 cd1 ct1 oc2 kV2 dc2 pm2 cd2 ct2 oc3 kV3 dc3 pm3 cd3 ct3 oc4 kV4 dc4 pm4 cd4 ct4 oc5 kV5 dc5 pm5 cd5 ct5 oc6 kV6 dc6 pm6 cd6 ct6 oc7 kV7 dc7 pm7 cd7 ct7 oc8 kV8 dc8 pm8 cd8 ct8 oc9 kV9 dc9 pm9 cd9 ct9 oc10 kV10 dc10 pm10 cd10 ct10 oc11 kV11 dc11 pm11 cd11 ct11 oc12 kV12 dc12 pm12 cd12 ct12 oc13 kV13 dc13 pm13 cd13 ct13 oc14 kV14 dc14 pm14 cd14 ct14 oc15 kV15 dc15 pm15 cd15 ct15 oc16 kV16 dc16 pm16 cd16 ct16 oc17 kV17 dc17 pm17 cd17 ct17 oc18 kV18 dc18 pm18 cd18 ct18 oc19 kV19 dc19 pm19 cd19 ct19 oc20 kV20 dc20 pm20 cd20 ct20 oc21 kV21 dc21 pm21 cd21 ct21 oc22 kV22 dc22 pm22 cd22 ct22 oc23 kV23 dc23 pm23 cd23 ct23 oc24 kV24 dc24 pm24 cd24 ct24 oc25 kV25 dc25 pm25 cd25 ct25 oc26 kV26 dc26 pm26 cd26 ct26 oc27 kV27 dc27 pm27 cd27 ct27 oc28 kV28 dc28 pm28 cd28 ct28 oc29 kV29 dc29 pm29 cd29 ct29 oc30 kV30 dc30 pm30 cd30 ct30 oc31 kV31 dc31 pm31 cd31 ct31 oc32 kV32 dc32 pm32 cd32 ct32 oc33 kV33 dc33 pm33 cd33 ct33 : Value}
    (aC1 : PySem.W.nsIn K mainGlobals "Chart" = some (some (.ref C1))) (pg1 : PySem.W.plainGet K C1 Str.empty = true) (hd1 : PySem.W.hasDictIn K C1 = true) (po1 : PySem.W.plainOver K C1 = true) (sa1 : PySem.W.findIn K (.ref C1) "__setattr__" = some (some (.builtin "object.__setattr__"))) (mk1 : PySem.W.makesIn K C1 = true) (kc1 : PySem.W.keepIn K (.ref C1) = true)
    (na1_kinds : PySem.W.findIn K (.ref C1) "_kinds" = some none)
    (na1_rooms : PySem.W.findIn K (.ref C1) "_rooms" = some none)
    (na1_lists : PySem.W.findIn K (.ref C1) "_lists" = some none)
    (na1_boxes : PySem.W.findIn K (.ref C1) "_boxes" = some none)
    (a1 : PySem.W.nsIn K mainGlobals "in_four" = some (some (.ref f1)))
    (l1 : K.lookup f1 = some ⟨oc1, od1, .func (PySem.W.fnOf "in_four" "in_four" (defArgs sInFour) (defBody sInFour) (defScope sInFour) .none kV1 dc1 pm1 an1 cd1 ct1), sl1⟩) (c1 : PySem.W.codeIn K cd1 "in_four" = true) (k1 : PySem.W.keepIn K (.ref f1) = true)
    (a2 : PySem.W.nsIn K mainGlobals "covers_one" = some (some (.ref f2)))
    (l2 : K.lookup f2 = some ⟨oc2, od2, .func (PySem.W.fnOf "covers_one" "covers_one" (defArgs sCovOne) (defBody sCovOne) (defScope sCovOne) .none kV2 dc2 pm2 an2 cd2 ct2), sl2⟩) (c2 : PySem.W.codeIn K cd2 "covers_one" = true) (k2 : PySem.W.keepIn K (.ref f2) = true)
    (a3 : PySem.W.nsIn K mainGlobals "least_of" = some (some (.ref f3)))
    (l3 : K.lookup f3 = some ⟨oc3, od3, .func (PySem.W.fnOf "least_of" "least_of" (defArgs sLeastOf) (defBody sLeastOf) (defScope sLeastOf) .none kV3 dc3 pm3 an3 cd3 ct3), sl3⟩) (c3 : PySem.W.codeIn K cd3 "least_of" = true) (k3 : PySem.W.keepIn K (.ref f3) = true)
    (a4 : PySem.W.nsIn K mainGlobals "needed" = some (some (.ref f4)))
    (l4 : K.lookup f4 = some ⟨oc4, od4, .func (PySem.W.fnOf "needed" "needed" (defArgs sNeeded) (defBody sNeeded) (defScope sNeeded) .none kV4 dc4 pm4 an4 cd4 ct4), sl4⟩) (c4 : PySem.W.codeIn K cd4 "needed" = true) (k4 : PySem.W.keepIn K (.ref f4) = true)
    (a5 : PySem.W.nsIn K mainGlobals "joined" = some (some (.ref f5)))
    (l5 : K.lookup f5 = some ⟨oc5, od5, .func (PySem.W.fnOf "joined" "joined" (defArgs sJoined) (defBody sJoined) (defScope sJoined) .none kV5 dc5 pm5 an5 cd5 ct5), sl5⟩) (c5 : PySem.W.codeIn K cd5 "joined" = true) (k5 : PySem.W.keepIn K (.ref f5) = true)
    (a6 : PySem.W.nsIn K mainGlobals "least_in_both" = some (some (.ref f6)))
    (l6 : K.lookup f6 = some ⟨oc6, od6, .func (PySem.W.fnOf "least_in_both" "least_in_both" (defArgs sBoth) (defBody sBoth) (defScope sBoth) .none kV6 dc6 pm6 an6 cd6 ct6), sl6⟩) (c6 : PySem.W.codeIn K cd6 "least_in_both" = true) (k6 : PySem.W.keepIn K (.ref f6) = true)
    (a7 : PySem.W.nsIn K mainGlobals "least_in_all" = some (some (.ref f7)))
    (l7 : K.lookup f7 = some ⟨oc7, od7, .func (PySem.W.fnOf "least_in_all" "least_in_all" (defArgs sInAll) (defBody sInAll) (defScope sInAll) .none kV7 dc7 pm7 an7 cd7 ct7), sl7⟩) (c7 : PySem.W.codeIn K cd7 "least_in_all" = true) (k7 : PySem.W.keepIn K (.ref f7) = true)
    (a8 : PySem.W.nsIn K mainGlobals "least_one_more" = some (some (.ref f8)))
    (l8 : K.lookup f8 = some ⟨oc8, od8, .func (PySem.W.fnOf "least_one_more" "least_one_more" (defArgs sOneMore) (defBody sOneMore) (defScope sOneMore) .none kV8 dc8 pm8 an8 cd8 ct8), sl8⟩) (c8 : PySem.W.codeIn K cd8 "least_one_more" = true) (k8 : PySem.W.keepIn K (.ref f8) = true)
    (a9 : PySem.W.nsIn K mainGlobals "least_for_ask" = some (some (.ref f9)))
    (l9 : K.lookup f9 = some ⟨oc9, od9, .func (PySem.W.fnOf "least_for_ask" "least_for_ask" (defArgs sForAsk) (defBody sForAsk) (defScope sForAsk) .none kV9 dc9 pm9 an9 cd9 ct9), sl9⟩) (c9 : PySem.W.codeIn K cd9 "least_for_ask" = true) (k9 : PySem.W.keepIn K (.ref f9) = true)
    (a10 : PySem.W.nsIn K mainGlobals "no_more_than" = some (some (.ref f10)))
    (l10 : K.lookup f10 = some ⟨oc10, od10, .func (PySem.W.fnOf "no_more_than" "no_more_than" (defArgs sNoMore) (defBody sNoMore) (defScope sNoMore) .none kV10 dc10 pm10 an10 cd10 ct10), sl10⟩) (c10 : PySem.W.codeIn K cd10 "no_more_than" = true) (k10 : PySem.W.keepIn K (.ref f10) = true)
    (a11 : PySem.W.nsIn K mainGlobals "kinds_of" = some (some (.ref f11)))
    (l11 : K.lookup f11 = some ⟨oc11, od11, .func (PySem.W.fnOf "kinds_of" "kinds_of" (defArgs sKindsOf) (defBody sKindsOf) (defScope sKindsOf) .none kV11 dc11 pm11 an11 cd11 ct11), sl11⟩) (c11 : PySem.W.codeIn K cd11 "kinds_of" = true) (k11 : PySem.W.keepIn K (.ref f11) = true)
    (a12 : PySem.W.nsIn K mainGlobals "plan_of" = some (some (.ref f12)))
    (l12 : K.lookup f12 = some ⟨oc12, od12, .func (PySem.W.fnOf "plan_of" "plan_of" (defArgs sPlanOf) (defBody sPlanOf) (defScope sPlanOf) .none kV12 dc12 pm12 an12 cd12 ct12), sl12⟩) (c12 : PySem.W.codeIn K cd12 "plan_of" = true) (k12 : PySem.W.keepIn K (.ref f12) = true)
    (a13 : PySem.W.nsIn K mainGlobals "least_there" = some (some (.ref f13)))
    (l13 : K.lookup f13 = some ⟨oc13, od13, .func (PySem.W.fnOf "least_there" "least_there" (defArgs sLeastThere) (defBody sLeastThere) (defScope sLeastThere) .none kV13 dc13 pm13 an13 cd13 ct13), sl13⟩) (c13 : PySem.W.codeIn K cd13 "least_there" = true) (k13 : PySem.W.keepIn K (.ref f13) = true)
    (a14 : PySem.W.nsIn K mainGlobals "lasts_there" = some (some (.ref f14)))
    (l14 : K.lookup f14 = some ⟨oc14, od14, .func (PySem.W.fnOf "lasts_there" "lasts_there" (defArgs sLastsThere) (defBody sLastsThere) (defScope sLastsThere) .none kV14 dc14 pm14 an14 cd14 ct14), sl14⟩) (c14 : PySem.W.codeIn K cd14 "lasts_there" = true) (k14 : PySem.W.keepIn K (.ref f14) = true)
    (a15 : PySem.W.nsIn K mainGlobals "lasts" = some (some (.ref f15)))
    (l15 : K.lookup f15 = some ⟨oc15, od15, .func (PySem.W.fnOf "lasts" "lasts" (defArgs sLasts) (defBody sLasts) (defScope sLasts) .none kV15 dc15 pm15 an15 cd15 ct15), sl15⟩) (c15 : PySem.W.codeIn K cd15 "lasts" = true) (k15 : PySem.W.keepIn K (.ref f15) = true)
    (a16 : PySem.W.nsIn K mainGlobals "least" = some (some (.ref f16)))
    (l16 : K.lookup f16 = some ⟨oc16, od16, .func (PySem.W.fnOf "least" "least" (defArgs sLeast) (defBody sLeast) (defScope sLeast) .none kV16 dc16 pm16 an16 cd16 ct16), sl16⟩) (c16 : PySem.W.codeIn K cd16 "least" = true) (k16 : PySem.W.keepIn K (.ref f16) = true)
    (a17 : PySem.W.nsIn K mainGlobals "together" = some (some (.ref f17)))
    (l17 : K.lookup f17 = some ⟨oc17, od17, .func (PySem.W.fnOf "together" "together" (defArgs sTogether) (defBody sTogether) (defScope sTogether) .none kV17 dc17 pm17 an17 cd17 ct17), sl17⟩) (c17 : PySem.W.codeIn K cd17 "together" = true) (k17 : PySem.W.keepIn K (.ref f17) = true)
    (a18 : PySem.W.nsIn K mainGlobals "beside" = some (some (.ref f18)))
    (l18 : K.lookup f18 = some ⟨oc18, od18, .func (PySem.W.fnOf "beside" "beside" (defArgs sBeside) (defBody sBeside) (defScope sBeside) .none kV18 dc18 pm18 an18 cd18 ct18), sl18⟩) (c18 : PySem.W.codeIn K cd18 "beside" = true) (k18 : PySem.W.keepIn K (.ref f18) = true)
    (a19 : PySem.W.nsIn K mainGlobals "times" = some (some (.ref f19)))
    (l19 : K.lookup f19 = some ⟨oc19, od19, .func (PySem.W.fnOf "times" "times" (defArgs sTimes) (defBody sTimes) (defScope sTimes) .none kV19 dc19 pm19 an19 cd19 ct19), sl19⟩) (c19 : PySem.W.codeIn K cd19 "times" = true) (k19 : PySem.W.keepIn K (.ref f19) = true)
    (a20 : PySem.W.nsIn K mainGlobals "_law_open" = some (some (.ref f20)))
    (l20 : K.lookup f20 = some ⟨oc20, od20, .func (PySem.W.fnOf "_law_open" "_law_open" (defArgs sOpen) (defBody sOpen) (defScope sOpen) .none kV20 dc20 pm20 an20 cd20 ct20), sl20⟩) (c20 : PySem.W.codeIn K cd20 "_law_open" = true) (k20 : PySem.W.keepIn K (.ref f20) = true)
    (a21 : PySem.W.nsIn K mainGlobals "_law_spread" = some (some (.ref f21)))
    (l21 : K.lookup f21 = some ⟨oc21, od21, .func (PySem.W.fnOf "_law_spread" "_law_spread" (defArgs sSpread) (defBody sSpread) (defScope sSpread) .none kV21 dc21 pm21 an21 cd21 ct21), sl21⟩) (c21 : PySem.W.codeIn K cd21 "_law_spread" = true) (k21 : PySem.W.keepIn K (.ref f21) = true)
    (a22 : PySem.W.nsIn K mainGlobals "_law_take" = some (some (.ref f22)))
    (l22 : K.lookup f22 = some ⟨oc22, od22, .func (PySem.W.fnOf "_law_take" "_law_take" (defArgs sTake) (defBody sTake) (defScope sTake) .none kV22 dc22 pm22 an22 cd22 ct22), sl22⟩) (c22 : PySem.W.codeIn K cd22 "_law_take" = true) (k22 : PySem.W.keepIn K (.ref f22) = true)
    (a23 : PySem.W.nsIn K mainGlobals "_law_house" = some (some (.ref f23)))
    (l23 : K.lookup f23 = some ⟨oc23, od23, .func (PySem.W.fnOf "_law_house" "_law_house" (defArgs sHouse) (defBody sHouse) (defScope sHouse) .none kV23 dc23 pm23 an23 cd23 ct23), sl23⟩) (c23 : PySem.W.codeIn K cd23 "_law_house" = true) (k23 : PySem.W.keepIn K (.ref f23) = true)
    (a24 : PySem.W.nsIn K mainGlobals "_law_store" = some (some (.ref f24)))
    (l24 : K.lookup f24 = some ⟨oc24, od24, .func (PySem.W.fnOf "_law_store" "_law_store" (defArgs sStore46) (defBody sStore46) (defScope sStore46) .none kV24 dc24 pm24 an24 cd24 ct24), sl24⟩) (c24 : PySem.W.codeIn K cd24 "_law_store" = true) (k24 : PySem.W.keepIn K (.ref f24) = true)
    (a25 : PySem.W.nsIn K mainGlobals "_law_most" = some (some (.ref f25)))
    (l25 : K.lookup f25 = some ⟨oc25, od25, .func (PySem.W.fnOf "_law_most" "_law_most" (defArgs sMost46) (defBody sMost46) (defScope sMost46) .none kV25 dc25 pm25 an25 cd25 ct25), sl25⟩) (c25 : PySem.W.codeIn K cd25 "_law_most" = true) (k25 : PySem.W.keepIn K (.ref f25) = true)
    (a26 : PySem.W.nsIn K mainGlobals "_law_joined_right" = some (some (.ref f26)))
    (l26 : K.lookup f26 = some ⟨oc26, od26, .func (PySem.W.fnOf "_law_joined_right" "_law_joined_right" (defArgs sJoinR) (defBody sJoinR) (defScope sJoinR) .none kV26 dc26 pm26 an26 cd26 ct26), sl26⟩) (c26 : PySem.W.codeIn K cd26 "_law_joined_right" = true) (k26 : PySem.W.keepIn K (.ref f26) = true)
    (a27 : PySem.W.nsIn K mainGlobals "_law_beside_right" = some (some (.ref f27)))
    (l27 : K.lookup f27 = some ⟨oc27, od27, .func (PySem.W.fnOf "_law_beside_right" "_law_beside_right" (defArgs sBesR) (defBody sBesR) (defScope sBesR) .none kV27 dc27 pm27 an27 cd27 ct27), sl27⟩) (c27 : PySem.W.codeIn K cd27 "_law_beside_right" = true) (k27 : PySem.W.keepIn K (.ref f27) = true)
    (a28 : PySem.W.nsIn K mainGlobals "_law_times_right" = some (some (.ref f28)))
    (l28 : K.lookup f28 = some ⟨oc28, od28, .func (PySem.W.fnOf "_law_times_right" "_law_times_right" (defArgs sTimR) (defBody sTimR) (defScope sTimR) .none kV28 dc28 pm28 an28 cd28 ct28), sl28⟩) (c28 : PySem.W.codeIn K cd28 "_law_times_right" = true) (k28 : PySem.W.keepIn K (.ref f28) = true)
    (a29 : PySem.W.nsIn K mainGlobals "law" = some (some (.ref f29)))
    (l29 : K.lookup f29 = some ⟨oc29, od29, .func (PySem.W.fnOf "law" "law" (defArgs sLaw46) (defBody sLaw46) (defScope sLaw46) .none kV29 dc29 pm29 an29 cd29 ct29), sl29⟩) (c29 : PySem.W.codeIn K cd29 "law" = true) (k29 : PySem.W.keepIn K (.ref f29) = true)
    (a30 : PySem.W.findIn K (.ref C1) "__init__" = some (some (.ref f30))) (i30 : PySem.W.isFn K (.ref f30) = true)
    (l30 : K.lookup f30 = some ⟨oc30, od30, .func (PySem.W.fnOf "__init__" "Chart.__init__" (defArgs sChInit) (defBody sChInit) (defScope sChInit) .none kV30 dc30 pm30 an30 cd30 ct30), sl30⟩) (c30 : PySem.W.codeIn K cd30 "Chart.__init__" = true) (k30 : PySem.W.keepIn K (.ref f30) = true)
    (a31 : PySem.W.findIn K (.ref C1) "least" = some (some (.ref f31))) (i31 : PySem.W.isFn K (.ref f31) = true)
    (l31 : K.lookup f31 = some ⟨oc31, od31, .func (PySem.W.fnOf "least" "Chart.least" (defArgs sChLeast) (defBody sChLeast) (defScope sChLeast) .none kV31 dc31 pm31 an31 cd31 ct31), sl31⟩) (c31 : PySem.W.codeIn K cd31 "Chart.least" = true) (k31 : PySem.W.keepIn K (.ref f31) = true)
    (a32 : PySem.W.findIn K (.ref C1) "lasts" = some (some (.ref f32))) (i32 : PySem.W.isFn K (.ref f32) = true)
    (l32 : K.lookup f32 = some ⟨oc32, od32, .func (PySem.W.fnOf "lasts" "Chart.lasts" (defArgs sChLasts) (defBody sChLasts) (defScope sChLasts) .none kV32 dc32 pm32 an32 cd32 ct32), sl32⟩) (c32 : PySem.W.codeIn K cd32 "Chart.lasts" = true) (k32 : PySem.W.keepIn K (.ref f32) = true)
    (a33 : PySem.W.findIn K (.ref C1) "told" = some (some (.ref f33))) (i33 : PySem.W.isFn K (.ref f33) = true)
    (l33 : K.lookup f33 = some ⟨oc33, od33, .func (PySem.W.fnOf "told" "Chart.told" (defArgs sChTold) (defBody sChTold) (defScope sChTold) .none kV33 dc33 pm33 an33 cd33 ct33), sl33⟩) (c33 : PySem.W.codeIn K cd33 "Chart.told" = true) (k33 : PySem.W.keepIn K (.ref f33) = true)
    (z1 : PySem.W.nsIn K mainGlobals "max" = some none)
    (z2 : PySem.W.nsIn K mainGlobals "min" = some none)
    (z3 : PySem.W.nsIn K mainGlobals "len" = some none)
    (z4 : PySem.W.nsIn K mainGlobals "sorted" = some none)
    (z5 : PySem.W.nsIn K mainGlobals "set" = some none)
    (z6 : PySem.W.nsIn K mainGlobals "zip" = some none)
    (z7 : PySem.W.nsIn K mainGlobals "range" = some none)
    (z8 : PySem.W.nsIn K mainGlobals "tuple" = some none)
    (z9 : PySem.W.nsIn K mainGlobals "enumerate" = some none)
    (z10 : PySem.W.nsIn K mainGlobals "list" = some none)
    {tF tN0 tN1 tN2 tN3 : Tok} {nq : Addr} {odN : Option Addr} {nN : Nat} {slN : Array (Option Value)}
    (aF : PySem.W.nsIn K mainGlobals "FOUR" = some (some (.int 4 tF)))
    (aN : PySem.W.nsIn K mainGlobals "NOTHING" = some (some (.ref nq)))
    (lN : K.lookup nq = some ⟨.type "tuple", odN, .seq #[.int 0 tN0, .int 0 tN1, .int 0 tN2, .int 0 tN3] nN, slN⟩)
    : ∃ fd : FuncData, (∀ (s : Shared) (v : Value), BindsTo s fd ⟨[v], []⟩ [("script", v)]) ∧ ∀ base : Heap, K.In base → base.Ns mainGlobals mg → FnOk l.prog w K mg base CX0 12 fa fd ["script"] (spLaw46 K) := by
  have e := hfa.symm.trans (PySem.W.mg_of X G a29)
  cases e
  have F1 := fun_mk (st := sInFour) l1 c1 k1
  have g1 := PySem.W.mg_of X G a1
  have b1 := F1.binds (ps := ["numbers"]) fun _ _ _ _ _ _ us hl => match us, hl with | [_], _ => rfl
  have F2 := fun_mk (st := sCovOne) l2 c2 k2
  have g2 := PySem.W.mg_of X G a2
  have b2 := F2.binds (ps := ["store", "stores"]) fun _ _ _ _ _ _ us hl => match us, hl with | [_, _], _ => rfl
  have F3 := fun_mk (st := sLeastOf) l3 c3 k3
  have g3 := PySem.W.mg_of X G a3
  have b3 := F3.binds (ps := ["stores"]) fun _ _ _ _ _ _ us hl => match us, hl with | [_], _ => rfl
  have F4 := fun_mk (st := sNeeded) l4 c4 k4
  have g4 := PySem.W.mg_of X G a4
  have b4 := F4.binds (ps := ["way", "stores"]) fun _ _ _ _ _ _ us hl => match us, hl with | [_, _], _ => rfl
  have F5 := fun_mk (st := sJoined) l5 c5 k5
  have g5 := PySem.W.mg_of X G a5
  have b5 := F5.binds (ps := ["store", "stores"]) fun _ _ _ _ _ _ us hl => match us, hl with | [_, _], _ => rfl
  have F6 := fun_mk (st := sBoth) l6 c6 k6
  have g6 := PySem.W.mg_of X G a6
  have b6 := F6.binds (ps := ["stores", "others"]) fun _ _ _ _ _ _ us hl => match us, hl with | [_, _], _ => rfl
  have F7 := fun_mk (st := sInAll) l7 c7 k7
  have g7 := PySem.W.mg_of X G a7
  have b7 := F7.binds (ps := ["before", "needs"]) fun _ _ _ _ _ _ us hl => match us, hl with | [_, _], _ => rfl
  have F8 := fun_mk (st := sOneMore) l8 c8 k8
  have g8 := PySem.W.mg_of X G a8
  have b8 := F8.binds (ps := ["rooms", "before", "b"]) fun _ _ _ _ _ _ us hl => match us, hl with | [_, _, _], _ => rfl
  have F9 := fun_mk (st := sForAsk) l9 c9 k9
  have g9 := PySem.W.mg_of X G a9
  have b9 := F9.binds (ps := ["ask", "before", "b"]) fun _ _ _ _ _ _ us hl => match us, hl with | [_, _, _], _ => rfl
  have F10 := fun_mk (st := sNoMore) l10 c10 k10
  have g10 := PySem.W.mg_of X G a10
  have b10 := F10.binds (ps := ["b", "stores"]) fun _ _ _ _ _ _ us hl => match us, hl with | [_, _], _ => rfl
  have F11 := fun_mk (st := sKindsOf) l11 c11 k11
  have g11 := PySem.W.mg_of X G a11
  have b11 := F11.binds (ps := ["house"]) fun _ _ _ _ _ _ us hl => match us, hl with | [_], _ => rfl
  have F12 := fun_mk (st := sPlanOf) l12 c12 k12
  have g12 := PySem.W.mg_of X G a12
  have b12 := F12.binds (ps := ["house"]) fun _ _ _ _ _ _ us hl => match us, hl with | [_], _ => rfl
  have F13 := fun_mk (st := sLeastThere) l13 c13 k13
  have g13 := PySem.W.mg_of X G a13
  have b13 := F13.binds (ps := ["plan", "n"]) fun _ _ _ _ _ _ us hl => match us, hl with | [_, _], _ => rfl
  have F14 := fun_mk (st := sLastsThere) l14 c14 k14
  have g14 := PySem.W.mg_of X G a14
  have b14 := F14.binds (ps := ["plan", "stand", "n"]) fun _ _ _ _ _ _ us hl => match us, hl with | [_, _, _], _ => rfl
  have F15 := fun_mk (st := sLasts) l15 c15 k15
  have g15 := PySem.W.mg_of X G a15
  have b15 := F15.binds (ps := ["house", "store", "n"]) fun _ _ _ _ _ _ us hl => match us, hl with | [_, _, _], _ => rfl
  have F16 := fun_mk (st := sLeast) l16 c16 k16
  have g16 := PySem.W.mg_of X G a16
  have b16 := F16.binds (ps := ["house", "n"]) fun _ _ _ _ _ _ us hl => match us, hl with | [_, _], _ => rfl
  have F17 := fun_mk (st := sTogether) l17 c17 k17
  have g17 := PySem.W.mg_of X G a17
  have b17 := F17.binds (ps := ["house", "other"]) fun _ _ _ _ _ _ us hl => match us, hl with | [_, _], _ => rfl
  have F18 := fun_mk (st := sBeside) l18 c18 k18
  have g18 := PySem.W.mg_of X G a18
  have b18 := F18.binds (ps := ["house", "other"]) fun _ _ _ _ _ _ us hl => match us, hl with | [_, _], _ => rfl
  have F19 := fun_mk (st := sTimes) l19 c19 k19
  have g19 := PySem.W.mg_of X G a19
  have b19 := F19.binds (ps := ["house", "m"]) fun _ _ _ _ _ _ us hl => match us, hl with | [_, _], _ => rfl
  have F20 := fun_mk (st := sOpen) l20 c20 k20
  have g20 := PySem.W.mg_of X G a20
  have b20 := F20.binds (ps := ["script"]) fun _ _ _ _ _ _ us hl => match us, hl with | [_], _ => rfl
  have F21 := fun_mk (st := sSpread) l21 c21 k21
  have g21 := PySem.W.mg_of X G a21
  have b21 := F21.binds (ps := ["cell", "at"]) fun _ _ _ _ _ _ us hl => match us, hl with | [_, _], _ => rfl
  have F22 := fun_mk (st := sTake) l22 c22 k22
  have g22 := PySem.W.mg_of X G a22
  have b22 := F22.binds (ps := ["pen", "amount"]) fun _ _ _ _ _ _ us hl => match us, hl with | [_, _], _ => rfl
  have F23 := fun_mk (st := sHouse) l23 c23 k23
  have g23 := PySem.W.mg_of X G a23
  have b23 := F23.binds (ps := ["pen", "kinds", "asks", "ways", "size"]) fun _ _ _ _ _ _ us hl => match us, hl with | [_, _, _, _, _], _ => rfl
  have F24 := fun_mk (st := sStore46) l24 c24 k24
  have g24 := PySem.W.mg_of X G a24
  have b24 := F24.binds (ps := ["pen", "kinds", "lows"]) fun _ _ _ _ _ _ us hl => match us, hl with | [_, _, _], _ => rfl
  have F25 := fun_mk (st := sMost46) l25 c25 k25
  have g25 := PySem.W.mg_of X G a25
  have b25 := F25.binds (ps := ["house", "store", "most"]) fun _ _ _ _ _ _ us hl => match us, hl with | [_, _, _], _ => rfl
  have F26 := fun_mk (st := sJoinR) l26 c26 k26
  have g26 := PySem.W.mg_of X G a26
  have b26 := F26.binds (ps := ["pen", "house", "other", "n"]) fun _ _ _ _ _ _ us hl => match us, hl with | [_, _, _, _], _ => rfl
  have F27 := fun_mk (st := sBesR) l27 c27 k27
  have g27 := PySem.W.mg_of X G a27
  have b27 := F27.binds (ps := ["pen", "house", "far", "n"]) fun _ _ _ _ _ _ us hl => match us, hl with | [_, _, _, _], _ => rfl
  have F28 := fun_mk (st := sTimR) l28 c28 k28
  have g28 := PySem.W.mg_of X G a28
  have b28 := F28.binds (ps := ["pen", "house", "n"]) fun _ _ _ _ _ _ us hl => match us, hl with | [_, _, _], _ => rfl
  have F29 := fun_mk (st := sLaw46) l29 c29 k29
  have g29 := PySem.W.mg_of X G a29
  have F30 := fun_mk (st := sChInit) l30 c30 k30
  have M30 : Meth K C1 "__init__" f30 := ⟨a30, i30, k30⟩
  have b30 := F30.binds (ps := ["self", "plan"]) fun _ _ _ _ _ _ us hl => match us, hl with | [_, _], _ => rfl
  have F31 := fun_mk (st := sChLeast) l31 c31 k31
  have M31 : Meth K C1 "least" f31 := ⟨a31, i31, k31⟩
  have b31 := F31.binds (ps := ["self", "n"]) fun _ _ _ _ _ _ us hl => match us, hl with | [_, _], _ => rfl
  have F32 := fun_mk (st := sChLasts) l32 c32 k32
  have M32 : Meth K C1 "lasts" f32 := ⟨a32, i32, k32⟩
  have b32 := F32.binds (ps := ["self", "stand", "n"]) fun _ _ _ _ _ _ us hl => match us, hl with | [_, _, _], _ => rfl
  have F33 := fun_mk (st := sChTold) l33 c33 k33
  have M33 : Meth K C1 "told" f33 := ⟨a33, i33, k33⟩
  have b33 := F33.binds (ps := ["self", "lists"]) fun _ _ _ _ _ _ us hl => match us, hl with | [_, _], _ => rfl
  have Cl1 : L2.Cls K C1 := ⟨pg1, hd1, po1, sa1⟩
  have Mk1 : Mk K C1 f30 := ⟨mk1, a30, i30, kc1⟩
  have gC1 := PySem.W.mg_of X G aC1
  have m_max := PySem.W.mg_none_of X G z1
  have m_min := PySem.W.mg_none_of X G z2
  have m_len := PySem.W.mg_none_of X G z3
  have m_sorted := PySem.W.mg_none_of X G z4
  have m_set := PySem.W.mg_none_of X G z5
  have m_zip := PySem.W.mg_none_of X G z6
  have m_range := PySem.W.mg_none_of X G z7
  have m_tuple := PySem.W.mg_none_of X G z8
  have m_enumerate := PySem.W.mg_none_of X G z9
  have m_list := PySem.W.mg_none_of X G z10
  refine ⟨PySem.W.fnOf "law" "law" (defArgs sLaw46) (defBody sLaw46) (defScope sLaw46) .none kV29 dc29 pm29 an29 cd29 ct29, fun s v => .of_eq rfl, fun base _ _ => ?_⟩
  have gF := PySem.W.mg_of X G aF
  have gN := PySem.W.mg_of X G aN
  have hN : ∀ H : Hp, Dp K H (.ref nq) (wayD [0, 0, 0, 0]) := nothing_at (its := #[]) lN rfl rfl
  have P1 := ok_inFour (P := l.prog) (w := w) (base := base) (k := 0) F1 gF m_len
  have P2a := ok_covOne (P := l.prog) (w := w) (mg := mg) (base := base) (k := 0) F2
  have P3 := ok_leastOf (k := 0) F3 P2a F2.kp b2 g2 m_sorted m_set
  have P4 := ok_needed (P := l.prog) (w := w) (base := base) (k := 0) F4 m_max
  have P5 := ok_joined (P := l.prog) (w := w) (mg := mg) (base := base) (k := 0) F5
  have P3U := ok_leastU (k := 0) F3 P2a F2.kp b2 g2 m_sorted m_set
  have P6 := ok_bothJ (k := 0) F6 (P2a.mono (by decide)) F2.kp b2 g2 (P5.mono (by decide)) F5.kp b5 g5 P3U F3.kp b3 g3
  have PA := ok_inAll (k := 0) F7 P6 F6.kp b6 g6 m_sorted m_len
  have PM := ok_noMore (P := l.prog) (w := w) (base := base) (k := 0) F10 m_max
  have PK := ok_forAsk (k := 0) F9 (P4.mono (by decide)) F4.kp b4 g4 (PM.mono (by decide)) F10.kp b10 g10 P3 F3.kp b3 g3
  have PO := ok_oneMore (k := 0) F8 (PK.mono (by decide)) F9.kp b9 g9 PA F7.kp b7 g7 m_zip
  have TC : ChTxt K C1 := ⟨Cl1, na1_kinds, na1_rooms, na1_lists, na1_boxes⟩
  have QI := ok_chInit (k := 0) F30 TC P1 F1.kp b1 g1 gN hN
  have QL := ok_chLeast (k := 0) F31 TC PO F8.kp b8 g8 m_len
  have QS := ok_chLasts (k := 0) F32 TC QL M31 b31 (P1.mono (by decide)) F1.kp b1 g1 (P2a.mono (by decide)) F2.kp b2 g2 m_len m_range m_min
  have QT := ok_chTold (P := l.prog) (w := w) (mg := mg) (base := base) (k := 0) F33 TC
  have CF : ChFns l.prog w K mg base 0 C1 f30 f31 f32 f33 _ _ _ _ := ⟨TC, Mk1, gC1, QI, b30, QL, M31, b31, QS, M32, b32, QT, M33, b33⟩
  have P7 := ok_kindsOf (P := l.prog) (w := w) (base := base) (k := 0) F11 m_len
  have PP := ok_planOf (k := 0) F12 P7 F11.kp b11 g11 m_tuple
  have PLT := ok_leastThere (k := 0) F13 CF
  have PST := ok_lastsThere (k := 0) F14 CF
  have P9 := ok_leastP (k := 0) F16 PP F12.kp b12 g12 PLT F13.kp b13 g13
  have P8 := ok_lastsP (k := 0) F15 PP F12.kp b12 g12 PST F14.kp b14 g14
  have J1 := ok_together (P := l.prog) (w := w) (mg := mg) (base := base) (K := K) (k := 0) F17
  have J2 := ok_beside (k := 0) F18 P7 F11.kp b11 g11 m_tuple
  have J3 := ok_times (P := l.prog) (w := w) (base := base) (k := 0) F19 m_tuple
  have GO : FnOk l.prog w K mg base CX0 1 f20 _ ["script"] (spOpen K) := ok_open (k := 0) F20 m_list m_enumerate
  have GT : FnOk l.prog w K mg base CX0 2 f22 _ ["pen", "amount"] spTake := ok_take (k := 0) F22 F21 b21 g21 m_len
  have GH := ok_house (k := 0) F23 GT F22.kp b22 g22 m_range m_tuple m_len
  have GS := ok_store46 (k := 9) F24 (GT.mono (by decide)) F22.kp b22 g22 m_len m_tuple m_range m_max
  have GM := ok_most46 (k := 9) F25 (P8.mono (by decide)) F15.kp b15 g15
  have C : C46 l.prog w K mg base 10 f24 f16 f15 f25 f17 _ _ _ _ _ := ⟨(GS.mono (by decide)), F24.kp, b24, g24, (P9.mono (by decide)), F16.kp, b16, g16, (P8.mono (by decide)), F15.kp, b15, g15, (GM.mono (by decide)), F25.kp, b25, g25, (J1.mono (by decide)), F17.kp, b17, g17, m_len, m_tuple, m_zip, m_min⟩
  have GJ := ok_joinR (k := 10) F26 C
  have GB := ok_besR (k := 10) F27 C (J2.mono (by decide)) F18.kp b18 g18 m_range m_max m_sorted
  have GI := ok_timR (k := 10) F28 C (GT.mono (by decide)) F22.kp b22 g22 (J3.mono (by decide)) F19.kp b19 g19
  exact ok_law46 F29 ⟨g20, g22, g23, g26, g27, g28, m_range⟩ (k := 11) ⟨(GO.mono (by decide)), F20.kp, b20, (GT.mono (by decide)), F22.kp, b22, (GH.mono (by decide)), F23.kp, b23, (GJ.mono (by decide)), F26.kp, b26, (GB.mono (by decide)), F27.kp, b27, (GI.mono (by decide)), F28.kp, b28⟩
end My
open PySem PySem.W PyProof.Rows
set_option maxRecDepth 100000 in
set_option maxHeartbeats 0 in
theorem PySem.Challenge.cw_everstock_k46_whole_lasting_in_both_holds : PySem.Challenge.rw_everstock_k46_whole_lasting_in_both.Holds := by
  w_on; o_law; k_head; (case hw => w_witness2)
  k_fill
  refine L2.walk_of (l := PySem.Challenge.rw_everstock_k46_whole_lasting_in_both) (n := 63) (k := 12) (x := "script") (CX := fun _ => L2.CX0) (sp := fun w => My.spLaw46 _) rfl (by decide) rfl ⟨rfl, by decide, by decide⟩ (fun w h Y => PySem.W.kIn_of Y) ?F (fun _ _ a ns hl _ hS => ⟨a, ns, rfl, hS, hl, fun _ => rfl⟩) (fun _ _ _ _ _ h => h)
  case F =>
    intro w mg fa h KX G hmg
    refine' My.all_mk KX G hmg ?aC1 ?pg1 ?hd1 ?po1 ?sa1 ?mk1 ?kc1 ?na1_kinds ?na1_rooms ?na1_lists ?na1_boxes ?a1 ?l1 ?c1 ?k1 ?a2 ?l2 ?c2 ?k2 ?a3 ?l3 ?c3 ?k3 ?a4 ?l4 ?c4 ?k4 ?a5 ?l5 ?c5 ?k5 ?a6 ?l6 ?c6 ?k6 ?a7 ?l7 ?c7 ?k7 ?a8 ?l8 ?c8 ?k8 ?a9 ?l9 ?c9 ?k9 ?a10 ?l10 ?c10 ?k10 ?a11 ?l11 ?c11 ?k11 ?a12 ?l12 ?c12 ?k12 ?a13 ?l13 ?c13 ?k13 ?a14 ?l14 ?c14 ?k14 ?a15 ?l15 ?c15 ?k15 ?a16 ?l16 ?c16 ?k16 ?a17 ?l17 ?c17 ?k17 ?a18 ?l18 ?c18 ?k18 ?a19 ?l19 ?c19 ?k19 ?a20 ?l20 ?c20 ?k20 ?a21 ?l21 ?c21 ?k21 ?a22 ?l22 ?c22 ?k22 ?a23 ?l23 ?c23 ?k23 ?a24 ?l24 ?c24 ?k24 ?a25 ?l25 ?c25 ?k25 ?a26 ?l26 ?c26 ?k26 ?a27 ?l27 ?c27 ?k27 ?a28 ?l28 ?c28 ?k28 ?a29 ?l29 ?c29 ?k29 ?a30 ?i30 ?l30 ?c30 ?k30 ?a31 ?i31 ?l31 ?c31 ?k31 ?a32 ?i32 ?l32 ?c32 ?k32 ?a33 ?i33 ?l33 ?c33 ?k33 ?z1 ?z2 ?z3 ?z4 ?z5 ?z6 ?z7 ?z8 ?z9 ?z10 ?aF ?aN ?lN
    (case aC1 => k_is); (case pg1 => k_is); (case hd1 => k_is); (case po1 => k_is); (case sa1 => k_is); (case mk1 => k_is); (case kc1 => k_is); (case na1_kinds => k_is); (case na1_rooms => k_is); (case na1_lists => k_is); (case na1_boxes => k_is); (case a1 => k_is); (case l1 => k_is); (case c1 => k_is); (case k1 => k_is); (case a2 => k_is); (case l2 => k_is); (case c2 => k_is); (case k2 => k_is); (case a3 => k_is); (case l3 => k_is); (case c3 => k_is); (case k3 => k_is); (case a4 => k_is); (case l4 => k_is); (case c4 => k_is); (case k4 => k_is); (case a5 => k_is); (case l5 => k_is); (case c5 => k_is); (case k5 => k_is); (case a6 => k_is); (case l6 => k_is); (case c6 => k_is); (case k6 => k_is); (case a7 => k_is); (case l7 => k_is); (case c7 => k_is); (case k7 => k_is); (case a8 => k_is); (case l8 => k_is); (case c8 => k_is); (case k8 => k_is); (case a9 => k_is); (case l9 => k_is); (case c9 => k_is); (case k9 => k_is); (case a10 => k_is); (case l10 => k_is); (case c10 => k_is); (case k10 => k_is); (case a11 => k_is); (case l11 => k_is); (case c11 => k_is); (case k11 => k_is); (case a12 => k_is); (case l12 => k_is); (case c12 => k_is); (case k12 => k_is); (case a13 => k_is); (case l13 => k_is); (case c13 => k_is); (case k13 => k_is); (case a14 => k_is); (case l14 => k_is); (case c14 => k_is); (case k14 => k_is); (case a15 => k_is); (case l15 => k_is); (case c15 => k_is); (case k15 => k_is); (case a16 => k_is); (case l16 => k_is); (case c16 => k_is); (case k16 => k_is); (case a17 => k_is); (case l17 => k_is); (case c17 => k_is); (case k17 => k_is); (case a18 => k_is); (case l18 => k_is); (case c18 => k_is); (case k18 => k_is); (case a19 => k_is); (case l19 => k_is); (case c19 => k_is); (case k19 => k_is); (case a20 => k_is); (case l20 => k_is); (case c20 => k_is); (case k20 => k_is); (case a21 => k_is); (case l21 => k_is); (case c21 => k_is); (case k21 => k_is); (case a22 => k_is); (case l22 => k_is); (case c22 => k_is); (case k22 => k_is); (case a23 => k_is); (case l23 => k_is); (case c23 => k_is); (case k23 => k_is); (case a24 => k_is); (case l24 => k_is); (case c24 => k_is); (case k24 => k_is); (case a25 => k_is); (case l25 => k_is); (case c25 => k_is); (case k25 => k_is); (case a26 => k_is); (case l26 => k_is); (case c26 => k_is); (case k26 => k_is); (case a27 => k_is); (case l27 => k_is); (case c27 => k_is); (case k27 => k_is); (case a28 => k_is); (case l28 => k_is); (case c28 => k_is); (case k28 => k_is); (case a29 => k_is); (case l29 => k_is); (case c29 => k_is); (case k29 => k_is); (case a30 => k_is); (case i30 => k_is); (case l30 => k_is); (case c30 => k_is); (case k30 => k_is); (case a31 => k_is); (case i31 => k_is); (case l31 => k_is); (case c31 => k_is); (case k31 => k_is); (case a32 => k_is); (case i32 => k_is); (case l32 => k_is); (case c32 => k_is); (case k32 => k_is); (case a33 => k_is); (case i33 => k_is); (case l33 => k_is); (case c33 => k_is); (case k33 => k_is); (case z1 => k_is); (case z2 => k_is); (case z3 => k_is); (case z4 => k_is); (case z5 => k_is); (case z6 => k_is); (case z7 => k_is); (case z8 => k_is); (case z9 => k_is); (case z10 => k_is); (case aF => k_is); (case aN => k_is); (case lN => k_is)
#print axioms PySem.Challenge.cw_everstock_k46_whole_lasting_in_both_holds
