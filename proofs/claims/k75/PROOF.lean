import PyProof.Rows.All
import Wide.All
import OpenK.AllK
import Wide.FinOn
import HandS.ForMost
import HandS.Codes
import HandS.IsInst
import HandS.Walk
import HandS.Zip
import HandS.TupSets
import HandS.SortOrd
import HandS.NamedTupSort
import HandS.TupMul
import HandS.TupAny
import KE.DataMinMax
import HandS.Zip0
import HandS.Flt
import HandS.TryOnly
import KE.GoesZip
import KE.KTupSum
import PySem.Challenge.RW_everstock_k75_whole_more_is_never_worse
set_option Elab.async false
set_option linter.all false
set_option maxRecDepth 100000
set_option maxHeartbeats 4000000
namespace My
open PySem PySem.Spec PyProof.Rows L2
/-! ### the tables of sets of tuples, up to 4914 of them -/
/-- each slot begins a run early enough -/
structure MOk (m : Nat) : Prop where
  full : ∀ (h : Int) (j : Nat), j ≤ m → ∃ n, n ≤ m + 12 ∧ runI m (SetTable.bits h) n = j
  odd : m % 2 = 1
  few : m ≤ 9000
theorem mok_of {m : Nat} (q : MaskOk m) : MOk m := ⟨fun h _ hj => run_meets q h hj, mask_odd q, by rcases q with rfl | rfl | rfl <;> decide⟩
/-- the slots that are met, as bits -/
def orb (m : Nat) : Nat → Nat → Nat → Nat
  | 0, _, acc => acc
  | n + 1, x, acc => orb m n ((x * 5 + 1) % (m + 1)) (acc ||| 2 ^ x)
theorem lcgI_front (m : Nat) : ∀ k x, lcgI m x (k + 1) = lcgI m ((x * 5 + 1) % (m + 1)) k
  | 0, _ => rfl
  | k + 1, x => by
    show (lcgI m x (k + 1) * 5 + 1) % (m + 1) = (lcgI m ((x * 5 + 1) % (m + 1)) k * 5 + 1) % (m + 1)
    rw [lcgI_front m k x]
theorem orb_bit (m : Nat) : ∀ n x acc j, (orb m n x acc).testBit j = true → acc.testBit j = true ∨ ∃ k, k < n ∧ lcgI m x k = j
  | 0, _, _, _, h => .inl h
  | n + 1, x, acc, j, h => by
    rcases orb_bit m n _ _ j h with z | ⟨k, hk, e⟩
    · rw [Nat.testBit_or, Bool.or_eq_true, Nat.testBit_two_pow, decide_eq_true_eq] at z
      rcases z with z | z
      · exact .inl z
      · exact .inr ⟨0, Nat.succ_pos n, z⟩
    · exact .inr ⟨k + 1, Nat.succ_lt_succ hk, (lcgI_front m k x).trans e⟩
theorem lcgI_plus (m x a : Nat) : ∀ k, lcgI m (lcgI m x a) k = lcgI m x (a + k)
  | 0 => rfl
  | k + 1 => by
    show (lcgI m (lcgI m x a) k * 5 + 1) % (m + 1) = (lcgI m x (a + k) * 5 + 1) % (m + 1)
    rw [lcgI_plus m x a k]
theorem mok_by {m : Nat} (c : orb m (m + 1) 0 0 = 2 ^ (m + 1) - 1) (r : lcgI m 0 (m + 1) = 0) (o : m % 2 = 1) (f : m ≤ 9000) : MOk m := by
  have hit : ∀ j, j ≤ m → ∃ b, b ≤ m ∧ lcgI m 0 b = j := fun j hj => by
    have z : (orb m (m + 1) 0 0).testBit j = true := by
      rw [c, Nat.testBit_two_pow_sub_one, decide_eq_true_eq]
      omega
    rcases orb_bit m _ _ _ j z with z | ⟨k, hk, e⟩
    · rw [Nat.zero_testBit] at z
      cases z
    · exact ⟨k, by omega, e⟩
  have again : ∀ k, lcgI m 0 (m + 1 + k) = lcgI m 0 k := fun k => by rw [← lcgI_plus, r]
  refine ⟨fun h j hj => ?_, o, f⟩
  obtain ⟨a, ha, ea⟩ := hit _ (runI_le m (SetTable.bits h) 12)
  obtain ⟨b, hb, eb⟩ := hit j hj
  have reach : ∃ k, k ≤ m ∧ lcgI m (runI m (SetTable.bits h) 12) k = j := by
    rw [← ea]
    by_cases lt : b < a
    · refine ⟨b + (m + 1) - a, by omega, ?_⟩
      rw [lcgI_plus, show a + (b + (m + 1) - a) = m + 1 + b by omega, again, eb]
    · exact ⟨b - a, by omega, by rw [lcgI_plus, show a + (b - a) = b by omega, eb]⟩
  obtain ⟨k, hk, e⟩ := reach
  exact ⟨12 + k, by omega, (runI_tail (bits_lt h) k).trans e⟩
theorem mok_2047 : MOk 2047 := mok_by (by decide +kernel) (by decide +kernel) rfl (by decide)
theorem mok_8191 : MOk 8191 := mok_by (by decide +kernel) (by decide +kernel) rfl (by decide)
theorem mok_511 : MOk 511 := mok_by (by decide +kernel) (by decide +kernel) rfl (by decide)
theorem way_in {m : Nat} (h : Int) (k : Nat) : way m h k ≤ m := by
  have hi : SetTable.bits h % (m + 1) ≤ m := by have := Nat.mod_lt (SetTable.bits h) (show 0 < m + 1 by omega); omega
  have hr := runEnd_bd hi
  have z := nth_in k (runAt m (SetTable.bits h % (m + 1)) (SetTable.bits h)) (show SetTable.bits h % (m + 1) + (SetTable.runEnd m (SetTable.bits h % (m + 1)) - SetTable.bits h % (m + 1)) ≤ m by omega)
  exact Nat.le_trans (Nat.le_add_right _ _) z
theorem MOk.meets {m : Nat} (q : MOk m) (h : Int) {j : Nat} (hj : j ≤ m) : ∃ k, k < 10 * SetTable.turns m ∧ way m h k = j := by
  obtain ⟨n, hn, e⟩ := q.full h j hj
  obtain ⟨k, hk, z⟩ := run_nth m (SetTable.bits h) n
  exact ⟨k, by unfold SetTable.turns; omega, (congrArg SetTable.Probe.j z).trans e⟩

/-! ### a table that is found through -/
structure TabG (t : SetTable) (hs : List Int) : Prop where
  up : Ris t.place.toList
  nod : t.dummies = #[]
  cnt : t.place.size = hs.length
  mok : MOk t.mask
  le : ∀ x ∈ t.place.toList, x ≤ t.mask
  met : ∀ (i : Nat) (h : Int) (j : Nat), hs[i]? = some h → t.place.toList[i]? = some j → ∃ k, way t.mask h k = j ∧ ∀ c, c < k → way t.mask h c ∈ t.place.toList
theorem TabG.first {t : SetTable} {hs : List Int} (T : TabG t hs) (hl : hs.length ≤ t.mask) (h : Int) : ∃ K, K < 10 * SetTable.turns t.mask ∧ way t.mask h K ∉ t.place.toList ∧ ∀ c, c < K → way t.mask h c ∈ t.place.toList := by
  obtain ⟨j, hj, hn⟩ := st_missing t.place.toList (t.mask + 1) (by rw [Array.length_toList, T.cnt]; omega)
  obtain ⟨k, hk, e⟩ := T.mok.meets h (j := j) (by omega)
  subst e
  obtain ⟨K, h1, h2, h3⟩ := st_least (p := fun c => way t.mask h c ∉ t.place.toList) k hn
  exact ⟨K, by omega, h2, fun c hc => Classical.byContradiction fun z => h3 c hc z⟩
theorem TabG.ahead {t : SetTable} {hs : List Int} (T : TabG t hs) {h : Int} {K i j : Nat} (hK : way t.mask h K ∉ t.place.toList) (hi : hs[i]? = some h) (hj : t.place.toList[i]? = some j) : ∃ k, k < K ∧ way t.mask h k = j := by
  obtain ⟨k, e, hb⟩ := T.met i h j hi hj
  refine ⟨k, Nat.lt_of_not_le fun c => ?_, e⟩
  rcases Nat.lt_or_eq_of_le c with c | c
  · exact hK (hb K c)
  · rw [c, e] at hK
    exact hK (List.mem_of_getElem? hj)
theorem TabG.put {t : SetTable} {hs : List Int} (T : TabG t hs) {h : Int} {K : Nat} (hK : way t.mask h K ∉ t.place.toList) (hb : ∀ c, c < K → way t.mask h c ∈ t.place.toList) {p : Nat} (hp : p = SetTable.below t.place (way t.mask h K)) :
    (t.put (way t.mask h K)).2 = p ∧ p ≤ hs.length ∧ TabG (t.put (way t.mask h K)).1 (hs.take p ++ h :: hs.drop p) ∧ (t.put (way t.mask h K)).1.fill = hs.length + 1 := by
  subst hp
  have wl := way_in (m := t.mask) h K
  obtain ⟨cut, _, _⟩ := below_cut T.up (way t.mask h K)
  have l1 : SetTable.below t.place (way t.mask h K) ≤ t.place.toList.length := by rw [Array.length_toList]; exact cut
  have l2 : SetTable.below t.place (way t.mask h K) ≤ hs.length := by rw [← T.cnt]; exact cut
  have l3 : t.place.toList.length = hs.length := by rw [Array.length_toList, T.cnt]
  have pl := put_place t (way t.mask h K)
  have sz : (t.put (way t.mask h K)).1.place.size = hs.length + 1 := by rw [← Array.length_toList, pl, len_ins _ l1, l3]
  have more : ∀ {x : Nat}, x ∈ t.place.toList → x ∈ (t.put (way t.mask h K)).1.place.toList := fun m => by rw [pl]; exact mem_ins.2 (.inr m)
  have fr : t.place[SetTable.below t.place (way t.mask h K)]? ≠ some (way t.mask h K) := fun e => hK (List.mem_of_getElem? (by rw [Array.getElem?_toList]; exact e))
  refine ⟨rfl, l2, ⟨ris_insert T.up fr, put_dm T.nod _, by rw [len_ins _ l2]; exact sz, T.mok, fun x hx => ?_, fun i g j a b => ?_⟩, ?_⟩
  · rw [pl] at hx
    rcases mem_ins.1 hx with rfl | z
    · exact wl
    · exact T.le x z
  · rw [pl, tins_get _ l1] at b
    rw [tins_get hs l2] at a
    show ∃ k, way t.mask g k = j ∧ ∀ c, c < k → way t.mask g c ∈ (t.put (way t.mask h K)).1.place.toList
    rcases Nat.lt_trichotomy i (SetTable.below t.place (way t.mask h K)) with c | c | c
    · rw [if_pos c] at a b
      obtain ⟨k, e, z⟩ := T.met i g j a b
      exact ⟨k, e, fun c hc => more (z c hc)⟩
    · rw [if_neg (by omega), if_pos c] at a b
      cases a
      cases b
      exact ⟨K, rfl, fun c hc => more (hb c hc)⟩
    · rw [if_neg (by omega), if_neg (by omega)] at a b
      obtain ⟨k, e, z⟩ := T.met _ g j a b
      exact ⟨k, e, fun c hc => more (z c hc)⟩
  · unfold SetTable.fill
    rw [sz, put_dm T.nod]
    rfl

/-! ### laid anew -/
theorem free_at {m : Nat} (q : MOk m) (owner : Array (Option Nat)) (h : Int) {j : Nat} (hj : j ≤ m) (hf : oAt owner j = none) :
    ∃ K, SetTable.layClean.free m owner (SetTable.turns m) (SetTable.bits h % (m + 1)) (SetTable.bits h) = some (way m h K) ∧ oAt owner (way m h K) = none ∧ ∀ c, c < K → oAt owner (way m h c) ≠ none := by
  obtain ⟨n, hn, e⟩ := q.full h j hj
  have hw : way m h (off m (SetTable.bits h % (m + 1)) (SetTable.bits h) n) = j := by
    unfold way
    rw [nth_off, itL_run]
    exact e
  obtain ⟨K, k1, k2, k3⟩ := st_least (p := fun c => oAt owner (way m h c) = none) (off m (SetTable.bits h % (m + 1)) (SetTable.bits h) n) (hw.symm ▸ hf)
  refine ⟨K, free_spec m owner _ n _ _ K (by unfold SetTable.turns; omega) k1 (fun c hc => ?_) (Option.isNone_iff_eq_none.mpr k2), k2, k3⟩
  cases z : oAt owner (way m h c) with
  | none => exact absurd z (k3 c hc)
  | some v => rfl
theorem own_more {m : Nat} (q : MOk m) {done : List Int} {owner : Array (Option Nat)} (W : Own m done owner) (hl : done.length ≤ m) (h : Int) :
    ∃ j, SetTable.layClean.free m owner (SetTable.turns m) (SetTable.bits h % (m + 1)) (SetTable.bits h) = some j ∧ Own m (done ++ [h]) (owner.setIfInBounds j (some done.length)) := by
  obtain ⟨ps, hps, hin⟩ := W.ps
  obtain ⟨j0, h0, hn0⟩ := st_missing ps (m + 1) (by omega)
  have hj0 : oAt owner j0 = none := Classical.byContradiction fun z => hn0 (hin j0 (by omega) z)
  obtain ⟨K, e1, e2, e3⟩ := free_at q owner h (by omega) hj0
  have wl := way_in (m := m) h K
  have at0 := oAt_set_self (owner := owner) (some done.length) (show way m h K < owner.size by rw [W.sz]; omega)
  have oth : ∀ {i}, i ≠ way m h K → oAt (owner.setIfInBounds (way m h K) (some done.length)) i = oAt owner i := fun c => oAt_set_ne _ c
  have stays : ∀ {i : Nat}, oAt owner i ≠ none → oAt (owner.setIfInBounds (way m h K) (some done.length)) i ≠ none := fun {i} hi => by
    by_cases c : i = way m h K
    · rw [c, at0]
      simp
    · rw [oth c]
      exact hi
  refine ⟨_, e1, by rw [Array.size_setIfInBounds, W.sz], fun j k hj e => ?_, fun k hk => ?_, way m h K :: ps, by simp [hps], fun j hj e => ?_⟩
  · by_cases c : j = way m h K
    · rw [c, at0] at e
      cases e
      exact ⟨h, K, by simp, c.symm, fun c hc => stays (e3 c hc)⟩
    · rw [oth c] at e
      obtain ⟨g, G, a1, a2, a3⟩ := W.at_ j k hj e
      exact ⟨g, G, by rw [List.getElem?_append_left (List.getElem?_eq_some_iff.mp a1).1, a1], a2, fun c hc => stays (a3 c hc)⟩
  · rcases Nat.lt_or_eq_of_le (show k ≤ done.length by simp at hk; omega) with c | rfl
    · obtain ⟨j, hj, e⟩ := W.all k c
      exact ⟨j, hj, by rw [oth fun z => by rw [z, e2] at e; cases e]; exact e⟩
    · exact ⟨_, wl, at0⟩
  · by_cases c : j = way m h K
    · simp [c]
    · rw [oth c] at e
      exact List.mem_cons_of_mem _ (hin j hj e)
theorem own_all {m : Nat} (q : MOk m) : ∀ (rest done : List Int) (owner : Array (Option Nat)), Own m done owner → done.length + rest.length ≤ m →
    ∃ o', rest.foldl (stepF m) (some (owner, done.length)) = some (o', (done ++ rest).length) ∧ Own m (done ++ rest) o'
  | [], done, owner, W, _ => ⟨owner, by simp, by simpa using W⟩
  | h :: rest, done, owner, W, hl => by
    simp only [List.length_cons] at hl
    obtain ⟨j, e, W'⟩ := own_more q W (by omega) h
    obtain ⟨o', f, W2⟩ := own_all q rest (done ++ [h]) _ W' (by simp; omega)
    refine ⟨o', ?_, by simpa using W2⟩
    rw [List.foldl_cons, stepF_some e]
    simpa using f
theorem laid_all {m : Nat} (q : MOk m) {hs : Array Int} (hn : hs.size ≤ m) : ∃ owner, SetTable.layClean m hs = some owner ∧ Own m hs.toList owner := by
  obtain ⟨o', f, W⟩ := own_all q hs.toList [] _ (Own.init m) (by simpa using hn)
  exact ⟨o', by rw [layClean_eq, show (0 : Nat) = ([] : List Int).length from rfl, f]; rfl, by simpa using W⟩
theorem relaid_all (t : SetTable) {hs : Array Int} {wanted M : Nat} (hw : SetTable.sizeAbove wanted - 1 = M) (q : MOk M) (hn : hs.size ≤ M) :
    ∃ t' order, t.relaid hs wanted = some (t', order) ∧ order.toList.Perm (List.range hs.size) ∧ TabG t' (order.toList.map fun i => hs.getD i 0) ∧ t'.mask = M ∧ t'.led = t.led ∧ t'.plain = t.plain ∧ t'.dummies = #[] := by
  obtain ⟨owner, e, W⟩ := laid_all q hn
  have ris := ris_live (fun j => owner.getD j none) (List.range (M + 1)) (by unfold Ris; exact List.pairwise_lt_range)
  have r1 : Ris ((liveOf M owner).map (·.1)) := ris.1
  have nd : ((liveOf M owner).map (·.1)).Nodup := r1.imp Nat.ne_of_lt
  have cnt : (liveOf M owner).length = hs.size := by
    obtain ⟨ps, p1, p2⟩ := W.ps
    refine Nat.le_antisymm ?_ ?_
    · have z := nat_nodup_len ((liveOf M owner).map (·.1)) ps nd fun x hx => by
        obtain ⟨⟨y, k⟩, hq, rfl⟩ := List.mem_map.mp hx
        obtain ⟨b1, b2⟩ := (mem_live W.sz).1 hq
        exact p2 y b1 (by rw [b2]; simp)
      rwa [List.length_map, p1, Array.length_toList] at z
    · have z := nat_nodup_len (List.range hs.size) ((liveOf M owner).map (·.2)) List.nodup_range fun k hk => by
        obtain ⟨j, b1, b2⟩ := W.all k (by simpa using hk)
        exact List.mem_map.mpr ⟨(j, k), (mem_live W.sz).2 ⟨b1, b2⟩, rfl⟩
      rwa [List.length_map, List.length_range] at z
  refine ⟨tabOf t M owner, ((liveOf M owner).map (·.2)).toArray, by rw [relaid_eq, hw, e]; rfl, ?_, ⟨r1, rfl, ?_, q, fun x hx => ?_, fun i g j a b => ?_⟩, rfl, rfl, rfl, rfl⟩
  · refine perm_range _ _ (by show ((liveOf M owner).map (·.2)).length = _; rw [List.length_map, cnt]) fun k hk => ?_
    obtain ⟨j, b1, b2⟩ := W.all k (by simpa using hk)
    exact List.mem_map.mpr ⟨(j, k), (mem_live W.sz).2 ⟨b1, b2⟩, rfl⟩
  · show ((liveOf M owner).map (·.1)).toArray.size = (((liveOf M owner).map (·.2)).map fun i => hs.getD i 0).length
    simp
  · obtain ⟨⟨y, k⟩, hq, rfl⟩ := List.mem_map.mp (show x ∈ (liveOf M owner).map (·.1) from hx)
    exact ((mem_live W.sz).1 hq).1
  · have a' : (((liveOf M owner).map (·.2)).map fun i => hs.getD i 0)[i]? = some g := a
    have b' : ((liveOf M owner).map (·.1))[i]? = some j := b
    simp only [List.getElem?_map, Option.map_map, Option.map_eq_some_iff] at a' b'
    obtain ⟨⟨y, k⟩, hq, ea⟩ := a'
    obtain ⟨z, hz, eb⟩ := b'
    rw [hq] at hz
    cases hz
    subst eb
    obtain ⟨b1, b2⟩ := (mem_live W.sz).1 (List.mem_of_getElem? hq)
    obtain ⟨h0, K, a1, a2, a3⟩ := W.at_ y k b1 b2
    have e0 : hs.getD k 0 = h0 := by
      rw [Array.getD_eq_getD_getElem?, ← Array.getElem?_toList, a1]
      rfl
    obtain rfl : h0 = g := e0.symm.trans ea
    refine ⟨K, a2, fun c hc => ?_⟩
    show way M h0 c ∈ (liveOf M owner).map (·.1)
    cases z : oAt owner (way M h0 c) with
    | none => exact absurd z (a3 c hc)
    | some k2 => exact List.mem_map.mpr ⟨(way M h0 c, k2), (mem_live W.sz).2 ⟨way_in h0 c, z⟩, rfl⟩
theorem grow_307 : SetTable.sizeAbove (SetTable.grown 307) = 2048 := by decide +kernel
theorem grow_1229 : SetTable.sizeAbove (SetTable.grown 1229) = 8192 := by decide +kernel
theorem grow_77 : SetTable.sizeAbove (SetTable.grown 77) = 512 := by decide +kernel
/-! ### a set of tuples of ints, in such a table -/
def Mk6 (m : Nat) : Prop := m = 7 ∨ m = 31 ∨ m = 127 ∨ m = 511 ∨ m = 2047 ∨ m = 8191
theorem Mk6.mok {m : Nat} (q : Mk6 m) : MOk m := by
  rcases q with h | h | h | h | h | h
  · exact mok_of (.inl h)
  · exact mok_of (.inr (.inl h))
  · exact mok_of (.inr (.inr h))
  · rw [h]; exact mok_511
  · rw [h]; exact mok_2047
  · rw [h]; exact mok_8191
theorem grow_next {m n : Nat} (q : Mk6 m) (room : n * 5 < m * 3) (full : (n + 1) * 5 ≥ m * 3) (few : n + 1 < 4915) :
    ∃ M, SetTable.sizeAbove (SetTable.grown (n + 1)) - 1 = M ∧ Mk6 M ∧ SetTable.sizeAbove (SetTable.grown (n + 1)) ≤ 8192 ∧ (n + 1) * 5 < M * 3 ∧ n + 1 ≤ m := by
  rcases q with h | h | h | h | h | h <;> subst h
  · obtain rfl : n = 4 := by omega
    exact ⟨31, by rw [size_20], .inr (.inl rfl), by rw [size_20]; decide, by decide, by decide⟩
  · obtain rfl : n = 18 := by omega
    exact ⟨127, by rw [size_76], .inr (.inr (.inl rfl)), by rw [size_76]; decide, by decide, by decide⟩
  · obtain rfl : n = 76 := by omega
    exact ⟨511, by rw [grow_77], .inr (.inr (.inr (.inl rfl))), by rw [grow_77]; decide, by decide, by decide⟩
  · obtain rfl : n = 306 := by omega
    exact ⟨2047, by rw [grow_307], .inr (.inr (.inr (.inr (.inl rfl)))), by rw [grow_307]; decide, by decide, by decide⟩
  · obtain rfl : n = 1228 := by omega
    exact ⟨8191, by rw [grow_1229], .inr (.inr (.inr (.inr (.inr rfl)))), by rw [grow_1229]; decide, by decide, by decide⟩
  · omega
structure SetG (P : Program) (w : World) (h : Heap) (a : Addr) (L : List (Addr × List Int)) (es : Array (Int × Value)) (ep : Nat) (t : SetTable) : Prop where
  obj : ∃ u, h.get? a = some u ∧ u.ExactSet ∧ u.data = .set es ep t
  rws : es.toList = rowsOf P w L
  tb : TabG t (L.map fun p => thash P w p.2)
  once : (L.map (·.2)).Nodup
  tups : ∀ p ∈ L, IsT P w h p.2 p.1
  pla : t.plain = true
  ledd : w.params.followText "set-order" = true ∨ t.led = true
  rm : L.length * 5 < t.mask * 3
  few : L.length < 4915
  m6 : Mk6 t.mask
section
variable {P : Program} {w : World} {A : Around} {E : Value → Shared → Prop} {s : Shared} {a : Addr} {L : List (Addr × List Int)} {es : Array (Int × Value)} {ep : Nat} {t : SetTable}
theorem rows_size (h : es.toList = rowsOf P w L) : es.size = L.length := by
  rw [← Array.length_toList, h]
  simp [rowsOf]
theorem SetG.size {h : Heap} (R : SetG P w h a L es ep t) : es.size = L.length := rows_size R.rws
theorem SetG.cnt {h : Heap} (R : SetG P w h a L es ep t) : t.place.toList.length = L.length := by rw [Array.length_toList, R.tb.cnt, List.length_map]
theorem fits_by (h1 : t.place.size = es.size) (h2 : t.dummies = #[]) (h3 : es.size ≤ t.mask) : t.fits es.size = true := by
  unfold SetTable.fits SetTable.fill
  simp [h1, h2, h3]
theorem SetG.fits {h : Heap} (R : SetG P w h a L es ep t) : t.fits es.size = true := by
  have e := R.size
  have c := R.rm
  exact fits_by (by rw [R.tb.cnt, List.length_map, e]) R.tb.nod (by omega)
theorem SetG.row {h : Heap} (R : SetG P w h a L es ep t) {i : Nat} {p : Addr × List Int} (hp : L[i]? = some p) : es[i]? = some (thash P w p.2, Value.ref p.1) := by
  rw [← Array.getElem?_toList, R.rws]
  unfold rowsOf
  simp [hp]
theorem SetG.keeps {h : Heap} (R : SetG P w h a L es ep t) : ¬ t.gaveWay = true := by
  unfold SetTable.gaveWay
  rw [R.m6.mok.odd]
  decide
theorem nth_nod (m : Nat) : ∀ (n : Nat) (p : SetTable.Probe), p.dummy = none → (nth m p n).dummy = none
  | 0, _, h => h
  | n + 1, p, h => nth_nod m n (adv m p) (by unfold adv; split <;> exact h)
/-- the search, from the c-th slot of the way on -/
theorem find_from (R : SetG P w s.heap a L es ep t) {x : Addr} {k : List Int} (hx : IsT P w s.heap k x) (hu : A.units < cLine) {K : Nat} (hKf : K < 10 * SetTable.turns t.mask)
    (hK : way t.mask (thash P w k) K ∉ t.place.toList) (hKb : ∀ c, c < K → way t.mask (thash P w k) c ∈ t.place.toList) {Q : SetFound → Shared → Prop}
    (yes : k ∈ L.map (·.2) → Q (.there none) s) (no : k ∉ L.map (·.2) → Q (.free (way t.mask (thash P w k) K) false) s) :
    ∀ (f c : Nat) (stand : Option SetTable.Probe), stand.getD (t.probeStart (thash P w k)) = nth t.mask (t.probeStart (thash P w k)) c → c ≤ K → K - c < f →
      (∀ (i : Nat) p, L[i]? = some p → p.2 = k → ∃ b, c ≤ b ∧ b < K ∧ t.place.toList[i]? = some (way t.mask (thash P w k) b)) →
      wpAny (model P w) A (setSearchFrom a (.ref x) (thash P w k) true f stand) Q E s
  | 0, _, _, _, _, z, _ => absurd z (Nat.not_lt_zero _)
  | f + 1, c, stand, hst, hc, hf, hre => by
    obtain ⟨u, hu1, hu2, hu3⟩ := R.obj
    have at_ : ∀ q, nth t.mask (nth t.mask (t.probeStart (thash P w k)) c) q = nth t.mask (t.probeStart (thash P w k)) (c + q) := fun q => (nth_add t.mask c _ q).symm
    have jt : ∀ q, (nth t.mask (nth t.mask (t.probeStart (thash P w k)) c) q).j = way t.mask (thash P w k) (c + q) := fun q => by rw [at_]; rfl
    have cK : c + (K - c) = K := by omega
    have spec := go_spec t R.tb.up R.tb.nod (fun i => (es[i]?.map (·.1)).getD 0) (thash P w k) (10 * SetTable.turns t.mask) (K - c) (nth t.mask (t.probeStart (thash P w k)) c) (nth_nod _ c _ rfl) (by omega)
      (fun q hq => by rw [jt]; exact hKb _ (by omega)) (by rw [jt, cK]; exact hK)
    have hashOf : ∀ (i : Nat) p, L[i]? = some p → (es[i]?.map (·.1)).getD 0 = thash P w p.2 := fun i p hp => by rw [R.row hp]; rfl
    rw [setSearchFrom_succ]
    refine wpAny_bind (wpAny_setState_of hu1 hu3 R.fits ?_)
    dsimp only
    refine wp_if_neg R.keeps ?_
    try refine wpAny_bind (wpAny_pure ?_)
    rw [hst]
    rcases spec with ⟨q, i, hq, hi, hh, hno, hpr⟩ | ⟨hno, hpr⟩
    · rw [show t.probe (fun i => (es[i]?.map (·.1)).getD 0) (thash P w k) (nth t.mask (t.probeStart (thash P w k)) c) = _ from hpr]
      dsimp only
      rw [jt] at hi ⊢
      rw [at_]
      obtain ⟨p, hp⟩ : ∃ p, L[i]? = some p := ⟨_, List.getElem?_eq_getElem (by rw [← R.cnt]; exact (List.getElem?_eq_some_iff.mp hi).1)⟩
      have pm := List.mem_of_getElem? hp
      have sl : t.slot (way t.mask (thash P w k) (c + q)) = .live i := slot_live R.tb.up hi
      have go : wpAny (model P w) A (searchRest a (.ref x) (thash P w k) true f es t (way t.mask (thash P w k) (c + q)) i (nth t.mask (t.probeStart (thash P w k)) (c + (q + 1)))) Q E s := by
        unfold searchRest
        rw [R.row hp]
        dsimp only
        refine wpAny_bind (wpAny_holding (wpAny_eqBool_tuple hu (R.tups p pm) hx ?_))
        refine wpAny_bind (wpAny_setState_of hu1 hu3 R.fits ?_)
        dsimp only
        by_cases same : p.2 = k
        · exact wp_if_pos (by simp [same]) (wpAny_pure (yes (List.mem_map.mpr ⟨p, pm, same⟩)))
        · refine wp_if_neg (by simp [same]) ?_
          try refine wpAny_bind (wpAny_pure ?_)
          rw [sameMem]
          simp only [if_true, sl, R.row hp]
          refine wpAny_bind (wpAny_isSame_ref_self (wpAny_bind (wpAny_pure ?_)))
          simp only [if_true]
          refine wp_if_neg (by simp [same]) (find_from R hx hu hKf hK hKb yes no f (c + (q + 1)) _ rfl (by omega) (by omega) fun i0 p0 h0 hk0 => ?_)
          obtain ⟨b, b1, b2, b3⟩ := hre i0 p0 h0 hk0
          refine ⟨b, ?_, b2, b3⟩
          rcases Nat.lt_trichotomy b (c + q) with z | z | z
          · refine absurd ((hashOf i0 p0 h0).trans (congrArg (thash P w) hk0)) (hno (b - c) i0 (by omega) ?_)
            rw [jt, show c + (b - c) = b by omega]
            exact b3
          · rw [z] at b3
            have e := slot_live R.tb.up b3
            rw [sl] at e
            cases e
            rw [hp] at h0
            cases h0
            exact absurd hk0 same
          · omega
      by_cases ld : t.led = true
      · refine wp_if_neg (by simp [ld]) ?_
        try refine wpAny_bind (wpAny_pure ?_)
        exact go
      · refine wp_if_pos (by simp [ld]) (wpAny_bind (seen_tup hx (fun y hy => ?_) ?_))
        · obtain ⟨r, hr, rfl⟩ := List.mem_map.mp hy
          have hr2 : r ∈ es.toList := by
            have := (Array.mem_filter.mp (Array.mem_toList_iff.mp hr)).1
            exact Array.mem_toList_iff.mpr this
          rw [R.rws] at hr2
          obtain ⟨p2, hp2, rfl⟩ := List.mem_map.mp hr2
          exact ⟨p2.2, p2.1, rfl, R.tups p2 hp2⟩
        · refine wp_if_neg (by decide) ?_
          try refine wpAny_bind (wpAny_pure ?_)
          exact go
    · rw [show t.probe (fun i => (es[i]?.map (·.1)).getD 0) (thash P w k) (nth t.mask (t.probeStart (thash P w k)) c) = _ from hpr]
      dsimp only
      rw [jt, cK]
      refine wpAny_pure (no fun hm => ?_)
      obtain ⟨p0, h0, hk0⟩ := List.mem_map.mp hm
      obtain ⟨i0, h00⟩ := List.mem_iff_getElem?.mp h0
      obtain ⟨b, b1, b2, b3⟩ := hre i0 p0 h00 hk0
      refine hno (b - c) i0 (by omega) ?_ ((hashOf i0 p0 h00).trans (congrArg (thash P w) hk0))
      rw [jt, show c + (b - c) = b by omega]
      exact b3
theorem find_at (R : SetG P w s.heap a L es ep t) {x : Addr} {k : List Int} (hx : IsT P w s.heap k x) (hu : A.units < cLine) {Q : SetFound → Shared → Prop}
    (yes : k ∈ L.map (·.2) → Q (.there none) s)
    (no : ∀ K, k ∉ L.map (·.2) → way t.mask (thash P w k) K ∉ t.place.toList → (∀ c, c < K → way t.mask (thash P w k) c ∈ t.place.toList) → Q (.free (way t.mask (thash P w k) K) false) s) :
    wpAny (model P w) A (setSearch a (.ref x) (thash P w k) true) Q E s := by
  have c := R.rm
  have few := R.m6.mok.few
  obtain ⟨K, hKf, hK, hKb⟩ := R.tb.first (by rw [List.length_map]; omega) (thash P w k)
  have big : K < 100000 := by
    unfold SetTable.turns at hKf
    omega
  refine find_from R hx hu hKf hK hKb yes (fun n => no K n hK hKb) 100000 0 none rfl (Nat.zero_le _) (by omega) fun i p hp e => ?_
  obtain ⟨j, hj⟩ : ∃ j, t.place.toList[i]? = some j := ⟨_, List.getElem?_eq_getElem (by rw [R.cnt]; exact (List.getElem?_eq_some_iff.mp hp).1)⟩
  obtain ⟨b, hb, eb⟩ := R.tb.ahead hK (h := thash P w k) (i := i) (by rw [List.getElem?_map, hp, ← e]; rfl) hj
  exact ⟨b, Nat.zero_le _, hb, by rw [hj, eb]⟩
theorem relay_all {o : Obj} (ho : s.heap.get? a = some o) (hex : o.ExactSet) (hd : o.data = .set es ep t) (hr : es.toList = rowsOf P w L) (hsz : t.place.size = es.size) (hdm : t.dummies = #[]) (hfl : es.size ≤ t.mask)
    (nd : (L.map (·.2)).Nodup) (tp : ∀ p ∈ L, IsT P w s.heap p.2 p.1) (pl : t.plain = true) (ld : w.params.followText "set-order" = true ∨ t.led = true) (few : L.length < 4915) {wanted M : Nat}
    (hw : SetTable.sizeAbove wanted - 1 = M) (hM : Mk6 M) (hw2 : SetTable.sizeAbove wanted ≤ 8192) (hn : L.length * 5 < M * 3) {Q : Unit → Shared → Prop}
    (hQ : ∀ h' L' es' ep' t', Heap.SameBut a s.heap h' → SetG P w h' a L' es' ep' t' → L'.Perm L → Q () { s with heap := h' }) : wpAny (model P w) A (setRelay a wanted) Q E s := by
  have sl := rows_size hr
  obtain ⟨t', order, e, hp, T, em, el, epl, ed⟩ := relaid_all t (hs := es.map (·.1)) hw hM.mok (by rw [Array.size_map, sl]; omega)
  rw [Array.size_map, sl] at hp
  obtain ⟨L2, r1, r2, r3⟩ := order_rows L es order hr hp
  rw [← r3] at T
  have s2 : (order.filterMap (es[·]?)).size = es.size := (rows_size r1).trans (r2.length_eq.trans sl.symm)
  rw [setRelay_eq]
  refine wpAny_bind (wpAny_setState_of ho hd (fits_by hsz hdm hfl) ?_)
  dsimp only
  refine wp_if_neg (by rw [sizeLine_eq]; omega) ?_
  try refine wpAny_bind (wpAny_pure ?_)
  rw [e]
  refine wpAny_bind (wp_if_neg (by rw [s2]; simp) ?_)
  try refine wpAny_bind (wpAny_pure ?_)
  refine wpAny_pure (wpAny_storeSet_of ho hd ?_ (by rw [s2, sl, sizeLine_eq]; omega))
  have sb : Heap.SameBut a s.heap (s.heap.update a (Obj.putSet (order.filterMap (es[·]?)) t')) := Heap.SameBut.update ..
  exact hQ _ L2 _ (ep + 1) t' sb ⟨⟨_, store_at ho hd, ⟨hex.1, hex.2.1, hex.2.2⟩, rfl⟩, r1, T, (r2.map (·.2)).nodup_iff.mpr nd, fun p pm => isT_same (tp p (r2.mem_iff.mp pm)) ho hd sb, by rw [epl]; exact pl, by rw [el]; exact ld,
    by rw [r2.length_eq, em]; exact hn, by rw [r2.length_eq]; exact few, by rw [em]; exact hM⟩ r2
/-- a tuple is added -/
theorem add_one (R : SetG P w s.heap a L es ep t) {x : Addr} {k : List Int} (hx : IsT P w s.heap k x) (hu : A.units < cLine) (fw : k ∉ L.map (·.2) → L.length + 1 < 4915) {Q : Bool → Shared → Prop}
    (hQ : ∀ b h' L' es' ep' t', Heap.SameBut a s.heap h' → SetG P w h' a L' es' ep' t' → (k ∈ L.map (·.2) → L' = L) → (k ∉ L.map (·.2) → L'.Perm ((x, k) :: L)) → Q b { s with heap := h' }) :
    wpAny (model P w) A (setAddHashed a (.ref x) (thash P w k)) Q E s := by
  obtain ⟨o, ho, hex, hd⟩ := R.obj
  have sl := R.size
  have rm := R.rm
  unfold setAddHashed
  refine wpAny_holding ?_
  rw [show (100000 : Nat) = 99999 + 1 from rfl, setAddHashedIn_succ]
  refine wpAny_bind (wpAny_setState_of ho hd R.fits ?_)
  dsimp only
  refine wp_if_neg (by simp [byScan, Value.scannable]) ?_
  try refine wpAny_bind (wpAny_pure ?_)
  refine wpAny_bind (find_at R hx hu (fun hm => wpAny_pure (hQ false s.heap L es ep t (Heap.SameBut.refl a s.heap) R (fun _ => rfl) fun z => absurd hm z)) fun K hm hK hb => ?_)
  have fw := fw hm
  dsimp only
  refine wpAny_bind (wpAny_setState_of ho hd R.fits ?_)
  dsimp only
  obtain ⟨q1, q2, q3, q9⟩ := R.tb.put hK hb rfl
  have q4 : (t.put (way t.mask (thash P w k) K)).1.mask = t.mask := rfl
  have q5 : (t.put (way t.mask (thash P w k) K)).1.led = t.led := rfl
  have q6 : (t.put (way t.mask (thash P w k) K)).1.plain = true := R.pla
  generalize hpt : t.put (way t.mask (thash P w k) K) = pt at q1 q3 q4 q5 q6 q9 ⊢
  generalize SetTable.below t.place (way t.mask (thash P w k) K) = p at q1 q2 q3
  obtain ⟨t1, p'⟩ := pt
  dsimp only at q1 q3 q4 q5 q6 q9 ⊢
  subst q1
  first
    | refine wpAny_bind (wp_if_pos q6 (hashBy_tup hx ?_))
    | refine wp_if_pos q6 (wpAny_bind (hashBy_tup hx ?_))
  simp only [if_true]
  have hin : (SetTable.insertAt es p' (thash P w k, Value.ref x)).toList = rowsOf P w (L.take p' ++ (x, k) :: L.drop p') := by rw [SetTable.toList_insertAt, rows_put, R.rws]
  have pm := put_perm L p' (x, k)
  have ln : (L.take p' ++ (x, k) :: L.drop p').length = L.length + 1 := pm.length_eq
  have q3' : TabG t1 ((L.take p' ++ (x, k) :: L.drop p').map fun p => thash P w p.2) := by
    rw [List.map_append, List.map_cons, List.map_take, List.map_drop]
    exact q3
  have nd1 : ((L.take p' ++ (x, k) :: L.drop p').map (·.2)).Nodup := (pm.map (·.2)).nodup_iff.mpr (by rw [List.map_cons]; exact List.nodup_cons.mpr ⟨hm, R.once⟩)
  have es1s : (SetTable.insertAt es p' (thash P w k, Value.ref x)).size = L.length + 1 := (rows_size hin).trans ln
  generalize SetTable.insertAt es p' (thash P w k, Value.ref x) = es1 at hin es1s ⊢
  generalize L.take p' ++ (x, k) :: L.drop p' = L1 at pm ln q3' nd1 hin
  refine wpAny_bind (wpAny_storeSet_of ho hd ?_ (by rw [es1s, sizeLine_eq]; omega))
  have sb : Heap.SameBut a s.heap (s.heap.update a (Obj.putSet es1 t1)) := Heap.SameBut.update ..
  have ho1 := store_at (es' := es1) (t' := t1) ho hd
  generalize s.heap.update a (Obj.putSet es1 t1) = h1 at sb ho1 ⊢
  have tp1 : ∀ p ∈ L1, IsT P w h1 p.2 p.1 := fun p hp => by
    rcases List.mem_cons.mp (pm.mem_iff.mp hp) with rfl | hp
    · exact isT_same hx ho hd sb
    · exact isT_same (R.tups p hp) ho hd sb
  have ld1 : w.params.followText "set-order" = true ∨ t1.led = true := by rw [q5]; exact R.ledd
  have m61 : Mk6 t1.mask := by rw [q4]; exact R.m6
  rw [List.length_map] at q9
  by_cases hf : t1.tooFull = true
  · have full : (L.length + 1) * 5 ≥ t.mask * 3 := by
      unfold SetTable.tooFull at hf
      rw [decide_eq_true_eq, q9, q4] at hf
      exact hf
    obtain ⟨M, g1, g2, g3, g4, g5⟩ := grow_next R.m6 rm full fw
    rw [sl]
    have pl1 : t1.place.size = es1.size := by rw [q3'.cnt, List.length_map, ln, es1s]
    have go : wpAny (model P w) A (setRelay a (SetTable.grown (L.length + 1))) (fun _ s' => wpAny (model P w) A (pure true) Q E s') E { s with heap := h1 } :=
      relay_all (s := { s with heap := h1 }) ho1 ⟨hex.1, hex.2.1, hex.2.2⟩ rfl hin pl1 q3'.nod (by rw [es1s, q4]; exact g5) nd1 tp1 q6 ld1 (by rw [ln]; exact fw) g1 g2 g3 (by rw [ln]; exact g4)
        fun h2 L2 es2 ep2 t2 sb2 R2 pm2 => wpAny_pure (hQ true h2 L2 es2 ep2 t2 (sb.trans sb2) R2 (fun z => absurd z hm) fun _ => pm2.trans pm)
    first
      | exact wpAny_bind (wp_if_pos (by simp [hf]) go)
      | exact wp_if_pos (by simp [hf]) (wpAny_bind go)
  · have rm1 : L1.length * 5 < t1.mask * 3 := by
      unfold SetTable.tooFull at hf
      rw [decide_eq_true_eq, q9] at hf
      rw [ln]
      omega
    have done : wpAny (model P w) A (pure true) Q E { s with heap := h1 } :=
      wpAny_pure (hQ true h1 L1 es1 (ep + 1) t1 sb ⟨⟨_, ho1, ⟨hex.1, hex.2.1, hex.2.2⟩, rfl⟩, hin, q3', nd1, tp1, q6, ld1, rm1, by rw [ln]; exact fw, m61⟩ (fun z => absurd z hm) fun _ => pm)
    first
      | exact wp_if_neg (by simp [hf]) done
      | exact wpAny_bind (wp_if_neg (by simp [hf]) (wpAny_pure done))
end
/-! ### set(xs), xs a list of tuples of ints of any length; U: keys that they are among -/
theorem len_among {α : Type} [DecidableEq α] : ∀ (l D : List α), l.Nodup → (∀ x ∈ l, x ∈ D) → l.length ≤ D.length
  | [], _, _, _ => Nat.zero_le _
  | x :: l, D, nd, h => by
    obtain ⟨hx, nd'⟩ := List.nodup_cons.mp nd
    have hD := h x List.mem_cons_self
    have z := len_among l (D.erase x) nd' fun y hy => (List.mem_erase_of_ne (fun e => hx (by rw [← e]; exact hy))).2 (h y (List.mem_cons_of_mem _ hy))
    rw [List.length_erase_of_mem hD] at z
    have := List.length_pos_of_mem hD
    rw [List.length_cons]
    omega
abbrev newSetO (w : World) : Obj := { cls := .type "set", dict := none, data := .set #[] 0 (.fresh 0 0 (!w.params.followText "set-order")) }
section
variable {P : Program} {w : World} {A : Around} {E : Value → Shared → Prop} {s : Shared}
theorem SetG.moved {h h' : Heap} {a : Addr} {L : List (Addr × List Int)} {es : Array (Int × Value)} {ep : Nat} {t : SetTable} (R : SetG P w h a L es ep t) (ha : ∀ o, h.get? a = some o → h'.get? a = some o) (ht : ∀ p ∈ L, IsT P w h' p.2 p.1) : SetG P w h' a L es ep t :=
  { R with
    obj := let ⟨u, hu, r⟩ := R.obj
      ⟨u, ha u hu, r⟩
    tups := ht }
theorem setG_new {h : Heap} {a : Addr} (ho : h.get? a = some (newSetO w)) : SetG P w h a [] #[] 0 (.fresh 0 0 (!w.params.followText "set-order")) where
  obj := ⟨_, ho, ⟨rfl, rfl, rfl⟩, rfl⟩
  rws := rfl
  tb := ⟨List.Pairwise.nil, rfl, rfl, mok_of (.inl rfl), fun x hx => (nomatch hx), fun i h j hi => (nomatch hi)⟩
  once := List.nodup_nil
  tups := fun p hp => nomatch hp
  pla := rfl
  ledd := by
    cases e : w.params.followText "set-order"
    · exact .inr rfl
    · exact .inl rfl
  rm := by show 0 < 21; decide
  few := by show 0 < 4915; decide
  m6 := .inl rfl
theorem update_all {I : Addr} {fp wr : List Addr} {G : Array GenState → Array GenState → Prop} {n : Nat} {Pv : Nat → Value → Prop} {St : Nat → Shared → Prop} {R : Result → Shared → Prop}
    (W : WalksS P w A.in1 I fp wr G n Pv St) (S : Addr) (hSf : S ∉ fp) (ks : List (Addr × List Int)) (U : List (List Int)) (hn : n = ks.length) (hU : U.length < 4915) (inU : ∀ p ∈ ks, p.2 ∈ U) (hval : ∀ i v, Pv i v → ∃ p, ks[i]? = some p ∧ v = .ref p.1)
    (b0 : Heap) (hk : ∀ p ∈ ks, IsT P w b0 p.2 p.1) (hS0 : b0.get? S = none) (hw0 : ∀ b ∈ wr, b0.get? b = none) (hu : A.in1.units < cLine) :
    ∀ (k i : Nat) (s : Shared), n - i = k → i ≤ n → St i s → (∀ b o, b0.get? b = some o → s.heap.get? b = some o) → (∃ L es ep t, SetG P w s.heap S L es ep t ∧ Got ks i L) →
      (∀ s' L es ep t, Moved (S :: wr) G s s' → SetG P w s'.heap S L es ep t → Got ks n L → (∀ b o, b0.get? b = some o → s'.heap.get? b = some o) → R (.ok (.ret .none)) s') →
      codeAny (model P w) A (.builtin "set.update.loop" ⟨[.ref S, .ref I], []⟩) R s := by
  have apart : S ∉ wr := fun h => hSf (W.sub _ h)
  have wide : ∀ b ∈ wr, b ∈ S :: wr := fun b hb => List.mem_cons_of_mem _ hb
  have stay : ∀ {s s' : Shared}, Moved wr G s s' → (∀ b o, b0.get? b = some o → s.heap.get? b = some o) → ∀ b o, b0.get? b = some o → s'.heap.get? b = some o := fun mv kp b o e =>
    mv.heap b o (fun hb => by rw [hw0 b hb] at e; cases e) (kp b o e)
  have amongL : ∀ {i L}, Got ks i L → ∀ p ∈ L, p ∈ ks := fun g p hp => List.mem_of_mem_take (g.sub p hp)
  intro k
  induction k with
  | zero =>
    intro i s hi0 hi hst kp ⟨L, es, ep, t, hS, g⟩ hR
    obtain rfl : i = n := by omega
    refine codeAny_builtin F.entry_set_update_loop ?_
    rw [Around.under_plainId F.plain_set_update_loop _]
    refine wpAny_bind (W.done s _ _ hst fun s' mv => ?_)
    have kp' := stay mv kp
    exact wpAny_pure (hR s' L es ep t (mv.mono wide) (hS.moved (fun o e => mv.heap S o apart e) fun p hp => isT_keep (hk p (amongL g p hp)) kp') g kp')
  | succ k ih =>
    intro i s hi0 hi hst kp ⟨L, es, ep, t, hS, g⟩ hR
    have lt : i < n := by omega
    refine codeAny_builtin F.entry_set_update_loop ?_
    rw [Around.under_plainId F.plain_set_update_loop _]
    refine wpAny_bind (W.item i s _ _ lt hst fun v s' hP hst' mv => ?_)
    obtain ⟨p, hp, rfl⟩ := hval i v hP
    have pk := List.mem_of_getElem? hp
    have kp' := stay mv kp
    have hS' : SetG P w s'.heap S L es ep t := hS.moved (fun o e => mv.heap S o apart e) fun q hq => isT_keep (hk q (amongL g q hq)) kp'
    have hx : IsT P w s'.heap p.2 p.1 := isT_keep (hk p pk) kp'
    have room : p.2 ∉ L.map (·.2) → L.length + 1 < 4915 := fun nm => by
      have z := len_among (p.2 :: L.map (·.2)) U (List.nodup_cons.mpr ⟨nm, hS.once⟩) fun y hy => by
        rcases List.mem_cons.mp hy with rfl | hy
        · exact inU p pk
        · obtain ⟨r, hr, rfl⟩ := List.mem_map.mp hy
          exact inU r (amongL g r hr)
      rw [List.length_cons, List.length_map] at z
      omega
    show wpAny _ A.in1 (holding [Value.ref p.1] (setAdd S (.ref p.1)) >>= _) _ _ s'
    refine wpAny_bind (wpAny_holding ?_)
    unfold setAdd
    refine wpAny_holding (wpAny_bind (wpAny_pyHash_tuple hu hx ?_))
    refine add_one (s := { s' with toks := s'.toks + (p.2.length + 1) }) hS' hx hu room fun b h' L' es' ep' t' sb hS2 c1 c2 => ?_
    have g' : Got ks (i + 1) L' := by
      by_cases c : p.2 ∈ L.map (·.2)
      · rw [c1 c]
        exact g.same hp c
      · exact g.more hp (c2 c)
    have kp2 : ∀ b o, b0.get? b = some o → h'.get? b = some o := fun b o e => (sb.2 b (fun z => by rw [z, hS0] at e; cases e)).trans (kp' b o e)
    refine wpAny_pure ⟨plainId_quiet F.plain_set_update_loop _, ih (i + 1) _ (by omega) lt (W.frame _ s' _ _ hst' (Nat.le_add_right _ _) fun b hb o e => ?_) kp2 ⟨L', es', ep', t', hS2, g'⟩ fun s2 L2 es2 ep2 t2 mv2 hS3 g3 kp3 => ?_⟩
    · exact (sb.2 b (fun z : b = S => hSf (z ▸ hb))).trans e
    · exact hR s2 L2 es2 ep2 t2 (Moved.trans W.gtrans ((mv.mono wide).then_heap (Nat.le_add_right _ _) fun b o hb e => (sb.2 b (fun z : b = S => hb (z ▸ List.mem_cons_self))).trans e) mv2) hS3 g3 kp3
set_option maxHeartbeats 8000000 in
theorem call_setG {l : Addr} {items : Array Value} (ks : List (Addr × List Int)) (U : List (List Int)) {Q : Value → Shared → Prop} (hh : A.handled = none) (hl : s.heap.IsList l items) (hit : items.toList = ks.map fun p => Value.ref p.1)
    (hk : ∀ p ∈ ks, IsT P w s.heap p.2 p.1) (hU : U.length < 4915) (inU : ∀ p ∈ ks, p.2 ∈ U) (hu : A.units + 3 < cLine)
    (h : ∀ (h' : Heap) (tk : Nat) L es ep t, SetG P w h' s.heap.objs.size L es ep t → Got ks ks.length L → (∀ b o, s.heap.get? b = some o → h'.get? b = some o) → Q (.ref s.heap.objs.size) { s with heap := h', toks := tk }) :
    wpAny (model P w) A (call (.type "set") [.ref l]) Q E s := by
  have isz : items.size = ks.length := by rw [← Array.length_toList, hit, List.length_map]
  obtain ⟨c, tl, hmro⟩ := F.called_set.mro
  have hmade := F.called_set.made
  have hsub := F.called_set.sub
  have t1 := F.called_set.notType
  have t2 := F.called_set.canCreate
  have t3 := F.typeCall_set_1 (.ref l)
  refine wpAny_call (codeAny_of_tree (show wpAny _ _ (callAny (.type "set") _) _ _ _ from wpAny_pure ⟨Code.quiet_builtin _ (by decide +kernel), codeAny_builtin F.entry_type_call ?_⟩))
  rw [Around.under_plain (weight_type_call_type "set" [.ref l] []) rfl]
  repeat (any_goals (first | assumption | wp_step))
  refine codeAny_mono (code_set_led1 (.ref l) (E := E) (Q₁ := fun obj s₁ => obj = .ref s.heap.objs.size ∧ s₁ = { s with heap := s.heap.push (newSetO w) }) ⟨rfl, rfl⟩) fun r s₁ hr => ?_
  match r, hr with
  | .error e, hr => exact hr
  | .ok .next, hr => exact hr.elim
  | .ok .brk, hr => exact hr.elim
  | .ok .cont, hr => exact hr.elim
  | .ok (.ret obj), hr =>
    obtain ⟨rfl, rfl⟩ := hr
    have hS : (s.heap.push (newSetO w)).get? s.heap.objs.size = some (newSetO w) := Heap.get?_push_size _ rfl
    have hT : Shared.TypeIs { s with heap := s.heap.push (newSetO w) } (.ref s.heap.objs.size) "set" := ⟨_, hS, rfl⟩
    have i1 := F.called_set.init.lookup
    have i2 := F.called_set.init.bind (.ref s.heap.objs.size)
    repeat (any_goals (first | assumption | wp_step))
    refine codeAny_mono (codeAny_call_builtin (R := wants (fun r s₂ => r = .none ∧ ∃ h' tk L es ep t, s₂ = { s with heap := h', toks := tk } ∧ SetG P w h' s.heap.objs.size L es ep t ∧ Got ks ks.length L ∧
        (∀ b o, s.heap.get? b = some o → h'.get? b = some o)) E) F.called_set.init.plain F.entry_set_init (check_set_init_1 hT ?_)) fun r₂ s₂ hr₂ => ?_
    · obtain ⟨⟨ocls, odict, odata, oslots⟩, hol, hcl, nl, hdl⟩ := hl
      simp only at hcl hdl
      subst hcl hdl
      have hol' : (s.heap.push (newSetO w)).get? l = some { cls := .type "list", dict := odict, data := .seq items nl, slots := oslots } := Heap.get?_push_of_some _ hol
      have u1 := F.sub_list_set
      have u2 := F.sub_list_frozenset
      have u3 : (Value.type "list" == Value.type "dict") = false := by decide
      have isL : (s.heap.push (newSetO w)).IsList l items := ⟨_, hol', rfl, nl, rfl⟩
      unfold Builtin.«set.__init__» noKeywords Builtin.Frozenset.updateFrom
      generalize hPI : pyIter = PI
      wp_walk
      subst hPI
      refine wpAny_pyIter_list isL (wpAny_bind (wpAny_runValue ?_))
      have ll : l < s.heap.objs.size := Heap.lt_size hol
      have sz1 : (s.heap.push (newSetO w)).objs.size = s.heap.objs.size + 1 := Heap.size_push ..
      have unborn : ∀ b, s.heap.objs.size ≤ b → s.heap.get? b = none := fun b hb => by
        cases q : s.heap.get? b with
        | none => rfl
        | some o => exact absurd (Nat.lt_of_lt_of_le (Heap.lt_size q) hb) (Nat.lt_irrefl _)
      refine update_all ((Walks.list (show A.in1.in1.in1.handled = none by simp [hh]) _ l (by rw [sz1]; exact Nat.ne_of_lt (Nat.lt_succ_of_lt ll)) items).toS) s.heap.objs.size
        (by rw [sz1]; simp only [List.mem_cons, List.not_mem_nil, or_false, not_or]; exact ⟨Nat.ne_of_lt (Nat.lt_succ_self _), Nat.ne_of_gt ll⟩) ks U isz hU inU (fun i v hv => ?_) s.heap hk (unborn _ (Nat.le_refl _)) (fun b hb => unborn b (by rw [List.mem_singleton.mp hb, sz1]; exact Nat.le_succ _)) hu (items.size - 0) 0 _ (by omega) (Nat.zero_le _)
        ⟨⟨_, Heap.get?_push_size _ rfl, rfl, rfl⟩, (isL.push _)⟩ (fun b o e => Heap.get?_push_of_some _ (Heap.get?_push_of_some _ e)) ⟨[], #[], 0, _, setG_new (Heap.get?_push_of_some _ hS), Got.zero ks⟩ fun s' L es ep t mv hS' g' kp => ?_
      · have q : items.toList[i]? = some v := by rw [Array.getElem?_toList]; exact hv
        rw [hit, List.getElem?_map] at q
        obtain ⟨p, hp, e⟩ := Option.map_eq_some_iff.mp q
        exact ⟨p, hp, e.symm⟩
      · obtain ⟨h', g2, d', tk', os'⟩ := s'
        obtain rfl : g2 = s.gens := mv.gens
        obtain rfl : d' = s.drawn := mv.drawn
        obtain rfl : os' = s.os := mv.os
        rw [isz] at g'
        exact wpAny_pure (wpAny_pure ⟨rfl, h', tk', L, es, ep, t, rfl, hS', g', kp⟩)
    · match r₂, hr₂ with
      | .error e, z => exact z
      | .ok .next, z => exact z.elim
      | .ok .brk, z => exact z.elim
      | .ok .cont, z => exact z.elim
      | .ok (.ret r), z =>
        obtain ⟨rfl, h', tk, L, es, ep, t, rfl, hS', g', kp⟩ := z
        repeat (any_goals (first | assumption | wp_step))
        exact h _ _ _ _ _ _ hS' g' kp
end
/-! ### sorted of such a set: the tuples of one length, by their order -/
open TS (TupInts oneLt_ints)
section
variable {P : Program} {w : World} {A : Around} {E : Value → Shared → Prop} {s : Shared}
theorem lex_all {Q : Bool → Shared → Prop} : ∀ {xs ys : List Value} {ns ms : List Int} (i : Nat), IntsAre xs ns → IntsAre ys ms → ns.length = ms.length → Q (HT.lexLt ns ms) s → PySem.W.KatLex P w A true false Q (xs.zip ys) i s
  | _, _, _, _, i, .nil, .nil, _, h => PySem.W.kat_nil h
  | _, _, _, _, i, .cons x t r, .cons y u r2, hl, h => by
    simp only [List.length_cons, Nat.add_right_cancel_iff] at hl
    rw [HT.lexLt_cons] at h
    refine PySem.W.kat_cons (SeqAt.EqAt.int_int x t y u P w _ _ (PySem.W.kat_go (fun e => PySem.W.kat_yes (lex_all (i + 1) r r2 hl ?_)) fun e => PySem.W.kat_no (oneLt_ints _ ?_)))
    · have e' : x = y := by simpa using e
      rw [if_pos e'] at h
      exact h
    · have e' : ¬ x = y := by simpa using e
      rw [if_neg e'] at h
      exact h
  | _, _, _, _, _, .nil, .cons _ _ _, hl, _ => by simp at hl
  | _, _, _, _, _, .cons _ _ _, .nil, hl, _ => by simp at hl
theorem ints_len : ∀ {xs : List Value} {ns : List Int}, IntsAre xs ns → xs.length = ns.length
  | _, _, .nil => rfl
  | _, _, .cons _ _ r => by rw [List.length_cons, List.length_cons, ints_len r]
theorem tups_cmp {vs : List Value} {k : Value → List Int} {d : Nat} (hv : ∀ v ∈ vs, TupInts s.heap v (k v) ∧ (k v).length = d) : SrtO.Cmp P w A s (tuples' true) (fun p => p.1 ∈ vs) (SrtO.lt2 fun v u => HT.lexLt (k v) (k u)) := by
  intro p q hp hq
  obtain ⟨⟨a, xs, ea, ⟨o, ho, hc, n, hd⟩, i1⟩, l1⟩ := hv p.1 hp
  obtain ⟨⟨b, ys, eb, ⟨o2, ho2, hc2, n2, hd2⟩, i2⟩, l2⟩ := hv q.1 hq
  show wpAny (model P w) A (keyLt' (tuples' true) p.1 q.1) (fun r s' => s' = s ∧ r = HT.lexLt (k p.1) (k q.1)) (fun _ _ => False) s
  generalize k p.1 = ns at i1 l1 ⊢
  generalize k q.1 = ms at i2 l2 ⊢
  rw [ea, eb]
  refine PySem.W.kat_lt ho hd ho2 hd2 ?_
  have sz : decide (xs.size < ys.size) = false := by
    have a1 := ints_len i1
    have a2 := ints_len i2
    rw [Array.length_toList] at a1 a2
    exact decide_eq_false (by omega)
  rw [sz]
  exact lex_all 0 i1 i2 (l1.trans l2.symm) ⟨rfl, rfl⟩
theorem heads_of {h : Heap} {k : Value → List Int} {d : Nat} (hd : 1 ≤ d) : ∀ {vs : List Value}, (∀ v ∈ vs, TupInts h v (k v) ∧ (k v).length = d) → ∃ fs : List Value, PySem.W.KatTups h vs fs ∧ fs.length = vs.length ∧ ∀ f ∈ fs, ∃ x t, f = Value.int x t
  | [], _ => ⟨[], PySem.W.KatTups.nil, rfl, fun _ hm => by simp at hm⟩
  | v :: vs, hv => by
    obtain ⟨fs, h1, h2, h3⟩ := heads_of hd fun u hu => hv u (List.mem_cons_of_mem _ hu)
    obtain ⟨⟨a, xs, rfl, ⟨o, ho, hc, n, hdt⟩, i1⟩, l1⟩ := hv v List.mem_cons_self
    generalize k (Value.ref a) = ns at i1 l1
    obtain ⟨xl⟩ := xs
    simp only at i1
    cases i1 with
    | nil => simp at l1; omega
    | cons x t r =>
      refine ⟨.int x t :: fs, PySem.W.KatTups.cons ho hc hdt rfl h1, by rw [List.length_cons, List.length_cons, h2], fun f hf => ?_⟩
      rcases List.mem_cons.mp hf with rfl | hf
      · exact ⟨x, t, rfl⟩
      · exact h3 f hf
theorem tups_sortable {a : Addr} {vs : List Value} {k : Value → List Int} {d : Nat} (hd : 1 ≤ d) (h0 : 0 < vs.length) (hv : ∀ v ∈ vs, TupInts s.heap v (k v) ∧ (k v).length = d) (ha : ∀ o, s.heap.get? a = some o → o.cls ≠ .type "tuple") :
    SrtO.SortableO P w A s a vs fun v u => HT.lexLt (k v) (k u) := by
  intro h' keep
  have hv' : ∀ v ∈ vs, TupInts h' v (k v) ∧ (k v).length = d := fun v hm => ⟨(hv v hm).1.keeps fun b o e c => keep b o (fun z => ha o (z ▸ e) c) e, (hv v hm).2⟩
  obtain ⟨fs, h1, h2, h3⟩ := heads_of hd hv'
  refine ⟨tuples' true, fun Q E hq => ?_, tups_cmp (s := { s with heap := h' }) hv'⟩
  refine PySem.W.kat_kind (T := .type "int") h1 (by omega) (fun f hm => ?_) (by rfl) ?_
  · obtain ⟨x, t, rfl⟩ := h3 f hm
    exact PySem.W.Looks.now
  · rw [show (Value.type "int" != Value.type "tuple") = true by decide +kernel]
    exact hq
/-- an address, read off a value -/
def adV : Value → Addr
  | .ref a => a
  | _ => 0
theorem refs_back : ∀ {vs : List Value} {L : List (Addr × List Int)}, (∀ v ∈ vs, ∃ q ∈ L, v = Value.ref q.1) → ∃ M : List (Addr × List Int), vs = M.map (fun q => Value.ref q.1) ∧ ∀ q ∈ M, q ∈ L
  | [], _, _ => ⟨[], rfl, fun _ hq => nomatch hq⟩
  | v :: vs, L, h => by
    obtain ⟨q, hq, rfl⟩ := h v List.mem_cons_self
    obtain ⟨M, e, hM⟩ := refs_back fun u hu => h u (List.mem_cons_of_mem _ hu)
    refine ⟨q :: M, by rw [List.map_cons, ← e], fun r hr => ?_⟩
    rcases List.mem_cons.mp hr with rfl | hr
    · exact hq
    · exact hM r hr
theorem sorted_setG {a : Addr} {L : List (Addr × List Int)} {es : Array (Int × Value)} {ep : Nat} {t : SetTable} {Q : Value → Shared → Prop} (R : SetG P w s.heap a L es ep t) (hh : A.handled = none) (few : L.length < 4096)
    {d : Nat} (hd1 : 1 ≤ d) (hd : ∀ p ∈ L, p.2.length = d)
    (hQ : ∀ s' p (out : List Value) (c : Nat) (M : List (Addr × List Int)), (∀ b o, s.heap.get? b = some o → s'.heap.get? b = some o) → s'.gens = s.gens → s'.os = s.os → s.heap.objs.size ≤ p →
      s'.heap.get? p = some (seqObj "list" out.toArray c) → out = M.map (fun q => Value.ref q.1) → M.Perm L → M.Pairwise (fun q r => HT.lexLt r.2 q.2 = false) → Q (.ref p) s') :
    wpAny (model P w) A (call (.builtin "sorted") [.ref a]) Q E s := by
  obtain ⟨o, ho, hex, hdt⟩ := R.obj
  have sz := R.size
  refine Calls.call_function_entry kind_sorted plain_sorted entry_sorted (args_sorted1 _) ?_
  unfold Builtin.«sorted»
  refine wpAny_bind (m := checkCount "sorted" 1 1 _) (wpAny_pure (wpAny_bind (collect_set (A := A.in1) hh ⟨o, ho, hex.1, hdt⟩ R.fits (by show es.size < 4096; omega) R.tb.up R.ledd fun s1 vs k1 hz g1 o1 pm => ?_)))
  rw [show es.toList.map (·.2) = L.map fun q => Value.ref q.1 by rw [R.rws]; unfold rowsOf; rw [List.map_map]; rfl] at pm
  have vl : vs.length = L.length := by rw [pm.length_eq, List.length_map]
  have one : ∀ q ∈ L, ∀ r ∈ L, q.1 = r.1 → q = r := fun q hq r hr e => by
    have a1 := R.tups q hq
    rw [e] at a1
    exact Prod.ext e (a1.inj (R.tups r hr))
  -- keys by addresses
  have key : ∃ kk : Addr → List Int, ∀ q ∈ L, kk q.1 = q.2 := by
    refine ⟨fun b => (TS.intsOf s.heap (.ref b)), fun q hq => (tupInts_of (R.tups q hq)).ints⟩
  obtain ⟨kk, hkk⟩ := key
  refine wpAny_bind (wpAny_newList ?_ (by rw [sizeLine_eq]; omega))
  have hoL : (s1.heap.push (seqObj "list" vs.toArray 0)).get? s1.heap.objs.size = some (seqObj "list" vs.toArray 0) := Heap.get?_push_size _ rfl
  have ti : ∀ v ∈ vs, TupInts (s1.heap.push (seqObj "list" vs.toArray 0)) v (kk (adV v)) ∧ (kk (adV v)).length = d := fun v hv => by
    obtain ⟨q, hq, rfl⟩ := List.mem_map.mp (pm.mem_iff.mp hv)
    show TupInts _ (Value.ref q.1) (kk q.1) ∧ (kk q.1).length = d
    rw [hkk q hq]
    exact ⟨tupInts_of (P := P) (w := w) (isT_keep (R.tups q hq) fun b u e => Heap.get?_push_of_some _ (k1 b u e)), hd q hq⟩
  refine wpAny_bind (wpAny_holding (wpAny_call_entry (s := { s1 with heap := s1.heap.push (seqObj "list" vs.toArray 0) }) slot_list_sort ⟨_, hoL, rfl⟩ entry_list_sort
    (SrtO.list_sort_ord (NtL.swo_lexL fun v => kk (adV v)) hoL (by rw [sizeLine_eq]; omega) (fun h2 => tups_sortable hd1 (by omega) ti fun u e => ?_) fun out h1 h2 => ⟨_, rfl, ?_⟩) (args_list_sort _)))
  · rw [hoL] at e
    cases e
    exact fun c => absurd (Value.type.inj c) (by decide)
  · obtain ⟨c, hc⟩ := sortedHeap_at (vs := vs) (out := out.toArray) hoL
    obtain ⟨M, eM, hM⟩ := refs_back (vs := out) (L := L) fun v hv => by
      obtain ⟨q, hq, e⟩ := List.mem_map.mp (pm.mem_iff.mp (h2.perm.mem_iff.mp hv))
      exact ⟨q, hq, e.symm⟩
    have nL : L.Nodup := nodup_of_map R.once
    have nref : (L.map fun q => Value.ref q.1).Nodup := List.pairwise_map.mpr (List.Pairwise.imp_of_mem (fun {q r} hq hr ne e => ne (one q hq r hr (Value.ref.inj e))) nL)
    have pM : (M.map fun q => Value.ref q.1).Perm (L.map fun q => Value.ref q.1) := by
      rw [← eM]
      exact h2.perm.trans pm
    have pL : M.Perm L := (List.perm_ext_iff_of_nodup (nodup_of_map (pM.nodup_iff.mpr nref)) nL).mpr fun q => ⟨hM q, fun hq => by
      obtain ⟨r, hr, e⟩ := List.mem_map.mp (pM.mem_iff.mpr (List.mem_map.mpr ⟨q, hq, rfl⟩))
      rw [← one r (hM r hr) q hq (Value.ref.inj e)]
      exact hr⟩
    refine wpAny_pure ⟨_, rfl, hQ _ s1.heap.objs.size out c M (fun b u e => ?_) g1 o1 hz hc eM pL ?_⟩
    · have q := k1 b u e
      have lt := Heap.lt_size q
      show (sortedHeap (s1.heap.push (seqObj "list" vs.toArray 0)) s1.heap.objs.size vs out.toArray).get? b = some u
      rw [sortedHeap_old (Nat.ne_of_lt lt) (by rw [size_push']; exact Nat.lt_succ_of_lt lt)]
      exact Heap.get?_push_of_some _ q
    · rw [eM] at h1
      refine List.Pairwise.imp_of_mem (fun {q r} hq hr z => ?_) (List.pairwise_map.mp h1)
      have z' : HT.lexLt (kk r.1) (kk q.1) = false := z
      rw [hkk q (hM q hq), hkk r (hM r hr)] at z'
      exact z'
end
/-! ### as words of a def -/
def SetG0 (P : Program) (w : World) (h : Heap) (a : Addr) (L : List (Addr × List Int)) : Prop := ∃ (es : Array (Int × Value)) (ep : Nat) (t : SetTable), (∃ u, h.get? a = some u ∧ u.ExactSet ∧ u.data = .set es ep t) ∧ es.toList = rowsOf P w L ∧
  TabG t (L.map fun p => thash P w p.2) ∧ (L.map (·.2)).Nodup ∧ t.plain = true ∧ (w.params.followText "set-order" = true ∨ t.led = true) ∧ L.length * 5 < t.mask * 3 ∧ L.length < 4915 ∧ Mk6 t.mask
def SetGO (P : Program) (w : World) (a : Addr) (L : List (Addr × List Int)) : HO := .ext fun h => SetG0 P w h a L
theorem setGO_new {P : Program} {w : World} {H : Hp} {h : Heap} {a : Addr} {L : List (Addr × List Int)} (R : SetG0 P w h a L) : ObjOk P w H h a (SetGO P w a L) := by
  refine ⟨R, let ⟨_, _, _, ⟨u, hu, _⟩, _⟩ := R; ⟨u, hu⟩, fun h1 h2 p k => ?_⟩
  have p' : SetG0 P w h1 a L := p
  obtain ⟨es, ep, t, ⟨u, hu, r⟩, q⟩ := p'
  exact ⟨es, ep, t, ⟨u, k u hu, r⟩, q⟩
section
variable {X : Cx}
/-- set(xs), xs a list of tuples of ints -/
def rSetG (K : PySem.W.Frag) (P : Program) (w : World) : List V → Hp → VK → Prop := fun xs H Q => ∃ (l : Addr) (ks : List (Addr × List Int)) (U : List (List Int)), xs = [V.ref l] ∧ SqL K H l (ks.map fun p => V.ref p.1) ∧ (∀ p ∈ ks, SqT K H p.1 (p.2.map V.int)) ∧ U.length < 4096 ∧ (∀ p ∈ ks, p.2 ∈ U) ∧
  ∀ a L, H a = none → (∀ p ∈ L, p ∈ ks) → (∀ p ∈ ks, p.2 ∈ L.map (·.2)) → L.length < 4096 → Q (.ref a) (upd H a (SetGO P w a L))
theorem cr_setG (hc : X.calm = true) (hu : X.A.units + 64 < cLine) : CallR X (.type "set") (rSetG X.K X.prog X.w) := by
  intro pins s σ H xs us Q I r h
  obtain ⟨l, ks, U, rfl, hl, hk, hU, inU, q⟩ := h
  rw [Vals.ref1 r]
  obtain ⟨its, rv, pl, hz⟩ := I.list hl
  have hn : H s.heap.objs.size = none := I.hok.fresh (Nat.le_refl _)
  refine call_setG (P := X.prog) (w := X.w) ks U (I.ok.hd hc) pl.isList (by simpa using refs_of_vals rv) (fun p hp => I.isT (hk p hp)) (by omega) inU (by omega) fun h' tk L es ep t R g k => ?_
  have sub : ∀ p ∈ L, p ∈ ks := fun p hp => List.mem_of_mem_take (g.sub p hp)
  have few : L.length < 4096 := by
    have z := len_among (L.map (·.2)) U R.once fun y hy => by
      obtain ⟨p, hp, rfl⟩ := List.mem_map.mp hy
      exact inU p (sub p hp)
    rw [List.length_map] at z
    omega
  exact ⟨.ref s.heap.objs.size, upd H s.heap.objs.size (SetGO X.prog X.w s.heap.objs.size L), I.laid (t' := tk) k (Nat.le_refl _) (setGO_new ⟨es, ep, t, R.obj, R.rws, R.tb, R.once, R.pla, R.ledd, R.rm, R.few, R.m6⟩), rfl,
    q _ L hn sub (fun p hp => g.all p (by rw [List.take_length]; exact hp)) few⟩
/-- sorted(set), the tuples of one length -/
def rSortedG (K : PySem.W.Frag) (P : Program) (w : World) : List V → Hp → VK → Prop := fun vs H Q => ∃ (a : Addr) (L : List (Addr × List Int)) (d : Nat), vs = [V.ref a] ∧ H a = some (SetGO P w a L) ∧ (∀ p ∈ L, SqT K H p.1 (p.2.map V.int)) ∧ L.length < 4096 ∧ 1 ≤ d ∧ (∀ p ∈ L, p.2.length = d) ∧
  ∀ (M : List (Addr × List Int)) (p : Addr), M.Perm L → (M.map (·.2)).Nodup → M.Pairwise (fun q r => HT.lexLt r.2 q.2 = false) → H p = none → Q (.ref p) (upd H p (.lst (M.map fun q => V.ref q.1)))
theorem cr_sortedG (hc : X.calm = true) : CallR X (.builtin "sorted") (rSortedG X.K X.prog X.w) := by
  intro pins s σ H vs us Q I r h
  obtain ⟨a, L, d, rfl, ha, hk, few, hd1, hd, q⟩ := h
  have R0 : SetG0 X.prog X.w s.heap a L := (I.hok a _ ha).1
  obtain ⟨es, ep, t, r1, r2, r3, r4, r5, r6, r7, r8, r9⟩ := R0
  have R : SetG X.prog X.w s.heap a L es ep t := ⟨r1, r2, r3, r4, fun p hp => I.isT (hk p hp), r5, r6, r7, r8, r9⟩
  rw [Vals.ref1 r]
  refine sorted_setG R (I.ok.hd hc) few hd1 hd fun s' p out c M k g o hp hg hout pm pw => ?_
  have len : (M.map fun q => V.ref q.1).length ≤ sizeLine := by rw [List.length_map, pm.length_eq, sizeLine_eq]; omega
  have hn : H p = none := I.hok.fresh hp
  have hv : Vals (M.map fun q => V.ref q.1) out := by rw [hout]; exact vals_of_refs M
  have J : L2.Inv X pins σ (upd H p (.lst (M.map fun q => V.ref q.1))) { s with heap := s'.heap, gens := s'.gens, drawn := s'.drawn, toks := s'.toks } :=
    I.call (ch := []) (Un.laid k hp hn) (I.hok.laid k hp ⟨len, out, c, hv, hg⟩) (by rw [g]; exact I.bare) (fun _ z => nomatch z)
  have e : s' = { s with heap := s'.heap, gens := s'.gens, drawn := s'.drawn, toks := s'.toks } := by
    cases s'
    cases s
    cases o
    rfl
  rw [e]
  exact ⟨.ref p, _, J, rfl, q M p pm ((pm.map (·.2)).nodup_iff.mpr r4) pw hn⟩
end
/-! ### sorted(xs, key=f), f telling a number of each item, changing nothing: some arrangement of xs -/
section
variable {P : Program} {w : World} {A : Around} {E : Value → Shared → Prop} {s : Shared}
theorem sort_by {a : Addr} {vs : List Value} {n : Nat} {kz : List Int} {f : Value} {R : PySem.Fin → Shared → Prop} (ho : s.heap.get? a = some (seqObj "list" vs.toArray n)) (hlen : kz.length = vs.length) (hz : vs.length ≤ 100000)
    (turn : ∀ (i : Nat) (v : Value) (k : Int), vs[i]? = some v → kz[i]? = some k → ∀ (g : Heap) (tk : Nat) (Q : Value → Shared → Prop), (∀ b o, b ≠ a → s.heap.get? b = some o → g.get? b = some o) →
      (∀ tk' t, Q (.int k t) { s with heap := g, toks := tk' }) → wpAny (model P w) A (call f [v]) Q (fun _ _ => False) { s with heap := g, toks := tk })
    (h : ∀ (g : Heap) (tk : Nat) (out : List Value) (c : Nat), out.Perm vs → (∀ b o, b ≠ a → s.heap.get? b = some o → g.get? b = some o) → g.get? a = some (seqObj "list" out.toArray c) → R (.done (.ret .none)) { s with heap := g, toks := tk }) :
    wpAny (model P w) A (ksk_tree a f false) R E s := by
  have la := Heap.lt_size ho
  obtain ⟨e1, ho1⟩ : ∃ e1, (s.heap.update a (Obj.mapSeq fun _ => (#[] : Array Value))).get? a = some (seqObj "list" #[] e1) := ⟨_, get?_update_seq ho fun _ => #[]⟩
  have hz1 : vs.length ≤ sizeLine := by rw [sizeLine_eq]; omega
  unfold ksk_tree
  refine wpAny_bind (listItems_at ho rfl (wpAny_bind (listUpdate_at ho rfl ?_ (by rw [List.size_toArray]; exact hz1) (Nat.zero_le _))))
  refine wpAny_bind (seqEpoch_at ho1 rfl (wpAny_bind (wpAny_newTuple ?_ (show vs.length ≤ _ from hz1))))
  refine wpAny_bind (wpAny_newList (wpAny_holding ?_) (Nat.zero_le _))
  obtain ⟨h1, eh1⟩ : ∃ h1, h1 = s.heap.update a (Obj.mapSeq fun _ => (#[] : Array Value)) := ⟨_, rfl⟩
  obtain ⟨kS, ekS⟩ : ∃ kS, kS = (h1.push (seqObj "tuple" vs.toArray 0)).objs.size := ⟨_, rfl⟩
  obtain ⟨h2, eh2⟩ : ∃ h2, h2 = (h1.push (seqObj "tuple" vs.toArray 0)).push (seqObj "list" #[] 0) := ⟨_, rfl⟩
  have sz : kS = s.heap.objs.size + 1 := by rw [ekS, eh1, size_push', Heap.size_update]
  have ka : kS ≠ a := by rw [sz]; exact Nat.ne_of_gt (Nat.lt_succ_of_lt la)
  have k2 : ∀ b o, b ≠ a → s.heap.get? b = some o → h2.get? b = some o := fun b o hb e => by
    rw [eh2, eh1]
    exact Heap.get?_push_of_some _ (Heap.get?_push_of_some _ ((Heap.get?_update_ne _ _ _ _ hb).trans e))
  have a2 : h2.get? a = some (seqObj "list" #[] e1) := by
    rw [eh2, eh1]
    exact Heap.get?_push_of_some _ (Heap.get?_push_of_some _ ho1)
  have s2 : h2.get? kS = some (seqObj "list" #[] 0) := by
    rw [eh2, ekS]
    exact Heap.get?_push_size _ rfl
  have old : ∀ b o, s.heap.get? b = some o → b ≠ kS := fun b o e => by
    rw [sz]
    exact Nat.ne_of_lt (Nat.lt_succ_of_lt (Heap.lt_size e))
  show wpAny (model P w) A (ksk_rest a f false vs.toArray _ (.ref _)) R E { s with heap := (_ : Heap).push _ }
  rw [← eh1, ← ekS, ← eh2]
  unfold ksk_rest
  refine wpAny_bind (wpAny_rule ?_)
  first
    | rw [List.forIn_toArray]
    | (rw [← Array.forIn_toList]; simp only [List.toList_toArray])
  refine wpAny_bind (ksk_fold (fun i s' => ∃ g tk kA e, s' = { s with heap := g, toks := tk } ∧ (∀ b o, b ≠ a → s.heap.get? b = some o → g.get? b = some o) ∧ g.get? kS = some (seqObj "list" kA e) ∧ g.get? a = some (seqObj "list" #[] e1) ∧ IntsAre kA.toList (kz.take i)) vs 0 _
    ⟨h2, s.toks, #[], 0, rfl, k2, s2, a2, by simpa using IntsAre.nil⟩ ?step ?done)
  case step =>
    rintro j x s' hx ⟨g, tk, kA, e, rfl, kp, gk, ga, hk⟩
    rw [Nat.zero_add] at hk ⊢
    obtain ⟨k, hkj⟩ : ∃ k, kz[j]? = some k := ⟨_, List.getElem?_eq_getElem (by have := (List.getElem?_eq_some_iff.mp hx).1; omega)⟩
    have lk : kA.size ≤ vs.length := by
      have z := hk.length
      rw [Array.length_toList, List.length_take] at z
      omega
    refine wpAny_bind (wpAny_attempt (wpAny_mono (turn j x k hx hkj g tk (fun v s'' => ∃ tk' t, v = .int k t ∧ s'' = { s with heap := g, toks := tk' }) kp fun tk' t => ⟨tk', t, rfl, rfl⟩) (fun v s'' z => ?_) fun _ _ z => z.elim))
    obtain ⟨tk', t, rfl, rfl⟩ := z
    obtain ⟨c2, hc2⟩ : ∃ c2, (g.update kS (Obj.mapSeq (·.push (.int k t)))).get? kS = some (seqObj "list" (kA.push (.int k t)) c2) := ⟨_, get?_update_seq gk (·.push (.int k t))⟩
    have ek : kz.take (j + 1) = kz.take j ++ [k] := by rw [List.take_add_one, hkj]; rfl
    refine wpAny_bind (listUpdate_at gk rfl ?_ (by rw [sizeLine_eq]; omega) (Nat.le_trans (Nat.le_of_eq (Array.size_push ..)) (by rw [sizeLine_eq]; omega)))
    refine wpAny_pure ⟨rfl, _, _, kA.push (.int k t), c2, rfl, fun b o hb eb => ?_, hc2, ?_, ?_⟩
    · rw [Heap.get?_update_ne _ _ _ _ (old b o eb)]
      exact kp b o hb eb
    · rw [Heap.get?_update_ne _ _ _ _ ka.symm]
      exact ga
    · rw [ek, Array.toList_push]
      exact ksk_snoc hk
  case done =>
    rintro s' ⟨g, tk, kA, e, rfl, kp, gk, ga, hk⟩
    rw [Nat.zero_add, List.take_of_length_le (by omega)] at hk
    have ksz : kA.size = vs.length := by
      have z := hk.length
      rw [Array.length_toList] at z
      omega
    refine wpAny_bind (listItems_at gk rfl ?_)
    -- the end, from a finished sort
    have fin : ∀ st : SortSt, (arrOf st).toList.Perm (kA.toList.zip vs) → failedOf st = none → wpAny (model P w) A (ksk_tail a false e1 (.ref kS) st) R E { s with heap := g, toks := tk } := fun st pm fl => by
      have osz : ((arrOf st).map (·.2)).size = vs.length := by
        have z := pm.length_eq
        rw [Array.length_toList, List.length_zip, Array.length_toList, ksz, Nat.min_self] at z
        rw [Array.size_map, z]
      unfold ksk_tail
      simp only [Bool.false_eq_true, if_false]
      refine wpAny_bind (listUpdate_at gk rfl ?_ (by rw [sizeLine_eq]; omega) (Nat.zero_le _))
      have ga1 : (g.update kS (Obj.mapSeq fun _ => (#[] : Array Value))).get? a = some (seqObj "list" #[] e1) := (Heap.get?_update_ne _ _ _ _ ka.symm).trans ga
      refine wpAny_bind (wpAny_letGo (wpAny_bind (seqEpoch_at ga1 rfl (wpAny_bind (listUpdate_at ga1 rfl ?_ (Nat.zero_le _) (by rw [osz, sizeLine_eq]; omega))))))
      rw [fl]
      simp only [bne_self_eq_false, Bool.false_eq_true, if_false]
      obtain ⟨c3, hc3⟩ : ∃ c3, ((g.update kS (Obj.mapSeq fun _ => (#[] : Array Value))).update a (Obj.mapSeq fun _ => (arrOf st).map (·.2))).get? a = some (seqObj "list" ((arrOf st).map (·.2)) c3) := ⟨_, get?_update_seq ga1 fun _ => (arrOf st).map (·.2)⟩
      refine wpAny_pure (h _ _ ((arrOf st).map (·.2)).toList c3 ?_ (fun b o hb eb => ?_) (by rw [Array.toArray_toList]; exact hc3))
      · have z := pm.map (·.2)
        rw [List.map_snd_zip (show vs.length ≤ kA.toList.length from by have q : kA.toList.length = kA.size := rfl; omega)] at z
        rw [Array.toList_map]
        exact z
      · rw [Heap.get?_update_ne _ _ _ _ hb, Heap.get?_update_ne _ _ _ _ (old b o eb)]
        exact kp b o hb eb
    unfold ksk_end
    simp only [Bool.false_eq_true, if_false]
    have zl : (kA.zip vs.toArray).toList = kA.toList.zip vs := ksk_zip kA vs
    by_cases small : vs.toArray.size < 2
    · rw [if_pos small, if_pos small]
      refine wpAny_bind (wpAny_pure ?_)
      rw [StateT.run_pure]
      refine wpAny_bind (wpAny_pure ?_)
      exact fin (SortSt.mk' general' (kA.zip vs.toArray) #[] 7 none) (by show (kA.zip vs.toArray).toList.Perm _; rw [zl]) rfl
    · rw [if_neg small, if_neg small]
      rw [List.size_toArray] at small
      rw [ksk_kind hk (by omega)]
      refine wpAny_bind (wpAny_pure ?_)
      have hall : SrtO.AllL (fun p : Keyed => p.1 ∈ kA.toList) (kA.zip vs.toArray).toList := fun p hp => by
        rw [zl] at hp
        exact (List.of_mem_zip hp).1
      refine wpAny_bind (wpAny_mono (SrtO.wpS_sortO (st0 := SortSt.mk' oneType' (kA.zip vs.toArray) #[] 7 none)
        (Q := fun _ st' => (arrOf st').toList.Perm (kA.toList.zip vs) ∧ failedOf st' = none) (SrtO.swo2 SrtO.swo_int) (SrtO.int_cmp hk) rfl hall rfl rfl fun st' a1 a2 a3 => ⟨by rw [← zl]; exact a2.perm, a3⟩) ?_ fun _ _ z => z)
      rintro ⟨⟨⟩, st'⟩ s' ⟨rfl, pm, fl⟩
      exact fin st' pm fl
end
/-! ### sorted(xs, key=len), xs a list of lists -/
section
variable {P : Program} {w : World} {A : Around} {E : Value → Shared → Prop} {s : Shared}
theorem sorted_by {l : Addr} {vs : List Value} {kz : List Int} {id : String} {Q : Value → Shared → Prop} (hl : s.heap.IsList l vs.toArray) (hlen : kz.length = vs.length) (hz : vs.length ≤ 100000)
    (turn : ∀ (i : Nat) (v : Value) (k : Int), vs[i]? = some v → kz[i]? = some k → ∀ (A' : Around) (g : Heap) (tk : Nat) (Q : Value → Shared → Prop), (∀ b o, s.heap.get? b = some o → g.get? b = some o) →
      (∀ tk' t, Q (.int k t) { s with heap := g, toks := tk' }) → wpAny (model P w) A' (call (.builtin id) [v]) Q (fun _ _ => False) { s with heap := g, toks := tk })
    (h : ∀ (g : Heap) (tk : Nat) (out : List Value) (p c : Nat), out.Perm vs → (∀ b o, s.heap.get? b = some o → g.get? b = some o) → s.heap.objs.size ≤ p → g.get? p = some (seqObj "list" out.toArray c) → Q (.ref p) { s with heap := g, toks := tk }) :
    wpAny (model P w) A (call (.builtin "sorted") [.ref l] [(Str.ofString "key", .builtin id)]) Q E s := by
  have hz1 : vs.length ≤ sizeLine := by rw [sizeLine_eq]; omega
  refine call_function_entry_kw kind_sorted plain_sorted entry_sorted (ksk_s1 _ _) ?_
  unfold Builtin.«sorted»
  refine wpAny_bind (m := checkCount "sorted" 1 1 _) (wpAny_pure (wpAny_bind (collect_list hl (wpAny_bind (wpAny_newList ?_ hz1)) hz1)))
  obtain ⟨g0, eg0⟩ : ∃ g0, g0 = (s.heap.push (seqObj "list" #[] 0)).update s.heap.objs.size (Obj.mapSeq (· ++ vs.toArray)) := ⟨_, rfl⟩
  have sz : g0.objs.size = s.heap.objs.size + 1 := by rw [eg0, Heap.size_update, size_push']
  have kp : ∀ b o, s.heap.get? b = some o → b ≠ g0.objs.size ∧ (g0.push (seqObj "list" vs.toArray 0)).get? b = some o := fun b o e => by
    have lt := Heap.lt_size e
    refine ⟨by rw [sz]; exact Nat.ne_of_lt (Nat.lt_succ_of_lt lt), Heap.get?_push_of_some _ ?_⟩
    rw [eg0, Heap.get?_update_ne _ _ _ _ (Nat.ne_of_lt lt)]
    exact Heap.get?_push_of_some _ e
  have hol : (g0.push (seqObj "list" vs.toArray 0)).get? g0.objs.size = some (seqObj "list" vs.toArray 0) := Heap.get?_push_size _ rfl
  rw [← eg0]
  refine wpAny_bind (wpAny_holding (wpAny_call_entry_kw (s := { s with heap := g0.push (seqObj "list" vs.toArray 0) }) slot_list_sort ⟨_, hol, rfl⟩ entry_list_sort ?body (ksk_l1 _ _)))
  case body =>
    show wpAny (model P w) A.in1.in1 (Builtin.«list.sort» ⟨[.ref g0.objs.size], [(Str.ofString "key", .builtin id)]⟩) _ _ _
    rw [ksk_t4]
    refine sort_by (s := { s with heap := g0.push (seqObj "list" vs.toArray 0) }) hol hlen hz (fun i v k hv hk g tk Q' gk q => turn i v k hv hk _ g tk Q' (fun b o e => gk b o (kp b o e).1 (kp b o e).2) q) fun g tk out c pm gk ga => ⟨_, rfl, wpAny_pure ⟨_, rfl, ?_⟩⟩
    exact h g tk out _ c pm (fun b o e => gk b o (kp b o e).1 (kp b o e).2) (by rw [sz]; exact Nat.le_succ _) ga
end
section
variable {X : Cx}
def tSortLen (K : PySem.W.Frag) (te : TE) : TE := fun σ H Q => te σ H fun x H1 => ∃ (a : Addr) (ls : List Addr), x = .ref a ∧ SqL K H1 a (ls.map V.ref) ∧ ls.length ≤ 100000 ∧ (∀ l ∈ ls, ∃ ys, H1 l = some (.lst ys)) ∧
  ∀ (ls' : List Addr) (p : Addr), ls'.Perm ls → H1 p = none → Q (.ref p) (upd H1 p (.lst (ls'.map V.ref)))
theorem refs_vals : ∀ {ls : List Addr} {us : List Value}, Vals (ls.map V.ref) us → us = ls.map Value.ref
  | [], _, .nil => rfl
  | _ :: _, _, .cons r t => by
    cases r
    rw [refs_vals t]
    rfl
theorem vals_refs : ∀ (ls : List Addr), Vals (ls.map V.ref) (ls.map Value.ref)
  | [] => .nil
  | _ :: ls => .cons rfl (vals_refs ls)
theorem refs_perm {ls : List Addr} {out : List Value} (pm : out.Perm (ls.map Value.ref)) : ∃ ls' : List Addr, out = ls'.map Value.ref ∧ ls'.Perm ls := by
  have un : ∀ {l : List Addr}, (l.map Value.ref).map adV = l := fun {l} => by
    rw [List.map_map]
    exact (List.map_congr_left fun _ _ => rfl).trans (List.map_id l)
  refine ⟨out.map adV, ?_, ?_⟩
  · rw [List.map_map]
    have e : ∀ v ∈ out, (Value.ref ∘ adV) v = v := fun v hv => by
      obtain ⟨a, _, rfl⟩ := List.mem_map.mp (pm.mem_iff.mp hv)
      rfl
    exact ((List.map_congr_left e).trans (List.map_id' out)).symm
  · have z := pm.map adV
    rw [un] at z
    exact z
theorem pe_sortLen {e : Expr} {te : TE} {p q1 kpos pos : Pos} (hg : Gl X "sorted") (hm : X.mg "sorted" = none) (hg2 : Gl X "len") (hm2 : X.mg "len" = none) (ha : PE X e te)
    (hs : starEach [e] X.env = [(false, eval e X.env)] := by rfl) :
    PE X (.Call (.Name "sorted" p) [e] [⟨some (Str.ofString "key"), .Name "len" q1, kpos⟩] pos) (tSortLen X.K te) := by
  refine ⟨fun pins s σ H Q I h => ?_⟩
  refine wpAny_Call_Name_kw (ld_blt I hg hm (by decide +kernel : bootBuiltins "sorted" = some (.builtin "sorted")) ?_ (by decide) (by decide))
  have one : PA X [e] (tCons te tNil) := pa_cons ha pa_nil (by rw [hs]; rfl)
  refine PyProof.Rows.callWith_kw (thn (one.run pos pins s σ H (fun xs H1 => match xs with
    | [x] => ∃ (a : Addr) (ls : List Addr), x = V.ref a ∧ SqL X.K H1 a (ls.map V.ref) ∧ ls.length ≤ 100000 ∧ (∀ l ∈ ls, ∃ ys, H1 l = some (.lst ys)) ∧
        ∀ (ls' : List Addr) (p : Addr), ls'.Perm ls → H1 p = none → Q (.ref p) (upd H1 p (.lst (ls'.map V.ref)))
    | _ => False) I h) fun us s1 ⟨vs, H1, I1, r1, hq⟩ => ?_) (by rw [hs]; rfl) (by rw [hs]; rfl) (by rfl) (by rfl)
  match vs, hq with
  | [], hq => exact hq.elim
  | _ :: _ :: _, hq => exact hq.elim
  | [x], ⟨a, ls, ex, hl, hz, hls, q⟩ =>
    subst ex
    rw [Vals.ref1 r1]
    refine wpAny_evalAll_cons ?_
    show wpAny _ _ (do let v ← eval (.Name "len" q1) X.env; standAt pos; pure v) _ _ s1
    refine wpAny_bind (ld_blt I1 hg2 hm2 PySem.boot_len (wpAny_bind (wpAny_standAt (wpAny_pure (wpAny_evalAll_nil ?_)))) (by decide) (by decide))
    show wpAny _ _ (call (.builtin "sorted") [.ref a] [(Str.ofString "key", .builtin "len")]) _ _ s1
    obtain ⟨its, rv, pl, _⟩ := I1.list hl
    obtain rfl := refs_vals rv
    have kk : ∃ kz : List Int, kz.length = (ls.map Value.ref).length ∧ ∀ (i : Nat) (v : Value) (k : Int), (ls.map Value.ref)[i]? = some v → kz[i]? = some k → ∃ l its, v = Value.ref l ∧ s1.heap.IsList l its ∧ k = its.size ∧ (its.size : Int) < 2 ^ 63 := by
      have sz : ∀ l ∈ ls, ∃ its : Array Value, s1.heap.IsList l its ∧ (its.size : Int) < 2 ^ 63 := fun l hm => by
        obtain ⟨ys, hy⟩ := hls l hm
        obtain ⟨its, r, pl2, hz2⟩ := I1.list (SqL.of (K := X.K) hy)
        refine ⟨its.toArray, pl2.isList, ?_⟩
        rw [r.length, sizeLine_eq] at hz2
        rw [List.size_toArray]
        omega
      have all : ∀ l : Addr, ∃ n : Int, l ∈ ls → ∃ its : Array Value, s1.heap.IsList l its ∧ n = its.size ∧ (its.size : Int) < 2 ^ 63 := fun l => by
        by_cases hm : l ∈ ls
        · obtain ⟨its, h1, h2⟩ := sz l hm
          exact ⟨its.size, fun _ => ⟨its, h1, rfl, h2⟩⟩
        · exact ⟨0, fun z => absurd z hm⟩
      refine ⟨ls.map fun l => Classical.choose (all l), by simp, fun i v k hv hk => ?_⟩
      rw [List.getElem?_map] at hv hk
      obtain ⟨l, h1, rfl⟩ := Option.map_eq_some_iff.mp hv
      rw [h1] at hk
      cases hk
      obtain ⟨its, a1, a2, a3⟩ := Classical.choose_spec (all l) (List.mem_of_getElem? h1)
      exact ⟨l, its, rfl, a1, a2, a3⟩
    obtain ⟨kz, lk, turn⟩ := kk
    refine sorted_by (P := X.prog) (w := X.w) (kz := kz) pl.isList lk (by rw [List.length_map]; exact hz) (fun i v k hv hk A' g tk Q' gk hq => ?_) fun g tk out p c pm gk hp gp => ?_
    · obtain ⟨l, its, rfl, ⟨o, ho, hr⟩, rfl, fit⟩ := turn i v k hv hk
      exact Calls.call_len_list (s := { s1 with heap := g, toks := tk }) ⟨o, gk l o ho, hr⟩ fit (hq _ _)
    · obtain ⟨ls', rfl, pl'⟩ := refs_perm pm
      have hn := I1.hok.fresh hp
      refine ⟨.ref p, upd H1 p (.lst (ls'.map V.ref)), I1.laid (t' := tk) gk hp ⟨by rw [List.length_map, pl'.length_eq, sizeLine_eq]; omega, _, c, vals_refs ls', gp⟩, rfl, q ls' p pl' hn⟩
end
/-! ### (x,) * k -/
theorem tup_mul0 (l : Addr) (v : Value) (n : Nat) (dd : Option Addr) (sl : Array (Option Value)) (u : Tok) :
    Meets (Builtin.«tuple.__mul__» ⟨[.ref l, .int 0 u], []⟩) (fun _ R s => s.heap.get? l = some { cls := .type "tuple", dict := dd, data := .seq #[v] n, slots := sl } ∧
      R (.ok (.ret (Value.ref s.heap.objs.size))) { s with heap := s.heap.push { cls := Value.type "tuple", data := Data.seq #[] }, toks := s.toks }) :=
  .of_wp fun prog w A R s h => by
    obtain ⟨hp, g, d, tk, os⟩ := s
    obtain ⟨hl, h⟩ := h
    have f1 := AutoSeq1.idx_int
    wp_walk using wpAny_loadPart' hl
    repeat (first
      | (refine wpAny_ite_false (by decide) ?_; wp_walk using wpAny_loadPart' hl)
      | (refine wpAny_ite_true (by decide) ?_; wp_walk using wpAny_loadPart' hl))
    exact ⟨_, rfl, h⟩
theorem tup_mul1 (l : Addr) (v : Value) (n : Nat) (dd : Option Addr) (sl : Array (Option Value)) (u : Tok) :
    Meets (Builtin.«tuple.__mul__» ⟨[.ref l, .int 1 u], []⟩) (fun _ R s => s.heap.get? l = some { cls := .type "tuple", dict := dd, data := .seq #[v] n, slots := sl } ∧ R (.ok (.ret (Value.ref l))) s) :=
  .of_wp fun prog w A R s h => by
    obtain ⟨hp, g, d, tk, os⟩ := s
    obtain ⟨hl, h⟩ := h
    have f1 := AutoSeq1.idx_int
    wp_walk using wpAny_loadPart' hl
    repeat (first
      | (refine wpAny_ite_false (by decide) ?_; wp_walk using wpAny_loadPart' hl)
      | (refine wpAny_ite_true (by decide) ?_; wp_walk using wpAny_loadPart' hl))
    exact ⟨_, rfl, h⟩
def rRep1 (K : PySem.W.Frag) : R2 := fun x y H Q => ∃ l k z, x = .ref l ∧ y = .int k ∧ SqT K H l [z] ∧ 0 ≤ k ∧ k ≤ 1000 ∧ (k = 1 → Q (.ref l) H) ∧ (k ≠ 1 → ∀ p, H p = none → Q (.ref p) (upd H p (.tup (List.replicate k.toNat z))))
theorem op_rep1 {X : Cx} : OpR X (binaryOp .Mult) (rRep1 X.K) := by
  intro pins s σ H x y v u Q I rx ry h
  obtain ⟨l, k, z, rfl, rfl, hT, h0, hk, q1, q2⟩ := h
  by_cases two : 2 ≤ k
  · refine op_repT pins s σ H _ _ v u Q I rx ry ⟨l, k, [z], rfl, rfl, hT, by simp, two, hk, by simp, fun p hp => ?_⟩
    have e : (List.replicate k.toNat [z]).flatten = List.replicate k.toNat z := by
      generalize k.toNat = m
      induction m with
      | zero => rfl
      | succ m ih => rw [List.replicate_succ, List.replicate_succ, List.flatten_cons, ih]; rfl
    rw [e]
    exact q2 (by omega) p hp
  · cases rx
    obtain ⟨t, rfl⟩ := ry
    obtain ⟨its, r, ⟨⟨cls, dd, data, sl⟩, ho, hc, n, hd⟩, hs⟩ := I.tuple hT
    simp only at hc hd
    subst hc hd
    cases r with
    | cons r rr =>
      cases rr
      rename_i v0
      have one : k = 0 ∨ k = 1 := by omega
      rcases one with rfl | rfl
      · refine wpAny_binaryOp_repeat_ref (T := "tuple") (U := "int") (by decide) ⟨_, ho, rfl⟩ (fun s' => typeIs_int s' 0 t) noFill_tuple_mul F.fills_int_mul F.slot_int_rmul repeat_tuple F.slot_int_index.lookup
          (call_meets F.slot_int_rmul (typeIs_int s 0 t) F.entry_int_rmul (F.args_int_rmul_2 _ _) (int_rmul_tuple 0 t l _ n dd sl)
            ⟨ho, rfl, ⟨_, ho, rfl⟩, call_meets F.slot_tuple_mul ⟨_, ho, rfl⟩ F.entry_tuple_mul (F.args_tuple_mul_2 _ _) (tup_mul0 l v0 n dd sl t) ⟨ho, ?_⟩⟩)
        have hn := I.hok.fresh (Nat.le_refl s.heap.objs.size)
        exact ⟨.ref s.heap.objs.size, _, I.laid (t' := s.toks) (o := .tup []) (fun b ob e => Heap.get?_push_of_some _ e) (Nat.le_refl _) ⟨Nat.zero_le _, [], .nil, IsTup.new _ _⟩, rfl, q2 (by decide) _ hn⟩
      · refine wpAny_binaryOp_repeat_ref (T := "tuple") (U := "int") (by decide) ⟨_, ho, rfl⟩ (fun s' => typeIs_int s' 1 t) noFill_tuple_mul F.fills_int_mul F.slot_int_rmul repeat_tuple F.slot_int_index.lookup
          (call_meets F.slot_int_rmul (typeIs_int s 1 t) F.entry_int_rmul (F.args_int_rmul_2 _ _) (int_rmul_tuple 1 t l _ n dd sl)
            ⟨ho, rfl, ⟨_, ho, rfl⟩, call_meets F.slot_tuple_mul ⟨_, ho, rfl⟩ F.entry_tuple_mul (F.args_tuple_mul_2 _ _) (tup_mul1 l v0 n dd sl t) ⟨ho, ?_⟩⟩)
        exact ⟨.ref l, H, I, rfl, q1 rfl⟩
/-! ### stores of four numbers: what is least of them (plain Lean) -/
def le4 : List Int → List Int → Bool
  | [a, b, c, d], [e, f, g, h] => decide (a ≤ e) && (decide (b ≤ f) && (decide (c ≤ g) && decide (d ≤ h)))
  | _, _ => false
def Ok4 (x : List Int) : Prop := ∃ a b c d : Int, x = [a, b, c, d] ∧ 0 ≤ a ∧ 0 ≤ b ∧ 0 ≤ c ∧ 0 ≤ d
theorem le4_iff {a b c d e f g h : Int} : le4 [a, b, c, d] [e, f, g, h] = true ↔ a ≤ e ∧ b ≤ f ∧ c ≤ g ∧ d ≤ h := by
  simp only [le4, Bool.and_eq_true, decide_eq_true_eq]
theorem le4_len {x y : List Int} (h : le4 x y = true) : ∃ a b c d e f g i : Int, x = [a, b, c, d] ∧ y = [e, f, g, i] ∧ a ≤ e ∧ b ≤ f ∧ c ≤ g ∧ d ≤ i := by
  match x, y, h with
  | [a, b, c, d], [e, f, g, i], h =>
    obtain ⟨h1, h2, h3, h4⟩ := le4_iff.mp h
    exact ⟨a, b, c, d, e, f, g, i, rfl, rfl, h1, h2, h3, h4⟩
theorem le4_refl {x : List Int} (h : Ok4 x) : le4 x x = true := by
  obtain ⟨a, b, c, d, rfl, _⟩ := h
  exact le4_iff.mpr ⟨Int.le_refl _, Int.le_refl _, Int.le_refl _, Int.le_refl _⟩
theorem le4_trans {x y z : List Int} (h1 : le4 x y = true) (h2 : le4 y z = true) : le4 x z = true := by
  obtain ⟨a, b, c, d, e, f, g, i, rfl, rfl, p⟩ := le4_len h1
  obtain ⟨_, _, _, _, j, k, l, m, e1, rfl, q⟩ := le4_len h2
  cases e1
  exact le4_iff.mpr ⟨by omega, by omega, by omega, by omega⟩
theorem le4_anti {x y : List Int} (h1 : le4 x y = true) (h2 : le4 y x = true) : x = y := by
  obtain ⟨a, b, c, d, e, f, g, i, rfl, rfl, p⟩ := le4_len h1
  have q := le4_iff.mp h2
  have e1 : a = e := by omega
  have e2 : b = f := by omega
  have e3 : c = g := by omega
  have e4 : d = i := by omega
  rw [e1, e2, e3, e4]
/-- what is covered stands ahead, or is the same -/
theorem le4_lex {x y : List Int} (h : le4 x y = true) : HT.lexLt y x = false := by
  obtain ⟨a, b, c, d, e, f, g, i, rfl, rfl, p⟩ := le4_len h
  simp only [HT.lexLt]
  split
  · split
    · split
      · split
        · rfl
        · exact decide_eq_false (by omega)
      · exact decide_eq_false (by omega)
    · exact decide_eq_false (by omega)
  · exact decide_eq_false (by omega)
theorem lex4_tot {x y : List Int} (hx : x.length = y.length) (h : HT.lexLt y x = false) : x = y ∨ HT.lexLt x y = true := by
  induction x generalizing y with
  | nil =>
    cases y with
    | nil => exact .inl rfl
    | cons b y => simp at hx
  | cons a x ih =>
    cases y with
    | nil => simp at hx
    | cons b y =>
      rw [HT.lexLt_cons] at h ⊢
      by_cases e : a = b
      · subst e
        rw [if_pos rfl] at h ⊢
        rcases ih (by simpa using hx) h with rfl | z
        · exact .inl rfl
        · exact .inr z
      · rw [if_neg (fun z => e z.symm)] at h
        rw [if_neg e]
        have := of_decide_eq_false h
        exact .inr (decide_eq_true (by omega))
theorem lex_irr (x : List Int) : HT.lexLt x x = false := by
  induction x with
  | nil => rfl
  | cons a x ih =>
    rw [HT.lexLt_cons, if_pos rfl]
    exact ih
def UpS (S : List (List Int)) (x : List Int) : Prop := ∃ y ∈ S, le4 y x = true
def anyLe (x : List Int) (S : List (List Int)) : Bool := S.any fun y => le4 y x
theorem anyLe_iff {x : List Int} {S : List (List Int)} : anyLe x S = true ↔ UpS S x := by
  unfold anyLe UpS
  rw [List.any_eq_true]
theorem UpS.mono {S : List (List Int)} {x y : List Int} (h : UpS S x) (l : le4 x y = true) : UpS S y :=
  let ⟨z, hz, e⟩ := h; ⟨z, hz, le4_trans e l⟩
/-- M: the least ones of U, sorted -/
structure Canon (M : List (List Int)) (U : List Int → Prop) : Prop where
  ok : ∀ x ∈ M, Ok4 x
  srt : M.Pairwise fun x y => HT.lexLt x y = true
  anti : ∀ x ∈ M, ∀ y ∈ M, le4 x y = true → x = y
  up : ∀ x, Ok4 x → (UpS M x ↔ U x)
theorem Canon.congr {M : List (List Int)} {U V : List Int → Prop} (c : Canon M U) (h : ∀ x, Ok4 x → (U x ↔ V x)) : Canon M V :=
  ⟨c.ok, c.srt, c.anti, fun x hx => (c.up x hx).trans (h x hx)⟩
theorem Canon.mem {M N : List (List Int)} {U : List Int → Prop} (c : Canon M U) (d : Canon N U) {x : List Int} (hx : x ∈ M) : x ∈ N := by
  have ox := c.ok x hx
  obtain ⟨y, hy, l1⟩ := (d.up x ox).mpr ((c.up x ox).mp ⟨x, hx, le4_refl ox⟩)
  have oy := d.ok y hy
  obtain ⟨z, hz, l2⟩ := (c.up y oy).mpr ((d.up y oy).mp ⟨y, hy, le4_refl oy⟩)
  have e := c.anti z hz x hx (le4_trans l2 l1)
  subst e
  rw [le4_anti l2 l1]
  exact hy
theorem srt_eq : ∀ {M N : List (List Int)}, (M.Pairwise fun x y => HT.lexLt x y = true) → (N.Pairwise fun x y => HT.lexLt x y = true) → (∀ x, x ∈ M ↔ x ∈ N) → M = N
  | [], [], _, _, _ => rfl
  | [], y :: N, _, _, h => absurd ((h y).mpr List.mem_cons_self) (by simp)
  | x :: M, [], _, _, h => absurd ((h x).mp List.mem_cons_self) (by simp)
  | x :: M, y :: N, hM, hN, h => by
    obtain ⟨m1, m2⟩ := List.pairwise_cons.mp hM
    obtain ⟨n1, n2⟩ := List.pairwise_cons.mp hN
    have e : x = y := by
      rcases List.mem_cons.mp ((h x).mp List.mem_cons_self) with e | e
      · exact e
      · rcases List.mem_cons.mp ((h y).mpr List.mem_cons_self) with e2 | e2
        · exact e2.symm
        · have a := n1 x e
          have b := m1 y e2
          rw [NtL.lex_asym _ _ a] at b
          cases b
    subst e
    refine congrArg (x :: ·) (srt_eq m2 n2 fun z => ⟨fun hz => ?_, fun hz => ?_⟩)
    · rcases List.mem_cons.mp ((h z).mp (List.mem_cons_of_mem _ hz)) with rfl | r
      · have a := m1 z hz
        rw [lex_irr] at a
        cases a
      · exact r
    · rcases List.mem_cons.mp ((h z).mpr (List.mem_cons_of_mem _ hz)) with rfl | r
      · have a := n1 z hz
        rw [lex_irr] at a
        cases a
      · exact r
theorem Canon.uniq {M N : List (List Int)} {U : List Int → Prop} (c : Canon M U) (d : Canon N U) : M = N := srt_eq c.srt d.srt fun _ => ⟨c.mem d, d.mem c⟩
/-- sorted ones gone through: each that covers no one found yet -/
def sieve : List (List Int) → List (List Int) → List (List Int)
  | found, [] => found
  | found, x :: r => if anyLe x found then sieve found r else sieve (found ++ [x]) r
theorem sieve_snoc : ∀ (T found : List (List Int)) (x : List Int), sieve found (T ++ [x]) = if anyLe x (sieve found T) then sieve found T else sieve found T ++ [x]
  | [], found, x => rfl
  | y :: T, found, x => by
    cases h : anyLe y found with
    | true =>
      have e1 : sieve found (y :: T ++ [x]) = sieve found (T ++ [x]) := if_pos h
      have e2 : sieve found (y :: T) = sieve found T := if_pos h
      rw [e1, e2]
      exact sieve_snoc T found x
    | false =>
      have e1 : sieve found (y :: T ++ [x]) = sieve (found ++ [y]) (T ++ [x]) := if_neg (by rw [h]; decide)
      have e2 : sieve found (y :: T) = sieve (found ++ [y]) T := if_neg (by rw [h]; decide)
      rw [e1, e2]
      exact sieve_snoc T _ x
theorem sieve_ok {T : List (List Int)} (ok : ∀ x ∈ T, Ok4 x) (srt : T.Pairwise fun x y => HT.lexLt x y = true) : ∀ n, n ≤ T.length →
    (∀ x ∈ sieve [] (T.take n), x ∈ T.take n) ∧ ((sieve [] (T.take n)).Pairwise fun x y => HT.lexLt x y = true) ∧ (∀ x ∈ sieve [] (T.take n), ∀ y ∈ sieve [] (T.take n), le4 x y = true → x = y) ∧ (∀ x, UpS (sieve [] (T.take n)) x ↔ UpS (T.take n) x)
  | 0, _ => by
    rw [List.take_zero]
    exact ⟨fun x h => h, List.Pairwise.nil, fun x h => (nomatch h), fun x => Iff.rfl⟩
  | n + 1, hn => by
    obtain ⟨i1, i2, i3, i4⟩ := sieve_ok ok srt n (by omega)
    obtain ⟨x, hx⟩ : ∃ x, T[n]? = some x := ⟨_, List.getElem?_eq_getElem hn⟩
    have et : T.take (n + 1) = T.take n ++ [x] := by rw [List.take_succ, hx]; rfl
    have before : ∀ y ∈ T.take n, HT.lexLt y x = true := fun y hy => by
      have s := srt.sublist (List.take_sublist (n + 1) T)
      rw [et] at s
      exact (List.pairwise_append.mp s).2.2 y hy x (List.mem_singleton.mpr rfl)
    rw [et, sieve_snoc]
    by_cases c : anyLe x (sieve [] (T.take n)) = true
    · rw [if_pos c]
      refine ⟨fun y hy => List.mem_append_left _ (i1 y hy), i2, i3, fun y => ⟨fun h => ?_, fun h => ?_⟩⟩
      · obtain ⟨z, hz, e⟩ := (i4 y).mp h
        exact ⟨z, List.mem_append_left _ hz, e⟩
      · obtain ⟨z, hz, e⟩ := h
        rcases List.mem_append.mp hz with hz | hz
        · exact (i4 y).mpr ⟨z, hz, e⟩
        · rw [List.mem_singleton.mp hz] at e
          exact (anyLe_iff.mp c).mono e
    · rw [if_neg c]
      have no : ∀ y ∈ sieve [] (T.take n), ¬ le4 y x = true := fun y hy e => c (anyLe_iff.mpr ⟨y, hy, e⟩)
      refine ⟨fun y hy => ?_, List.pairwise_append.mpr ⟨i2, List.pairwise_singleton _ _, fun y hy z hz => ?_⟩, fun y hy z hz e => ?_, fun y => ⟨fun h => ?_, fun h => ?_⟩⟩
      · rcases List.mem_append.mp hy with hy | hy
        · exact List.mem_append_left _ (i1 y hy)
        · exact List.mem_append_right _ hy
      · rw [List.mem_singleton.mp hz]
        exact before y (i1 y hy)
      · rcases List.mem_append.mp hy with hy | hy
        · rcases List.mem_append.mp hz with hz | hz
          · exact i3 y hy z hz e
          · rw [List.mem_singleton.mp hz] at e
            exact absurd e (no y hy)
        · rw [List.mem_singleton.mp hy] at e ⊢
          rcases List.mem_append.mp hz with hz | hz
          · have a := le4_lex e
            rw [before z (i1 z hz)] at a
            cases a
          · exact (List.mem_singleton.mp hz).symm
      · obtain ⟨z, hz, e⟩ := h
        rcases List.mem_append.mp hz with hz | hz
        · obtain ⟨u, hu, e2⟩ := (i4 y).mp ⟨z, hz, e⟩
          exact ⟨u, List.mem_append_left _ hu, e2⟩
        · exact ⟨z, List.mem_append_right _ hz, e⟩
      · obtain ⟨z, hz, e⟩ := h
        rcases List.mem_append.mp hz with hz | hz
        · obtain ⟨u, hu, e2⟩ := (i4 y).mpr ⟨z, hz, e⟩
          exact ⟨u, List.mem_append_left _ hu, e2⟩
        · exact ⟨z, List.mem_append_right _ hz, e⟩
theorem sieve_len : ∀ (T found : List (List Int)), (sieve found T).length ≤ found.length + T.length
  | [], _ => Nat.le_refl _
  | x :: T, found => by
    simp only [sieve]
    split
    · have := sieve_len T found
      rw [List.length_cons]
      omega
    · have := sieve_len T (found ++ [x])
      rw [List.length_append, List.length_singleton] at this
      rw [List.length_cons]
      omega
theorem sieve_canon {T : List (List Int)} (ok : ∀ x ∈ T, Ok4 x) (srt : T.Pairwise fun x y => HT.lexLt x y = true) : Canon (sieve [] T) (UpS T) := by
  obtain ⟨i1, i2, i3, i4⟩ := sieve_ok ok srt T.length (Nat.le_refl _)
  rw [List.take_length] at i1 i2 i3 i4
  exact ⟨fun x hx => ok x (i1 x hx), i2, i3, fun x _ => i4 x⟩
/-! ### what a way needs, what covers both -/
def need4 (w s : List Int) : List Int := List.zipWith (fun x y => max 0 (y - x)) w s
def join4 (x y : List Int) : List Int := List.zipWith max x y
def add4 (x w : List Int) : List Int := List.zipWith (· + ·) x w
theorem need4_ok {w s : List Int} (hw : w.length = 4) (hs : Ok4 s) : Ok4 (need4 w s) := by
  obtain ⟨a, b, c, d, rfl, _⟩ := hs
  match w, hw with
  | [e, f, g, h], _ => exact ⟨max 0 (a - e), max 0 (b - f), max 0 (c - g), max 0 (d - h), rfl, by omega, by omega, by omega, by omega⟩
theorem join4_ok {x y : List Int} (hx : Ok4 x) (hy : Ok4 y) : Ok4 (join4 x y) := by
  obtain ⟨a, b, c, d, rfl, _⟩ := hx
  obtain ⟨e, f, g, h, rfl, _⟩ := hy
  exact ⟨max a e, max b f, max c g, max d h, rfl, by omega, by omega, by omega, by omega⟩
theorem join4_le {x y z : List Int} (hx : Ok4 x) (hy : Ok4 y) (hz : Ok4 z) : le4 (join4 x y) z = true ↔ le4 x z = true ∧ le4 y z = true := by
  obtain ⟨a, b, c, d, rfl, _⟩ := hx
  obtain ⟨e, f, g, h, rfl, _⟩ := hy
  obtain ⟨i, j, k, l, rfl, _⟩ := hz
  show le4 [max a e, max b f, max c g, max d h] [i, j, k, l] = true ↔ _
  rw [le4_iff, le4_iff, le4_iff]
  omega
/-- x covers what the way w needs for s just where w leads from x to what covers s -/
theorem need4_le {w s x : List Int} (hw : w.length = 4) (hs : Ok4 s) (hx : Ok4 x) : le4 (need4 w s) x = true ↔ Ok4 (add4 x w) ∧ le4 s (add4 x w) = true := by
  obtain ⟨a, b, c, d, rfl, _⟩ := hs
  obtain ⟨i, j, k, l, rfl, _⟩ := hx
  match w, hw with
  | [e, f, g, h], _ =>
    show le4 [max 0 (a - e), max 0 (b - f), max 0 (c - g), max 0 (d - h)] [i, j, k, l] = true ↔ Ok4 [i + e, j + f, k + g, l + h] ∧ le4 [a, b, c, d] [i + e, j + f, k + g, l + h] = true
    rw [le4_iff, le4_iff]
    constructor
    · intro z
      exact ⟨⟨_, _, _, _, rfl, by omega, by omega, by omega, by omega⟩, by omega⟩
    · rintro ⟨_, z⟩
      omega
/-- the ones of A that cover one of B, and joined ones of the others -/
def bothL (A B : List (List Int)) : List (List Int) := A.flatMap fun s => if anyLe s B then [s] else B.map (join4 s)
theorem bothL_ok {A B : List (List Int)} (hA : ∀ x ∈ A, Ok4 x) (hB : ∀ x ∈ B, Ok4 x) : ∀ x ∈ bothL A B, Ok4 x := fun x hx => by
  obtain ⟨s, hs, h⟩ := List.mem_flatMap.mp hx
  split at h
  · rw [List.mem_singleton.mp h]
    exact hA s hs
  · obtain ⟨t, ht, rfl⟩ := List.mem_map.mp h
    exact join4_ok (hA s hs) (hB t ht)
theorem bothL_up {A B : List (List Int)} (hA : ∀ x ∈ A, Ok4 x) (hB : ∀ x ∈ B, Ok4 x) {x : List Int} (hx : Ok4 x) : UpS (bothL A B) x ↔ UpS A x ∧ UpS B x := by
  constructor
  · rintro ⟨y, hy, l⟩
    obtain ⟨s, hs, h⟩ := List.mem_flatMap.mp hy
    split at h
    · rename_i c
      rw [List.mem_singleton.mp h] at l
      exact ⟨⟨s, hs, l⟩, (anyLe_iff.mp c).mono l⟩
    · obtain ⟨t, ht, rfl⟩ := List.mem_map.mp h
      have z := (join4_le (hA s hs) (hB t ht) hx).mp l
      exact ⟨⟨s, hs, z.1⟩, ⟨t, ht, z.2⟩⟩
  · rintro ⟨⟨s, hs, l1⟩, ⟨t, ht, l2⟩⟩
    by_cases c : anyLe s B = true
    · exact ⟨s, List.mem_flatMap.mpr ⟨s, hs, by rw [if_pos c]; exact List.mem_singleton.mpr rfl⟩, l1⟩
    · exact ⟨join4 s t, List.mem_flatMap.mpr ⟨s, hs, by rw [if_neg c]; exact List.mem_map.mpr ⟨t, ht, rfl⟩⟩, (join4_le (hA s hs) (hB t ht) hx).mpr ⟨l1, l2⟩⟩
theorem bothL_len {A B : List (List Int)} : (bothL A B).length ≤ A.length * (B.length + 1) := by
  unfold bothL
  induction A with
  | nil => simp
  | cons s A ih =>
    rw [List.flatMap_cons, List.length_append, List.length_cons, Nat.succ_mul]
    have : (if anyLe s B then [s] else B.map (join4 s)).length ≤ B.length + 1 := by
      split
      · simp
      · simp
    omega
/-! ### how many asks a store lasts -/
abbrev Asks := List (List (List Int))
def LN (asks : Asks) : Nat → List Int → Prop
  | 0, _ => True
  | n + 1, x => ∀ a ∈ asks, ∃ w ∈ a, Ok4 (add4 x w) ∧ LN asks n (add4 x w)
def Nd (asks : Asks) (j : Nat) (a : List (List Int)) (x : List Int) : Prop := ∃ w ∈ a, Ok4 (add4 x w) ∧ LN asks j (add4 x w)
theorem LN.down {asks : Asks} : ∀ {n : Nat} {x : List Int}, LN asks (n + 1) x → LN asks n x
  | 0, _, _ => True.intro
  | _ + 1, _, h => fun a ha => let ⟨w, hw, o, z⟩ := h a ha; ⟨w, hw, o, LN.down z⟩
theorem LN.le {asks : Asks} {n m : Nat} {x : List Int} (h : LN asks m x) (l : n ≤ m) : LN asks n x := by
  induction l with
  | refl => exact h
  | step _ ih => exact ih h.down
/-- from where two are alike all are -/
theorem LN.rest {asks : Asks} {j : Nat} (e : ∀ x, Ok4 x → (LN asks j x ↔ LN asks (j + 1) x)) : ∀ (k : Nat) (x : List Int), Ok4 x → (LN asks j x ↔ LN asks (j + k) x)
  | 0, _, _ => Iff.rfl
  | k + 1, x, hx => by
    refine ((e x hx).trans ⟨fun h a ha => ?_, fun h a ha => ?_⟩)
    · obtain ⟨w, hw, o, z⟩ := h a ha
      exact ⟨w, hw, o, (LN.rest e k _ o).mp z⟩
    · obtain ⟨w, hw, o, z⟩ := h a ha
      exact ⟨w, hw, o, (LN.rest e k _ o).mpr z⟩
theorem ok_zero : Ok4 [0, 0, 0, 0] := ⟨0, 0, 0, 0, rfl, by decide, by decide, by decide, by decide⟩
theorem canon_zero (asks : Asks) : Canon [[0, 0, 0, 0]] (LN asks 0) := by
  refine ⟨fun x hx => by rw [List.mem_singleton.mp hx]; exact ok_zero, List.pairwise_singleton _ _, fun x hx y hy _ => by rw [List.mem_singleton.mp hx, List.mem_singleton.mp hy], fun x hx => ⟨fun _ => True.intro, fun _ => ?_⟩⟩
  obtain ⟨a, b, c, d, rfl, h⟩ := hx
  exact ⟨_, List.mem_singleton.mpr rfl, le4_iff.mpr h⟩
/-- the needs of an ask, from the least ones -/
theorem needs_up {asks : Asks} {j : Nat} {B : List (List Int)} (c : Canon B (LN asks j)) {a : List (List Int)} (hw : ∀ w ∈ a, w.length = 4) {x : List Int} (hx : Ok4 x) :
    UpS (a.flatMap fun w => B.map (need4 w)) x ↔ Nd asks j a x := by
  constructor
  · rintro ⟨y, hy, l⟩
    obtain ⟨w, ha, h⟩ := List.mem_flatMap.mp hy
    obtain ⟨s, hs, rfl⟩ := List.mem_map.mp h
    obtain ⟨o, z⟩ := (need4_le (hw w ha) (c.ok s hs) hx).mp l
    exact ⟨w, ha, o, (c.up _ o).mp ⟨s, hs, z⟩⟩
  · rintro ⟨w, ha, o, z⟩
    obtain ⟨s, hs, l⟩ := (c.up _ o).mpr z
    exact ⟨need4 w s, List.mem_flatMap.mpr ⟨w, ha, List.mem_map.mpr ⟨s, hs, rfl⟩⟩, (need4_le (hw w ha) (c.ok s hs) hx).mpr ⟨o, l⟩⟩
/-- few enough all the way -/
structure Few (asks : Asks) (n m : Nat) : Prop where
  sq : m * (m + 1) < 4096
  fv : m * 5 < 4096
  all : ∀ j, j < n → ∀ as : Asks, (∀ a ∈ as, a ∈ asks) → ∀ M, Canon M (fun x => LN asks j x ∧ ∀ a ∈ as, Nd asks j a x) → M.length ≤ m
  one : ∀ j, j < n → ∀ a ∈ asks, ∀ M, Canon M (Nd asks j a) → M.length ≤ m
/-! ### t[a:b], the whole of t too -/
open HT (sIx)
section
variable {P : Program} {w : World} {A : Around} {E : Value → Shared → Prop} {s : Shared}
theorem tup_whole {t sl : Addr} {items : Array Value} {vl vu : Value} {lo hi : Option Int} {Q : Value → Shared → Prop} (ht : IsTup s.heap t items) (hs : s.heap.IsSliceOf sl vl vu .none) (pl : IsPart vl lo) (pu : IsPart vu hi)
    (w1 : sIx items.size 0 lo = 0) (w2 : sIx items.size items.size hi = items.size) (h : Q (.ref t) s) : wpAny (model P w) A (getItem (.ref t) (.ref sl)) Q E s := by
  obtain ⟨os, hos, hcs, hds⟩ := id hs
  have hTs : s.TypeIs (.ref sl) "slice" := ⟨os, hos, hcs⟩
  unfold getItem
  try with_reducible refine wpAny_holding ?_
  first
    | refine wpAny_bind (wpAny_pure ?_)
    | skip
  refine wpAny_bind (wpAny_sequenceKey ht.typeIs (by decide) (wpAny_bind (wpAny_callSpecial?_slot (name := Str.ofString "__getitem__") ht.typeIs PyProof.Rows.slot_tuple_getitem
    (wpAny_call_entry PyProof.Rows.slot_tuple_getitem ht.typeIs PyProof.Rows.entry_tuple_getitem ?_ (PyProof.Rows.args_tuple_getitem _ _)))))
  show wpAny _ _ (Builtin.Tuple.tupleItemsOf (.ref t) >>= _) _ _ s
  refine wpAny_bind (PyProof.Rows.tupleItemsOf_ ht (wpAny_bind (wpAny_typeOf hTs ?_)))
  rw [if_pos (by decide)]
  refine wpAny_bind (HT.sliceApplied_gen hs pl pu ?_)
  rw [w1, w2]
  show wpAny _ _ (if (((0 : Nat) : Int) == 0 && (1 : Int) == 1 && (items.size - 0) == items.size) = true then _ else _) _ _ s
  rw [if_pos (by simp)]
  unfold Builtin.Tuple.tupleIsExact
  repeat (first
    | exact wpAny_pure ⟨_, rfl, wpAny_pure h⟩
    | (with_reducible refine wpAny_typeOf ht.typeIs ?_)
    | (with_reducible refine wpAny_rule ?_)
    | wp_step)
end
def rSlA (K : PySem.W.Frag) : V → Option Int → Option Int → Hp → VK → Prop := fun x lo hi H Q => ∃ a xs, x = .ref a ∧ SqT K H a xs ∧
  ((sIx xs.length 0 lo = 0 ∧ sIx xs.length xs.length hi = xs.length) → Q (.ref a) H) ∧ (¬ (sIx xs.length 0 lo = 0 ∧ sIx xs.length xs.length hi = xs.length) → ∀ p, H p = none → Q (.ref p) (upd H p (.tup (cutV xs lo hi))))
theorem sl_tupA {X : Cx} : SlR X (rSlA X.K) := by
  intro pins s σ H x v vl vu lo hi sl Q I rx hs pl pu h
  obtain ⟨a, xs, rfl, hx, q1, q2⟩ := h
  by_cases c : sIx xs.length 0 lo = 0 ∧ sIx xs.length xs.length hi = xs.length
  · cases rx
    obtain ⟨its, r, ht, hz⟩ := I.tuple hx
    have hl : its.toArray.size = xs.length := by rw [List.size_toArray]; exact r.length.symm
    exact ⟨"tuple", _, PyProof.Rows.slot_tuple_getitem.lookup, ht.typeIs, tup_whole ht hs pl pu (by rw [hl]; exact c.1) (by rw [hl]; exact c.2) ⟨.ref a, H, I, rfl, q1 c⟩⟩
  · exact sl_tup pins s σ H _ v vl vu lo hi sl Q I rx hs pl pu ⟨a, xs, rfl, hx, c, q2 c⟩
/-! ### what lasts lasts by what it has up to a bound (plain Lean) -/
def clip4 (t x : List Int) : List Int := List.zipWith min t x
theorem add4_le {x y w : List Int} (h : le4 x y = true) (o : Ok4 (add4 x w)) : Ok4 (add4 y w) ∧ le4 (add4 x w) (add4 y w) = true := by
  obtain ⟨a, b, c, d, e, f, g, i, rfl, rfl, p⟩ := le4_len h
  obtain ⟨p1, p2, p3, p4, q, o⟩ := o
  match w, q with
  | [], q => cases q
  | [_], q => cases q
  | [_, _], q => cases q
  | [_, _, _], q => cases q
  | w1 :: w2 :: w3 :: w4 :: r, q =>
    have q' : [a + w1, b + w2, c + w3, d + w4] = [p1, p2, p3, p4] := q
    obtain ⟨q1, q⟩ := List.cons.inj q'
    obtain ⟨q2, q⟩ := List.cons.inj q
    obtain ⟨q3, q⟩ := List.cons.inj q
    obtain ⟨q4, _⟩ := List.cons.inj q
    exact ⟨⟨e + w1, f + w2, g + w3, i + w4, rfl, by omega, by omega, by omega, by omega⟩, show le4 [a + w1, b + w2, c + w3, d + w4] [e + w1, f + w2, g + w3, i + w4] = true from le4_iff.mpr ⟨by omega, by omega, by omega, by omega⟩⟩
theorem LN.mono {asks : Asks} : ∀ {n : Nat} {x y : List Int}, LN asks n x → le4 x y = true → LN asks n y
  | 0, _, _, _, _ => True.intro
  | _ + 1, _, _, h, l => fun a ha => by
    obtain ⟨w, hw, o, z⟩ := h a ha
    obtain ⟨o2, l2⟩ := add4_le l o
    exact ⟨w, hw, o2, z.mono l2⟩
theorem Nd.mono {asks : Asks} {n : Nat} {a : List (List Int)} {x y : List Int} (h : Nd asks n a x) (l : le4 x y = true) : Nd asks n a y := by
  obtain ⟨w, hw, o, z⟩ := h
  obtain ⟨o2, l2⟩ := add4_le l o
  exact ⟨w, hw, o2, z.mono l2⟩
structure Ways4 (asks : Asks) (s1 s2 s3 s4 : Int) : Prop where
  p1 : 0 ≤ s1
  p2 : 0 ≤ s2
  p3 : 0 ≤ s3
  p4 : 0 ≤ s4
  all : ∀ a ∈ asks, ∀ w ∈ a, ∃ e f g h : Int, w = [e, f, g, h] ∧ (-s1 ≤ e ∧ e ≤ s1) ∧ (-s2 ≤ f ∧ f ≤ s2) ∧ (-s3 ≤ g ∧ g ≤ s3) ∧ (-s4 ≤ h ∧ h ≤ s4)
theorem mul_up (s : Int) (n : Nat) : s * ((n + 1 : Nat) : Int) = s * n + s := by rw [Int.natCast_succ, Int.mul_add, Int.mul_one]
theorem nd_clip {asks : Asks} {s1 s2 s3 s4 : Int} (W : Ways4 asks s1 s2 s3 s4) {n : Nat}
    (ih : ∀ {x : List Int} {t1 t2 t3 t4 : Int}, Ok4 x → s1 * n ≤ t1 → s2 * n ≤ t2 → s3 * n ≤ t3 → s4 * n ≤ t4 → LN asks n x → LN asks n (clip4 [t1, t2, t3, t4] x))
    {a : List (List Int)} (ha : a ∈ asks) {x : List Int} {t1 t2 t3 t4 : Int} (hx : Ok4 x) (h1 : s1 * ((n + 1 : Nat) : Int) ≤ t1) (h2 : s2 * ((n + 1 : Nat) : Int) ≤ t2) (h3 : s3 * ((n + 1 : Nat) : Int) ≤ t3) (h4 : s4 * ((n + 1 : Nat) : Int) ≤ t4)
    (h : Nd asks n a x) : Nd asks n a (clip4 [t1, t2, t3, t4] x) := by
  obtain ⟨w, hw, o, z⟩ := h
  obtain ⟨e, f, g, i, rfl, b1, b2, b3, b4⟩ := W.all a ha w hw
  obtain ⟨x1, x2, x3, x4, rfl, o1, o2, o3, o4⟩ := hx
  rw [mul_up] at h1 h2 h3 h4
  have z2 := ih (t1 := t1 - s1) (t2 := t2 - s2) (t3 := t3 - s3) (t4 := t4 - s4) o (by omega) (by omega) (by omega) (by omega) z
  obtain ⟨y1, y2, y3, y4, q, o⟩ := o
  have q' : [x1 + e, x2 + f, x3 + g, x4 + i] = [y1, y2, y3, y4] := q
  obtain ⟨q1, q⟩ := List.cons.inj q'
  obtain ⟨q2, q⟩ := List.cons.inj q
  obtain ⟨q3, q⟩ := List.cons.inj q
  obtain ⟨q4, _⟩ := List.cons.inj q
  have m1 : 0 ≤ s1 * (n : Int) := Int.mul_nonneg W.p1 (by omega)
  have m2 : 0 ≤ s2 * (n : Int) := Int.mul_nonneg W.p2 (by omega)
  have m3 : 0 ≤ s3 * (n : Int) := Int.mul_nonneg W.p3 (by omega)
  have m4 : 0 ≤ s4 * (n : Int) := Int.mul_nonneg W.p4 (by omega)
  refine ⟨_, hw, ⟨min t1 x1 + e, min t2 x2 + f, min t3 x3 + g, min t4 x4 + i, rfl, by omega, by omega, by omega, by omega⟩, z2.mono ?_⟩
  show le4 [min (t1 - s1) (x1 + e), min (t2 - s2) (x2 + f), min (t3 - s3) (x3 + g), min (t4 - s4) (x4 + i)] [min t1 x1 + e, min t2 x2 + f, min t3 x3 + g, min t4 x4 + i] = true
  rw [le4_iff]
  omega
theorem ln_clip {asks : Asks} {s1 s2 s3 s4 : Int} (W : Ways4 asks s1 s2 s3 s4) : ∀ (n : Nat) {x : List Int} {t1 t2 t3 t4 : Int}, Ok4 x → s1 * n ≤ t1 → s2 * n ≤ t2 → s3 * n ≤ t3 → s4 * n ≤ t4 → LN asks n x → LN asks n (clip4 [t1, t2, t3, t4] x)
  | 0, _, _, _, _, _, _, _, _, _, _, _ => True.intro
  | n + 1, _, _, _, _, _, hx, h1, h2, h3, h4, h => fun a ha => nd_clip W (ln_clip W n) ha hx h1 h2 h3 h4 (h a ha)
theorem clip_ok {x : List Int} {t1 t2 t3 t4 : Int} (hx : Ok4 x) (h1 : 0 ≤ t1) (h2 : 0 ≤ t2) (h3 : 0 ≤ t3) (h4 : 0 ≤ t4) : Ok4 (clip4 [t1, t2, t3, t4] x) ∧ le4 (clip4 [t1, t2, t3, t4] x) x = true := by
  obtain ⟨x1, x2, x3, x4, rfl, o1, o2, o3, o4⟩ := hx
  exact ⟨⟨min t1 x1, min t2 x2, min t3 x3, min t4 x4, rfl, by omega, by omega, by omega, by omega⟩, show le4 [min t1 x1, min t2 x2, min t3 x3, min t4 x4] [x1, x2, x3, x4] = true from le4_iff.mpr ⟨by omega, by omega, by omega, by omega⟩⟩
/-- the least ones lie within the bound -/
theorem canon_box {U : List Int → Prop} {M : List (List Int)} (c : Canon M U) {t1 t2 t3 t4 : Int} (h1 : 0 ≤ t1) (h2 : 0 ≤ t2) (h3 : 0 ≤ t3) (h4 : 0 ≤ t4) (cl : ∀ x, Ok4 x → U x → U (clip4 [t1, t2, t3, t4] x)) :
    ∀ x ∈ M, ∃ a b c d : Int, x = [a, b, c, d] ∧ (0 ≤ a ∧ a ≤ t1) ∧ (0 ≤ b ∧ b ≤ t2) ∧ (0 ≤ c ∧ c ≤ t3) ∧ (0 ≤ d ∧ d ≤ t4) := fun x hx => by
  have ox := c.ok x hx
  obtain ⟨ok, l⟩ := clip_ok ox h1 h2 h3 h4
  obtain ⟨y, hy, l2⟩ := (c.up _ ok).mpr (cl x ox ((c.up x ox).mp ⟨x, hx, le4_refl ox⟩))
  have e := c.anti y hy x hx (le4_trans l2 l)
  subst e
  obtain ⟨a, b, cc, d, rfl, o1, o2, o3, o4⟩ := ox
  have q := le4_iff.mp (show le4 [a, b, cc, d] [min t1 a, min t2 b, min t3 cc, min t4 d] = true from l2)
  exact ⟨a, b, cc, d, rfl, by omega, by omega, by omega, by omega⟩
theorem sub_len {α : Type} [BEq α] [LawfulBEq α] : ∀ {l m : List α}, l.Nodup → (∀ x ∈ l, x ∈ m) → l.length ≤ m.length
  | [], _, _, _ => Nat.zero_le _
  | x :: l, m, nd, h => by
    obtain ⟨n1, n2⟩ := List.nodup_cons.mp nd
    have hx := h x List.mem_cons_self
    have := sub_len (m := m.erase x) n2 fun y hy => (List.mem_erase_of_ne fun e => n1 (by rw [← e]; exact hy)).mpr (h y (List.mem_cons_of_mem _ hy))
    rw [List.length_erase_of_mem hx] at this
    have := List.length_pos_of_mem hx
    rw [List.length_cons]
    omega
theorem boxflat_len {α β : Type} {f : α → List β} {q : Nat} (h : ∀ x, (f x).length = q) : ∀ l : List α, (l.flatMap f).length = l.length * q
  | [] => by simp
  | x :: l => by
    rw [List.flatMap_cons, List.length_append, h, boxflat_len h l, List.length_cons, Nat.succ_mul]
    omega
def key2 : List Int → Nat × Nat
  | a :: b :: _ => (a.toNat, b.toNat)
  | _ => (0, 0)
theorem canon_len {U : List Int → Prop} {M : List (List Int)} (c : Canon M U) {t1 t2 t3 : Int} (h1 : 0 ≤ t1) (h2 : 0 ≤ t2) (h3 : 0 ≤ t3) (cl : ∀ x, Ok4 x → U x → U (clip4 [t1, t2, t3, 0] x)) : M.length ≤ (t1.toNat + 1) * (t2.toNat + 1) := by
  have box := canon_box c h1 h2 h3 (Int.le_refl 0) cl
  have nd : (M.map key2).Nodup := by
    have p : M.Pairwise fun x y => key2 x ≠ key2 y := by
      refine List.Pairwise.imp_of_mem (R := fun x y => HT.lexLt x y = true) (fun {x y} hx hy l e => ?_) c.srt
      obtain ⟨a, b, cc, d, rfl, p1, p2, p3, p4⟩ := box x hx
      obtain ⟨a', b', cc', d', rfl, q1, q2, q3, q4⟩ := box y hy
      obtain ⟨e1, e2⟩ := Prod.mk.inj (show (a.toNat, b.toNat) = (a'.toNat, b'.toNat) from e)
      have ea : a = a' := by omega
      have eb : b = b' := by omega
      have ed : d = d' := by omega
      subst ea
      subst eb
      subst ed
      have same : [a, b, cc, d] = [a, b, cc', d] := by
        by_cases z : cc ≤ cc'
        · exact c.anti _ hx _ hy (le4_iff.mpr ⟨Int.le_refl _, Int.le_refl _, z, Int.le_refl _⟩)
        · exact (c.anti _ hy _ hx (le4_iff.mpr ⟨Int.le_refl _, Int.le_refl _, by omega, Int.le_refl _⟩)).symm
      rw [same, lex_irr] at l
      cases l
    exact List.Pairwise.map _ (fun _ _ h => h) p
  have sub := sub_len (m := (List.range (t1.toNat + 1)).flatMap fun a => (List.range (t2.toNat + 1)).map fun b => (a, b)) nd fun k hk => by
    obtain ⟨x, hx, rfl⟩ := List.mem_map.mp hk
    obtain ⟨a, b, cc, d, rfl, p1, p2, p3, p4⟩ := box x hx
    exact List.mem_flatMap.mpr ⟨a.toNat, List.mem_range.mpr (by omega), List.mem_map.mpr ⟨b.toNat, List.mem_range.mpr (by omega), rfl⟩⟩
  rw [boxflat_len (q := t2.toNat + 1) (fun x => by rw [List.length_map, List.length_range]), List.length_map, List.length_range] at sub
  exact sub
theorem few_box {asks : Asks} {s1 s2 s3 t1 t2 t3 : Int} (W : Ways4 asks s1 s2 s3 0) {n m : Nat} (h1 : s1 * n ≤ t1) (h2 : s2 * n ≤ t2) (h3 : s3 * n ≤ t3) (hm : (t1.toNat + 1) * (t2.toNat + 1) ≤ m) (m1 : m * (m + 1) < 4096) (m2 : m * 5 < 4096) : Few asks n m := by
  have nn : ∀ {s : Int} {j : Nat}, 0 ≤ s → 0 ≤ s * (j : Int) := fun h => Int.mul_nonneg h (by omega)
  have up : ∀ {s : Int} {j : Nat}, 0 ≤ s → j < n → s * ((j + 1 : Nat) : Int) ≤ s * n := fun h hj => Int.mul_le_mul_of_nonneg_left (by omega) h
  have up0 : ∀ {s : Int} {j : Nat}, 0 ≤ s → j < n → s * (j : Int) ≤ s * n := fun h hj => Int.mul_le_mul_of_nonneg_left (by omega) h
  have z1 := nn (j := n) W.p1
  have z2 := nn (j := n) W.p2
  have z3 := nn (j := n) W.p3
  have ndc : ∀ j, j < n → ∀ a ∈ asks, ∀ x, Ok4 x → Nd asks j a x → Nd asks j a (clip4 [t1, t2, t3, 0] x) := fun j hj a ha x hx h => by
    have u1 := up W.p1 hj
    have u2 := up W.p2 hj
    have u3 := up W.p3 hj
    exact nd_clip W (ln_clip W j) ha hx (by omega) (by omega) (by omega) (by omega) h
  refine ⟨m1, m2, fun j hj as sub M c => Nat.le_trans (canon_len c (by omega) (by omega) (by omega) fun x hx h => ⟨?_, fun a ha => ndc j hj a (sub a ha) x hx (h.2 a ha)⟩) hm, fun j hj a ha M c => Nat.le_trans (canon_len c (by omega) (by omega) (by omega) (ndc j hj a ha)) hm⟩
  have u1 := up0 W.p1 hj
  have u2 := up0 W.p2 hj
  have u3 := up0 W.p3 hj
  exact ln_clip W j hx (by omega) (by omega) (by omega) (by omega) h.1
/-! ### orders turn nothing (plain Lean) -/
theorem lexLt_code {B : Int} : ∀ {n m : List Int}, n.length = m.length → TS.Bd B n → TS.Bd B m → HT.lexLt n m = true → TS.code B n < TS.code B m
  | [], [], _, _, _, h => by rw [lex_irr] at h; cases h
  | [], _ :: _, hl, _, _, _ => by simp at hl
  | _ :: _, [], hl, _, _, _ => by simp at hl
  | d :: r, e :: q, hl, hn, hm, h => by
    have hl' : r.length = q.length := by simpa using hl
    rw [HT.lexLt_cons] at h
    by_cases c : d = e
    · subst c
      rw [if_pos rfl] at h
      have := lexLt_code hl' hn.tail hm.tail h
      show d * B ^ r.length + TS.code B r < d * B ^ q.length + TS.code B q
      rw [hl']
      omega
    · rw [if_neg c] at h
      exact TS.code_lt hl' hn.tail hm.tail (of_decide_eq_true h)
theorem srt_of_code {B : Int} {d : Nat} {S : List (List Int)} (hd : ∀ x ∈ S, x.length = d ∧ TS.Bd B x) (nd : S.Nodup) (h : S.Pairwise fun x y => TS.code B x ≤ TS.code B y) : S.Pairwise fun x y => HT.lexLt x y = true := by
  refine List.Pairwise.imp_of_mem (R := fun x y => x ≠ y ∧ TS.code B x ≤ TS.code B y) (fun {x y} hx hy z => ?_) (List.pairwise_and_iff.mpr ⟨nd, h⟩)
  obtain ⟨l1, b1⟩ := hd x hx
  obtain ⟨l2, b2⟩ := hd y hy
  rcases lex4_tot (x := x) (y := y) (by rw [l1, l2]) (by
    cases c : HT.lexLt y x with
    | false => rfl
    | true =>
      have := lexLt_code (by rw [l1, l2]) b2 b1 c
      omega) with e | e
  · exact absurd e z.1
  · exact e
theorem nodup_of_srt {S : List (List Int)} (h : S.Pairwise fun x y => HT.lexLt x y = true) : S.Nodup := h.imp fun {x y} l e => by
  rw [e, lex_irr] at l
  cases l
theorem LN.sub {A B : Asks} (h : ∀ b ∈ B, ∃ a ∈ A, ∀ w ∈ a, w ∈ b) : ∀ {n : Nat} {x : List Int}, LN A n x → LN B n x
  | 0, _, _ => True.intro
  | _ + 1, _, z => fun b hb => by
    obtain ⟨a, ha, s⟩ := h b hb
    obtain ⟨w, hw, o, l⟩ := z a ha
    exact ⟨w, s w hw, o, LN.sub h l⟩
/-- in another order -/
def pm (o : List Nat) (x : List Int) : List Int := o.map fun k => x.getD k 0
theorem len4 {x : List Int} (h : x.length = 4) : ∃ a b c d : Int, x = [a, b, c, d] := by
  match x, h with
  | [a, b, c, d], _ => exact ⟨a, b, c, d, rfl⟩
theorem add4_pm (o : List Nat) {x w : List Int} (hx : x.length = 4) (hw : w.length = 4) : add4 (pm o x) (pm o w) = pm o (add4 x w) := by
  obtain ⟨a, b, c, d, rfl⟩ := len4 hx
  obtain ⟨e, f, g, h, rfl⟩ := len4 hw
  unfold add4 pm
  rw [List.zipWith_map_left, List.zipWith_map_right]
  induction o with
  | nil => rfl
  | cons k o ih =>
    rw [List.zipWith_cons_cons, List.map_cons, ih]
    congr 1
    match k with
    | 0 => rfl
    | 1 => rfl
    | 2 => rfl
    | 3 => rfl
    | k + 4 => rfl
structure Ord4 (o : List Nat) : Prop where
  perm : o.Perm (List.range 4)
theorem Ord4.four {o : List Nat} (h : Ord4 o) : ∃ i j k l : Nat, o = [i, j, k, l] ∧ (∀ m, m < 4 ↔ m = i ∨ m = j ∨ m = k ∨ m = l) ∧ i ≠ j ∧ i ≠ k ∧ i ≠ l ∧ j ≠ k ∧ j ≠ l ∧ k ≠ l := by
  have hl := h.perm.length_eq
  have nd := h.perm.nodup_iff.mpr List.nodup_range
  have mem : ∀ m, m < 4 ↔ m ∈ o := fun m => by rw [h.perm.mem_iff, List.mem_range]
  match o, hl, nd, mem with
  | [i, j, k, l], _, nd, mem =>
    refine ⟨i, j, k, l, rfl, fun m => ?_, ?_⟩
    · rw [mem m]
      simp only [List.mem_cons, List.not_mem_nil, or_false]
    · simp only [List.nodup_cons, List.mem_cons, List.not_mem_nil, or_false, not_or] at nd
      exact ⟨nd.1.1, nd.1.2.1, nd.1.2.2, nd.2.1.1, nd.2.1.2, nd.2.2.1⟩
theorem all4 {p : Nat → Prop} {o : List Nat} (h : Ord4 o) {i j k l : Nat} (e : o = [i, j, k, l]) : (p i ∧ p j ∧ p k ∧ p l) ↔ (p 0 ∧ p 1 ∧ p 2 ∧ p 3) := by
  have mem : ∀ m, m ∈ o ↔ m ∈ List.range 4 := fun m => h.perm.mem_iff
  subst e
  constructor
  · rintro ⟨p1, p2, p3, p4⟩
    have all : ∀ m, m ∈ List.range 4 → p m := fun m hm => by
      have := (mem m).mpr hm
      simp only [List.mem_cons, List.not_mem_nil, or_false] at this
      rcases this with rfl | rfl | rfl | rfl
      · exact p1
      · exact p2
      · exact p3
      · exact p4
    exact ⟨all 0 (by decide), all 1 (by decide), all 2 (by decide), all 3 (by decide)⟩
  · rintro ⟨p1, p2, p3, p4⟩
    have all : ∀ m, m ∈ [i, j, k, l] → p m := fun m hm => by
      have := List.mem_range.mp ((mem m).mp hm)
      have : m = 0 ∨ m = 1 ∨ m = 2 ∨ m = 3 := by omega
      rcases this with rfl | rfl | rfl | rfl
      · exact p1
      · exact p2
      · exact p3
      · exact p4
    exact ⟨all i (by simp), all j (by simp), all k (by simp), all l (by simp)⟩
theorem Ord4.ok {o : List Nat} (h : Ord4 o) {x : List Int} (hx : x.length = 4) : Ok4 (pm o x) ↔ Ok4 x := by
  obtain ⟨i, j, k, l, e, _⟩ := h.four
  have q := all4 (p := fun m => 0 ≤ x.getD m 0) h e
  obtain ⟨a, b, c, d, rfl⟩ := len4 hx
  subst e
  constructor
  · rintro ⟨y1, y2, y3, y4, z, o1, o2, o3, o4⟩
    have z' : [([a, b, c, d] : List Int).getD i 0, ([a, b, c, d] : List Int).getD j 0, ([a, b, c, d] : List Int).getD k 0, ([a, b, c, d] : List Int).getD l 0] = [y1, y2, y3, y4] := z
    obtain ⟨q1, z'⟩ := List.cons.inj z'
    obtain ⟨q2, z'⟩ := List.cons.inj z'
    obtain ⟨q3, z'⟩ := List.cons.inj z'
    obtain ⟨q4, _⟩ := List.cons.inj z'
    have r := q.mp ⟨by rw [q1]; exact o1, by rw [q2]; exact o2, by rw [q3]; exact o3, by rw [q4]; exact o4⟩
    exact ⟨a, b, c, d, rfl, r.1, r.2.1, r.2.2.1, r.2.2.2⟩
  · rintro ⟨y1, y2, y3, y4, z, o1, o2, o3, o4⟩
    obtain ⟨q1, z'⟩ := List.cons.inj z
    obtain ⟨q2, z'⟩ := List.cons.inj z'
    obtain ⟨q3, z'⟩ := List.cons.inj z'
    obtain ⟨q4, _⟩ := List.cons.inj z'
    subst q1
    subst q2
    subst q3
    subst q4
    have r := q.mpr ⟨o1, o2, o3, o4⟩
    exact ⟨_, _, _, _, rfl, r.1, r.2.1, r.2.2.1, r.2.2.2⟩
theorem Ord4.le {o : List Nat} (h : Ord4 o) {x y : List Int} (hx : x.length = 4) (hy : y.length = 4) : le4 (pm o x) (pm o y) = true ↔ le4 x y = true := by
  obtain ⟨i, j, k, l, e, _⟩ := h.four
  have q := all4 (p := fun m => x.getD m 0 ≤ y.getD m 0) h e
  obtain ⟨a, b, c, d, rfl⟩ := len4 hx
  obtain ⟨a', b', c', d', rfl⟩ := len4 hy
  subst e
  rw [le4_iff]
  refine Iff.trans ?_ q
  exact le4_iff
theorem pm_len (o : List Nat) (x : List Int) : (pm o x).length = o.length := by
  unfold pm
  rw [List.length_map]
theorem Ord4.len {o : List Nat} (h : Ord4 o) : o.length = 4 := by rw [h.perm.length_eq, List.length_range]
theorem Ord4.onto {o : List Nat} (h : Ord4 o) {x : List Int} (hx : x.length = 4) : ∃ y : List Int, y.length = 4 ∧ pm o y = x := by
  obtain ⟨i, j, k, l, e, m, n1, n2, n3, n4, n5, n6⟩ := h.four
  obtain ⟨a, b, c, d, rfl⟩ := len4 hx
  subst e
  have hi := (m i).mpr (.inl rfl)
  have hj := (m j).mpr (.inr (.inl rfl))
  have hk := (m k).mpr (.inr (.inr (.inl rfl)))
  have hl := (m l).mpr (.inr (.inr (.inr rfl)))
  let f : Nat → Int := fun q => if q = i then a else if q = j then b else if q = k then c else d
  have g : ∀ q, q < 4 → ([f 0, f 1, f 2, f 3] : List Int).getD q 0 = f q := fun q hq => by
    have : q = 0 ∨ q = 1 ∨ q = 2 ∨ q = 3 := by omega
    rcases this with rfl | rfl | rfl | rfl <;> rfl
  refine ⟨[f 0, f 1, f 2, f 3], rfl, ?_⟩
  show [([f 0, f 1, f 2, f 3] : List Int).getD i 0, ([f 0, f 1, f 2, f 3] : List Int).getD j 0, ([f 0, f 1, f 2, f 3] : List Int).getD k 0, ([f 0, f 1, f 2, f 3] : List Int).getD l 0] = [a, b, c, d]
  rw [g i hi, g j hj, g k hk, g l hl]
  have e1 : f i = a := if_pos rfl
  have e2 : f j = b := by show (if j = i then a else if j = j then b else _) = b; rw [if_neg (fun z => n1 z.symm), if_pos rfl]
  have e3 : f k = c := by show (if k = i then a else if k = j then b else if k = k then c else d) = c; rw [if_neg (fun z => n2 z.symm), if_neg (fun z => n4 z.symm), if_pos rfl]
  have e4 : f l = d := by show (if l = i then a else if l = j then b else if l = k then c else d) = d; rw [if_neg (fun z => n3 z.symm), if_neg (fun z => n5 z.symm), if_neg (fun z => n6 z.symm)]
  rw [e1, e2, e3, e4]
theorem ln_pm {o : List Nat} (h : Ord4 o) {A : Asks} (hA : ∀ a ∈ A, ∀ w ∈ a, w.length = 4) : ∀ (n : Nat) {x : List Int}, x.length = 4 → (LN (A.map fun a => a.map (pm o)) n (pm o x) ↔ LN A n x)
  | 0, _, _ => Iff.rfl
  | n + 1, x, hx => by
    have al : ∀ {w : List Int}, w.length = 4 → (add4 x w).length = 4 := fun {w} hw => by
      unfold add4
      rw [List.length_zipWith, hx, hw]
      rfl
    constructor
    · intro z a ha
      obtain ⟨w', hw', ok, l⟩ := z _ (List.mem_map.mpr ⟨a, ha, rfl⟩)
      obtain ⟨w, hw, rfl⟩ := List.mem_map.mp hw'
      have w4 := hA a ha w hw
      rw [add4_pm o hx w4] at ok l
      exact ⟨w, hw, (h.ok (al w4)).mp ok, (ln_pm h hA n (al w4)).mp l⟩
    · intro z a' ha'
      obtain ⟨a, ha, rfl⟩ := List.mem_map.mp ha'
      obtain ⟨w, hw, ok, l⟩ := z a ha
      have w4 := hA a ha w hw
      refine ⟨pm o w, List.mem_map.mpr ⟨w, hw, rfl⟩, ?_⟩
      rw [add4_pm o hx w4]
      exact ⟨(h.ok (al w4)).mpr ok, (ln_pm h hA n (al w4)).mpr l⟩
theorem ok_len {x : List Int} (h : Ok4 x) : x.length = 4 := by
  obtain ⟨a, b, c, d, rfl, _⟩ := h
  rfl
theorem canon_pm {o : List Nat} (h : Ord4 o) {A : Asks} (hA : ∀ a ∈ A, ∀ w ∈ a, w.length = 4) {n : Nat} {M S : List (List Int)} (c : Canon M (LN A n)) (hS : S.Perm (M.map (pm o))) (srt : S.Pairwise fun x y => HT.lexLt x y = true) :
    Canon S (LN (A.map fun a => a.map (pm o)) n) := by
  have mem : ∀ {x}, x ∈ S → ∃ y ∈ M, pm o y = x := fun {x} hx => List.mem_map.mp (hS.mem_iff.mp hx)
  refine ⟨fun x hx => ?_, srt, fun x hx y hy l => ?_, fun x hx => ?_⟩
  · obtain ⟨y, hy, rfl⟩ := mem hx
    exact (h.ok (ok_len (c.ok y hy))).mpr (c.ok y hy)
  · obtain ⟨x', hx', rfl⟩ := mem hx
    obtain ⟨y', hy', rfl⟩ := mem hy
    rw [c.anti x' hx' y' hy' ((h.le (ok_len (c.ok x' hx')) (ok_len (c.ok y' hy'))).mp l)]
  · obtain ⟨y, y4, rfl⟩ := h.onto (ok_len hx)
    have oy := (h.ok y4).mp hx
    rw [ln_pm h hA n y4, ← c.up y oy]
    constructor
    · rintro ⟨z, hz, l⟩
      obtain ⟨z', hz', rfl⟩ := mem hz
      exact ⟨z', hz', (h.le (ok_len (c.ok z' hz')) y4).mp l⟩
    · rintro ⟨z, hz, l⟩
      exact ⟨pm o z, hS.mem_iff.mpr (List.mem_map.mpr ⟨z, hz, rfl⟩), (h.le (ok_len (c.ok z hz)) y4).mpr l⟩
/-! ### t + u and t[a:b] of tuples, told by what stands behind -/
theorem same_new {H : Hp} {p : Addr} {o : HO} (h : H p = none) : Same H (upd H p o) := fun b x e => by
  rw [upd_ne (ne_of_none e h)]
  exact e
def rCatN (K : PySem.W.Frag) : R2 := fun x y H Q => ∃ a b xs ys, x = .ref a ∧ y = .ref b ∧ SqT K H a xs ∧ SqT K H b ys ∧ xs.length + ys.length ≤ sizeLine ∧ ∀ c H', Same H H' → SqT K H' c (xs ++ ys) → Q (.ref c) H'
theorem op_catN {X : Cx} : OpR X (binaryOp .Add) (rCatN X.K) := by
  intro pins s σ H x y v u Q I rx ry h
  obtain ⟨a, b, xs, ys, rfl, rfl, ha, hb, hz, q⟩ := h
  refine L2.op_catA pins s σ H _ _ v u Q I rx ry ⟨a, b, xs, ys, rfl, rfl, ha, hb, hz, fun e => ?_, fun _ e => ?_, fun _ _ p np => ?_⟩
  · subst e
    exact q b H (Same.refl H) hb
  · subst e
    exact q a H (Same.refl H) (by rw [List.append_nil]; exact ha)
  · exact q p _ (same_new np) (SqT.of upd_same)
def rSlN (K : PySem.W.Frag) : V → Option Int → Option Int → Hp → VK → Prop := fun x lo hi H Q => ∃ a xs, x = .ref a ∧ SqT K H a xs ∧ ∀ c H', Same H H' → SqT K H' c (cutV xs lo hi) → Q (.ref c) H'
theorem sl_tupN {X : Cx} : SlR X (rSlN X.K) := by
  intro pins s σ H x v vl vu lo hi sl Q I rx hs pl pu h
  obtain ⟨a, xs, rfl, hx, q⟩ := h
  refine My.sl_tupA pins s σ H _ v vl vu lo hi sl Q I rx hs pl pu ⟨a, xs, rfl, hx, fun c => q a H (Same.refl H) ?_, fun c p np => q p _ (same_new np) (SqT.of upd_same)⟩
  unfold cutV
  rw [c.1, c.2, List.drop_zero, Nat.sub_zero, List.take_length]
  exact hx
theorem cut_from {l : List Int} {k : Nat} (h : k ≤ l.length) : cutV (l.map V.int) (some (k : Int)) none = (l.drop k).map V.int := by
  unfold cutV
  rw [show HT.sIx (l.map V.int).length 0 (some (k : Int)) = min k (l.map V.int).length from HT.sIx_nat _ _ k, HT.sIx_none, List.length_map, Nat.min_eq_left h, ← List.map_drop, ← List.map_take, List.take_of_length_le (by rw [List.length_drop]; omega)]
theorem cut_to {l : List Int} {k : Nat} (h : k ≤ l.length) : cutV (l.map V.int) none (some (k : Int)) = (l.take k).map V.int := by
  unfold cutV
  rw [show HT.sIx (l.map V.int).length (l.map V.int).length (some (k : Int)) = min k (l.map V.int).length from HT.sIx_nat _ _ k, HT.sIx_none, List.map_take, List.drop_zero, Nat.sub_zero, Nat.min_eq_left (by rw [List.length_map]; exact h)]
end My
namespace My
open PySem PySem.Spec PyProof.Rows L2
open C8 (pss_cut)
open RZ (pi_zipA for_zipL for_zipT)
def topS (i : Nat) : Stmt := PySem.Challenge.pw_everstock_k75_whole_more_is_never_worse.main.body.getD i (.Pass ⟨0, 0, 0, 0⟩)
/-! ### the pen: what the drawing defs keep -/
def sOpen : Stmt := topS 49
def sSpread : Stmt := topS 50
def sTake : Stmt := topS 51
/-- all that was there but the one at p is as it was -/
def Kp (p : Addr) (H H' : Hp) : Prop := ∀ b o, H b = some o → b ≠ p → H' b = some o
theorem Kp.refl (p : Addr) (H : Hp) : Kp p H H := fun _ _ e _ => e
theorem Kp.trans {p : Addr} {H H1 H2 : Hp} (a : Kp p H H1) (b : Kp p H1 H2) : Kp p H H2 := fun c o e n => b c o (a c o e n) n
theorem Kp.same {p : Addr} {H H1 H2 : Hp} (a : Kp p H H1) (b : Same H1 H2) : Kp p H H2 := fun c o e n => b c o (a c o e n)
theorem _root_.L2.Same.kp {p : Addr} {H H1 : Hp} (a : Same H H1) : Kp p H H1 := fun c o e _ => a c o e
theorem same_upd {H : Hp} {p : Addr} {o : HO} (h : H p = none) : Same H (upd H p o) := fun b x e => by
  rw [upd_ne (ne_of_none e h)]
  exact e
theorem kp_upd (p : Addr) (H : Hp) (o : HO) : Kp p H (upd H p o) := fun b x e n => by
  rw [upd_ne n]
  exact e
/-- the pen at p: its cells' list at c, at most n cells taken -/
structure Pen (H : Hp) (p c : Addr) (ns : List Int) (n : Nat) : Prop where
  pe : ∃ at_ left : Int, H p = some (.lst [.ref c, .int at_, .int left]) ∧ 0 ≤ at_ ∧ at_ ≤ (n : Int) ∧ 0 ≤ left
  ce : H c = some (.lst (ns.map V.int))
theorem Pen.ne {H : Hp} {p c : Addr} {ns : List Int} {n : Nat} (h : Pen H p c ns n) : c ≠ p := by
  obtain ⟨⟨a, l, h1, _⟩, h2⟩ := h
  intro e
  subst e
  rw [h1] at h2
  cases ns with
  | nil => cases h2
  | cons x r => cases h2
theorem Pen.same {H H' : Hp} {p c : Addr} {ns : List Int} {n : Nat} (h : Pen H p c ns n) (s : Same H H') : Pen H' p c ns n := by
  obtain ⟨⟨a, l, h1, h3⟩, h2⟩ := h
  exact ⟨⟨a, l, s _ _ h1, h3⟩, s _ _ h2⟩
theorem Pen.mono {H : Hp} {p c : Addr} {ns : List Int} {n m : Nat} (h : Pen H p c ns n) (hn : n ≤ m) : Pen H p c ns m := by
  obtain ⟨⟨a, l, h1, h3, h4, h5⟩, h2⟩ := h
  exact ⟨⟨a, l, h1, h3, by omega, h5⟩, h2⟩
/-- at most so many cells are taken in all -/
def penMost : Nat := 1000000
def spOpen (K : PySem.W.Frag) : Sp := fun vs H Q _ => ∃ (a : Addr) (ns : List Int), vs = [.ref a] ∧ SqL K H a (ns.map V.int) ∧ ns.length ≤ 63 ∧
  ∀ H' p c ms, Same H H' → Pen H' p c ms 0 → H p = none → Q (.ref p) H'
def spSpread : Sp := fun vs H Q _ => ∃ (cell at_ : Int), vs = [.int cell, .int at_] ∧ 0 ≤ at_ ∧ at_ ≤ 1000000 ∧ ∀ r H', 0 ≤ r → Same H H' → Q (.int r) H'
def spTake : Sp := fun vs H Q _ => ∃ (p c : Addr) (ns : List Int) (n : Nat) (m : Int), vs = [.ref p, .int m] ∧ Pen H p c ns n ∧ n < penMost ∧ 1 ≤ m ∧ m < 1000000000 ∧
  ∀ r H', 0 ≤ r → r < m → Kp p H H' → Pen H' p c ns (n + 1) → Q (.int r) H'
theorem at_ints {ns : List Int} {k : Int} (h0 : 0 ≤ k) (h1 : k < ns.length) : ∃ z, atI (ns.map V.int) k = some (.int z) := by
  obtain ⟨j, rfl⟩ : ∃ j : Nat, k = (j : Int) := ⟨k.toNat, by omega⟩
  have hj : j < ns.length := by omega
  exact ⟨ns[j], atI_nat (by rw [List.getElem?_map, List.getElem?_eq_getElem hj] <;> rfl)⟩
theorem ixN_of {n : Nat} {k : Int} (h0 : 0 ≤ k) (h1 : k < n) : ixN n k = some k.toNat := by
  unfold ixN
  rw [if_pos h0, if_pos h1]
theorem ints_get {ns : List Int} {i : Nat} {v : V} (h : (ns.map V.int)[i]? = some v) : ∃ z, ns[i]? = some z ∧ v = .int z := by
  rw [List.getElem?_map] at h
  cases e : ns[i]? with
  | none =>
    rw [e] at h
    cases h
  | some z =>
    rw [e] at h
    exact ⟨z, rfl, (Option.some.inj h).symm⟩
theorem cut_ints (ns : List Int) (lo hi : Option Int) : ∃ ms : List Int, cutV (ns.map V.int) lo hi = ms.map V.int ∧ ms.length ≤ ns.length := by
  unfold cutV
  refine ⟨(ns.drop (HT.sIx (ns.map V.int).length 0 lo)).take (HT.sIx (ns.map V.int).length (ns.map V.int).length hi - HT.sIx (ns.map V.int).length 0 lo), ?_, ?_⟩
  · rw [List.map_take, List.map_drop]
  · rw [List.length_take, List.length_drop]
    omega
theorem cut12 (ns : List Int) : cutV (ns.map V.int) none (some 12) = (ns.take 12).map V.int := by
  unfold cutV
  rw [show HT.sIx (ns.map V.int).length (ns.map V.int).length (some 12) = min 12 (ns.map V.int).length from HT.sIx_nat _ _ 12, HT.sIx_none, List.map_take, List.drop_zero, Nat.sub_zero]
  by_cases h : 12 ≤ (ns.map V.int).length
  · rw [Nat.min_eq_left h]
  · rw [Nat.min_eq_right (by omega), List.take_length, List.take_of_length_le (by omega)]
theorem cut1263 (ns : List Int) (h : ns.length ≤ 12) : cutV (ns.map V.int) (some 12) (some 63) = [] := by
  unfold cutV
  rw [show HT.sIx (ns.map V.int).length 0 (some 12) = min 12 (ns.map V.int).length from HT.sIx_nat _ _ 12, Nat.min_eq_right (by rw [List.length_map]; exact h), List.drop_length, List.take_nil]
/-- the divisors of the spreading -/
def prL : List V := [V.int 2147483629, V.int 2147483587, V.int 2147483579, V.int 2147483563, V.int 2147483549, V.int 2147483543, V.int 2147483497, V.int 2147483489] ++
  [V.int 2147483477, V.int 2147483423, V.int 2147483399, V.int 2147483353, V.int 2147483323]
theorem pr_at : ∀ j : Nat, j < 13 → ∃ q : Int, prL[j]? = some (.int q) ∧ 0 < q ∧ q < 2147483648
  | 0, _ => ⟨_, rfl, by decide, by decide⟩ | 1, _ => ⟨_, rfl, by decide, by decide⟩ | 2, _ => ⟨_, rfl, by decide, by decide⟩ | 3, _ => ⟨_, rfl, by decide, by decide⟩
  | 4, _ => ⟨_, rfl, by decide, by decide⟩ | 5, _ => ⟨_, rfl, by decide, by decide⟩ | 6, _ => ⟨_, rfl, by decide, by decide⟩ | 7, _ => ⟨_, rfl, by decide, by decide⟩
  | 8, _ => ⟨_, rfl, by decide, by decide⟩ | 9, _ => ⟨_, rfl, by decide, by decide⟩ | 10, _ => ⟨_, rfl, by decide, by decide⟩ | 11, _ => ⟨_, rfl, by decide, by decide⟩
  | 12, _ => ⟨_, rfl, by decide, by decide⟩ | n + 13, h => absurd h (by omega)
theorem pr_mod (k : Int) : ∃ q : Int, atI prL (k % 13) = some (.int q) ∧ 0 < q ∧ q < 2147483648 := by
  have h0 := Int.emod_nonneg k (by decide : (13 : Int) ≠ 0)
  have h1 := Int.emod_lt_of_pos k (by decide : (0 : Int) < 13)
  obtain ⟨q, e, a, b⟩ := pr_at (k % 13).toNat (by omega)
  have e2 : k % 13 = ((k % 13).toNat : Int) := by omega
  rw [e2]
  exact ⟨q, atI_nat e, a, b⟩
theorem abs64 {x : Int} (h0 : 0 ≤ x) (h : x < 18446744073709551616) : x.natAbs < 2 ^ 64 := by
  have : (2 : Nat) ^ 64 = 18446744073709551616 := by decide
  omega
theorem mul_le_mul' {a b c d : Int} (ha : 0 ≤ a) (hb : a ≤ c) (hc : 0 ≤ b) (hd : b ≤ d) : a * b ≤ c * d :=
  Int.le_trans (Int.mul_le_mul_of_nonneg_right hb hc) (Int.mul_le_mul_of_nonneg_left hd (Int.le_trans ha hb))
section
variable {P : Program} {w : World} {K : PySem.W.Frag} {mg : Str → Option Value} {base : Heap}
theorem scSpread : FnScope ["cell", "at", "primes", "one", "two", "three"] ["cell", "at"] (defScope sSpread) := ⟨rfl, rfl, rfl, by decide +kernel, rfl, by decide +kernel, by decide +kernel⟩

theorem ok_spread {f : Addr} {fd : FuncData} {k : Nat} (F : Fun K "_law_spread" "_law_spread" sSpread f fd) : FnOk P w K mg base CX0 (k + 1) f fd ["cell", "at"] spSpread := by
  refine F.ok scSpread (fun vs H Q E h => ?_) (fun cdv A outer s H vs Q E hr h => ?_)
  · obtain ⟨cell, at_, rfl, _⟩ := h
    rfl
  · obtain ⟨cell, a, rfl, ha0, ha1, q⟩ := h
    refine ⟨_, pss_cons (ps_if (pt_cmpR op_ge (pv 0) (pe_op op_pow pe_int pe_int) (nomark _)) (pss_one (ps_ret (pv 0))) pss_nil)
      (pss_cons (ps_set (i := 2) scSpread.nd rfl (.inl rfl) (pe_lst (pa_cons pe_int (pa_cons pe_int (pa_cons pe_int (pa_cons pe_int (pa_cons pe_int (pa_cons pe_int (pa_cons pe_int (pa_cons pe_int pa_nil))))))))))
      (pss_cons (ps_set (i := 2) scSpread.nd rfl (.inl rfl) (pe_op op_cat (pv 2) (pe_lst (pa_cons pe_int (pa_cons pe_int (pa_cons pe_int (pa_cons pe_int (pa_cons pe_int pa_nil))))))))
      (pss_cons (ps_set (i := 3) scSpread.nd rfl (.inl rfl) (pe_op op_mod (pe_op op_pow (pe_op op_add (pe_op op_add (pe_op op_mul (pe_op op_mod (pv 0) pe_int) (pe_op op_add (pe_op op_mul pe_int (pv 1)) pe_int)) (pe_op op_mul (pv 1) pe_int)) pe_int) pe_int) (pe_ix ix_list (pv 2) (pe_op op_mod (pv 1) pe_int) (fun _ _ => rfl))))
      (pss_cons (ps_set (i := 4) scSpread.nd rfl (.inl rfl) (pe_op op_mod (pe_op op_pow (pe_op op_add (pe_op op_add (pe_op op_mul (pv 3) (pe_op op_add (pv 1) pe_int)) (pe_op op_mod (pv 0) pe_int)) pe_int) pe_int) (pe_ix ix_list (pv 2) (pe_op op_mod (pe_op op_add (pv 1) pe_int) pe_int) (fun _ _ => rfl))))
      (pss_cons (ps_set (i := 5) scSpread.nd rfl (.inl rfl) (pe_op op_mod (pe_op op_pow (pe_op op_add (pe_op op_add (pv 4) (pe_op op_mod (pv 3) pe_int)) (pv 1)) pe_int) (pe_ix ix_list (pv 2) (pe_op op_mod (pe_op op_add (pv 1) pe_int) pe_int) (fun _ _ => rfl))))
      (pss_one (ps_ret (pe_op op_add (pe_op op_mul (pe_op op_add (pe_op op_mul (pv 3) pe_int) (pv 4)) pe_int) (pv 5))))))))), ?_⟩
    -- cell >= 10 ** 18
    refine ⟨_, rfl, 10, 18, rfl, rfl, ⟨by decide, by decide, by decide⟩, _, _, rfl, rfl, _, rfl, ?_⟩
    refine ite2 (fun hc => ?_) (fun _ => ?_)
    · refine ⟨_, rfl, q _ _ ?_ (Same.refl H)⟩
      have hc' := of_decide_eq_true hc
      exact Int.le_trans (by decide) hc'
    · -- primes
      refine ⟨by show 8 ≤ sizeLine; decide, fun p1 n1 => ?_⟩
      refine ⟨_, rfl, by show 5 ≤ sizeLine; decide, fun p2 n2 => ?_⟩
      have n12 : p1 ≠ p2 := ne_of_none (upd_same (H := H)) n2
      refine ⟨p1, p2, _, _, rfl, rfl, (by rw [upd_ne n12]; exact upd_same), upd_same, by show 13 ≤ sizeLine; decide, fun p3 n3 => ?_⟩
      have s1 := same_upd (o := .lst [V.int 2147483629, V.int 2147483587, V.int 2147483579, V.int 2147483563, V.int 2147483549, V.int 2147483543, V.int 2147483497, V.int 2147483489]) n1
      have s2 := same_upd (o := .lst [V.int 2147483477, V.int 2147483423, V.int 2147483399, V.int 2147483353, V.int 2147483323]) n2
      have s3 := (s1.trans s2).trans (same_upd (o := .lst prL) n3)
      have hL : SqL K (upd (upd (upd H p1 (.lst [V.int 2147483629, V.int 2147483587, V.int 2147483579, V.int 2147483563, V.int 2147483549, V.int 2147483543, V.int 2147483497, V.int 2147483489])) p2 (.lst [V.int 2147483477, V.int 2147483423, V.int 2147483399, V.int 2147483353, V.int 2147483323])) p3 (.lst prL)) p3 prL := SqL.of upd_same
      -- one
      have c0 := Int.emod_nonneg cell (by decide : (1000000007 : Int) ≠ 0)
      have c1 := Int.emod_lt_of_pos cell (by decide : (0 : Int) < 1000000007)
      refine ⟨_, rfl, cell, 1000000007, rfl, rfl, (by show (0 : Int) < 1000000007; decide), _, rfl, 2, a, rfl, rfl, .inl ⟨by decide, by decide⟩, _, _, rfl, rfl, _, _, rfl, rfl, .inr ⟨by omega, by omega⟩, _, rfl, _, _, rfl, rfl, .inr ⟨by decide, by decide⟩, _, _, rfl, rfl, _, _, rfl, rfl, ?_⟩
      have b0 : 0 ≤ cell % 1000000007 * (2 * a + 69069) := Int.mul_nonneg c0 (by omega)
      have b1 : cell % 1000000007 * (2 * a + 69069) ≤ 1000000007 * 2069069 := mul_le_mul' c0 (by omega) (by omega) (by omega)
      dsimp only
      generalize e1 : cell % 1000000007 * (2 * a + 69069) + a * 40503 + 977 = one
      have o0 : 0 ≤ one := by omega
      have o1 : one < 18446744073709551616 := by omega
      clear e1 b0 b1
      -- one ** 3 % primes[at % 13]
      obtain ⟨q1, i1, q10, q11⟩ := pr_mod a
      refine ⟨one, 3, rfl, rfl, ⟨by decide, by decide, abs64 o0 o1⟩, _, rfl, _, rfl, a, 13, rfl, rfl, (by show (0 : Int) < 13; decide), p3, prL, _, _, rfl, rfl, hL, i1, _, q1, rfl, rfl, q10, ?_⟩
      have w0 := Int.emod_nonneg (one ^ (3 : Int).toNat) (Int.ne_of_gt q10)
      have w1 := Int.emod_lt_of_pos (one ^ (3 : Int).toNat) q10
      dsimp only
      generalize e2 : one ^ (3 : Int).toNat % q1 = on2 at w0 w1 ⊢
      clear e2
      -- two
      obtain ⟨q2, i2, q20, q21⟩ := pr_mod (a + 5)
      have d0 := Int.emod_nonneg cell (by decide : (65537 : Int) ≠ 0)
      have d1 := Int.emod_lt_of_pos cell (by decide : (0 : Int) < 65537)
      have f0 : 0 ≤ on2 * (a + 3) := Int.mul_nonneg w0 (by omega)
      have f1 : on2 * (a + 3) ≤ 2147483648 * 1000003 := mul_le_mul' w0 (by omega) (by omega) (by omega)
      refine ⟨_, rfl, _, rfl, a, 3, rfl, rfl, on2, _, rfl, rfl, .inl ⟨by omega, by omega⟩, _, rfl, cell, 65537, rfl, rfl, (by show (0 : Int) < 65537; decide), _, _, rfl, rfl, _, _, rfl, rfl, _, 5, rfl, rfl, ⟨by decide, by decide, abs64 (by omega) (by omega)⟩, _, rfl, _, rfl, a, 5, rfl, rfl, _, 13, rfl, rfl, (by show (0 : Int) < 13; decide), p3, prL, _, _, rfl, rfl, hL, i2, _, q2, rfl, rfl, q20, ?_⟩
      have x0 := Int.emod_nonneg ((on2 * (a + 3) + cell % 65537 + 5) ^ (5 : Int).toNat) (Int.ne_of_gt q20)
      have x1 := Int.emod_lt_of_pos ((on2 * (a + 3) + cell % 65537 + 5) ^ (5 : Int).toNat) q20
      dsimp only
      generalize e3 : (on2 * (a + 3) + cell % 65537 + 5) ^ (5 : Int).toNat % q2 = two at x0 x1 ⊢
      clear e3
      -- three
      obtain ⟨q3, i3, q30, q31⟩ := pr_mod (a + 7)
      have g0 := Int.emod_nonneg on2 (by decide : (1009 : Int) ≠ 0)
      have g1 := Int.emod_lt_of_pos on2 (by decide : (0 : Int) < 1009)
      refine ⟨_, rfl, _, rfl, on2, 1009, rfl, rfl, (by show (0 : Int) < 1009; decide), _, _, rfl, rfl, _, rfl, _, _, rfl, rfl, _, 3, rfl, rfl, ⟨by decide, by decide, abs64 (by omega) (by omega)⟩, _, rfl, _, rfl, a, 7, rfl, rfl, _, 13, rfl, rfl, (by show (0 : Int) < 13; decide), p3, prL, _, _, rfl, rfl, hL, i3, _, q3, rfl, rfl, q30, ?_⟩
      have y0 := Int.emod_nonneg ((two + on2 % 1009 + a) ^ (3 : Int).toNat) (Int.ne_of_gt q30)
      dsimp only
      generalize e4 : (two + on2 % 1009 + a) ^ (3 : Int).toNat % q3 = three at y0 ⊢
      clear e4
      refine ⟨_, rfl, on2, 2147483647, rfl, rfl, .inr ⟨by decide, by decide⟩, _, rfl, _, _, rfl, rfl, _, 2147483647, rfl, rfl, .inr ⟨by decide, by decide⟩, _, rfl, _, _, rfl, rfl, ?_⟩
      refine q _ _ ?_ s3
      have z1 : 0 ≤ on2 * 2147483647 := Int.mul_nonneg w0 (by decide)
      have z2 : 0 ≤ (on2 * 2147483647 + two) * 2147483647 := Int.mul_nonneg (by omega) (by decide)
      omega
theorem scOpen : FnScope ["script", "cells", "k", "cell"] ["script"] (defScope sOpen) := ⟨rfl, rfl, rfl, by decide +kernel, rfl, by decide +kernel, by decide +kernel⟩
theorem ok_open {f : Addr} {fd : FuncData} {k : Nat} (F : Fun K "_law_open" "_law_open" sOpen f fd) (ml : mg "list" = none) (me : mg "enumerate" = none) : FnOk P w K mg base CX0 (k + 1) f fd ["script"] (spOpen K) := by
  refine F.ok scOpen (fun vs H Q E h => ?_) (fun cdv A outer s H vs Q E hr h => ?_)
  · obtain ⟨a, ns, rfl, _⟩ := h
    rfl
  · obtain ⟨a, ns, rfl, hS, hlen, q⟩ := h
    refine ⟨_, pss_cons (ps_set (i := 1) scOpen.nd rfl (.inl rfl) (pe_callTy call_list_of (by rfl) ml (by decide +kernel) (pa_cons (pe_slice sl_list (pv 0) po_none (po_some pe_int)) pa_nil)))
      (pss_cons (ps_for PassesOwn.never rfl (pi_enum (by rfl) me (pa_cons (pe_slice sl_list (pv 0) (po_some pe_int) (po_some pe_int)) pa_nil))
          (pg_tup rfl (pgs_cons (pg_name (i := 2) scOpen.nd rfl (.inl rfl)) (pgs_cons (pg_name (i := 3) scOpen.nd rfl (.inl rfl)) pgs_nil)))
          (pss_one (ps_asg (pe_op op_add (pe_ix ix_list (pv 1) (pe_op op_mod (pv 2) pe_int) (fun _ _ => rfl)) (pv 3)) (pg_sub (pv 1) (pe_op op_mod (pv 2) pe_int) set_list))))
      (pss_one (ps_ret (pe_lst (pa_cons (pv 1) (pa_cons pe_int (pa_cons pe_int pa_nil))))))), ?_⟩
    -- cells = list(script[:12])
    refine ⟨_, rfl, 12, rfl, a, _, rfl, hS, fun p1 n1 => ?_⟩
    rw [cut12]
    have s1 := same_upd (o := .lst ((ns.take 12).map V.int)) n1
    refine ⟨p1, _, rfl, .inl (SqL.of upd_same), fun c nc => ?_⟩
    have s2 := s1.trans (same_upd (o := .lst ((ns.take 12).map V.int)) nc)
    have nHc : H c = none := s1.free nc
    -- enumerate(script[12:63])
    refine ⟨_, rfl, 12, rfl, 63, rfl, a, _, rfl, s2.seq hS, fun p2 n2 => ?_⟩
    obtain ⟨ms, em, hm⟩ : ∃ ms : List Int, cutV (ns.map V.int) (some 12) (some 63) = ms.map V.int ∧ (ms = [] ∨ 12 ≤ ns.length) := by
      by_cases h : 12 ≤ ns.length
      · obtain ⟨ms, e, _⟩ := cut_ints ns (some 12) (some 63)
        exact ⟨ms, e, .inr h⟩
      · exact ⟨[], cut1263 ns (by omega), .inl rfl⟩
    rw [em]
    have s3 := s2.trans (same_upd (o := .lst (ms.map V.int)) n2)
    have ncp2 : c ≠ p2 := ne_of_none (upd_same) n2
    refine ⟨p2, ms.map V.int, rfl, SqL.of upd_same, ?_⟩
    refine for_it (walk_enum (K := K) (a := p2) (xs := ms.map V.int)) (fun i σ H2 => ∃ (y2 y3 : Option V) (cs : List Int), σ = [some (.ref a), some (.ref c), y2, y3] ∧ Same H H2 ∧ H2 c = some (.lst (cs.map V.int)) ∧ H2 p2 = some (.lst (ms.map V.int)) ∧ cs.length = min 12 ns.length)
      ⟨none, none, ns.take 12, rfl, s3, ?_, upd_same, by rw [List.length_take]⟩ ?_ ?_ ?_
    · rw [upd_ne ncp2, upd_same]
    · rintro i σ H2 _ ⟨_, _, _, _, _, _, h2, _⟩
      exact SqL.of h2
    · rintro i x σ H2 H3 hi ⟨y2, y3, cs, rfl, sm, hc, hp, hl⟩ ⟨T, x1, x2, rfl, nT, rfl, f1, f2⟩
      have f1 := Option.some.inj f1
      subst f1
      obtain ⟨z, hz, rfl⟩ := ints_get f2
      have hne : 12 ≤ ns.length := by
        rcases hm with rfl | h
        · simp at hz
        · exact h
      rw [Nat.min_eq_left hne] at hl
      have ncT : c ≠ T := ne_of_none hc nT
      have npT : p2 ≠ T := ne_of_none hp nT
      have h0 := Int.emod_nonneg (i : Int) (by decide : (12 : Int) ≠ 0)
      have h1 := Int.emod_lt_of_pos (i : Int) (by decide : (0 : Int) < 12)
      obtain ⟨u, hu⟩ := at_ints (ns := cs) h0 (by omega)
      have hcT : ∀ o, (upd H2 T o) c = some (.lst (cs.map V.int)) := fun o => by
        rw [upd_ne ncT]
        exact hc
      refine ⟨T, _, rfl, SqT.of upd_same, rfl, _, _, rfl, _, _, rfl, rfl, ?_⟩
      refine ⟨_, rfl, _, rfl, i, 12, rfl, rfl, (by show (0 : Int) < 12; decide), c, _, _, _, rfl, rfl, SqL.of (hcT _), hu, _, rfl, u, z, rfl, rfl, ?_⟩
      refine ⟨_, rfl, _, rfl, i, 12, rfl, rfl, (by show (0 : Int) < 12; decide), c, _, _, _, rfl, rfl, hcT _, ixN_of h0 (by rw [List.length_map]; omega), ?_⟩
      refine ⟨_, _, cs.set ((i : Int) % 12).toNat (u + z), rfl, fun b o e => ?_, ?_, ?_, ?_⟩
      · rw [upd_ne (ne_of_none e nHc), upd_ne (ne_of_none (sm _ _ e) nT)]
        exact sm _ _ e
      · rw [upd_same, List.map_set]
      · rw [upd_ne (Ne.symm ncp2), upd_ne npT]
        exact hp
      · rw [List.length_set]
        omega
    · rintro σ H2 ⟨y2, y3, cs, rfl, sm, hc, hp, hl⟩
      refine ⟨_, rfl, by show 3 ≤ sizeLine; decide, fun p np => ?_⟩
      have s4 := same_upd (o := .lst [V.ref c, V.int 0, V.int 0]) np
      exact q _ p c cs (sm.trans s4) ⟨⟨0, 0, upd_same, by omega, by omega, by omega⟩, s4 _ _ hc⟩ (sm.free np)
theorem scTake : FnScope ["pen", "amount", "at", "cell", "found"] ["pen", "amount"] (defScope sTake) := ⟨rfl, rfl, rfl, by decide +kernel, rfl, by decide +kernel, by decide +kernel⟩
theorem ok_take {f fS : Addr} {fd fdS : FuncData} {k : Nat} (F : Fun K "_law_take" "_law_take" sTake f fd) (FS : Fun K "_law_spread" "_law_spread" sSpread fS fdS) (bS : Binds K fdS ["cell", "at"] []) (gS : mg "_law_spread" = some (.ref fS)) (ml : mg "len" = none) :
    FnOk P w K mg base CX0 (k + 2) f fd ["pen", "amount"] spTake := by
  have GS : FnOk P w K mg base CX0 (k + 1) fS fdS ["cell", "at"] spSpread := ok_spread FS
  refine F.ok scTake (fun vs H Q E h => ?_) (fun cdv A outer s H vs Q E hr h => ?_)
  · obtain ⟨p, c, ns, n, m, rfl, _⟩ := h
    rfl
  · obtain ⟨p, c, ns, n, m, rfl, hP, hn, m0, m1, q⟩ := h
    have hn' : (n : Int) < 1000000 := by unfold penMost at hn; omega
    have hcp := hP.ne
    obtain ⟨⟨at_, left, hp, a0, a1, l0⟩, hc⟩ := hP
    have SP : ∀ {H1 : Hp} {xs : List V}, H1 p = some (.lst xs) → SqL K H1 p xs := fun h => SqL.of h
    refine ⟨_, pss_cut (ps_if (pt_cmpR op_lt (pe_ix ix_list (pv 0) pe_int (fun _ _ => rfl)) (pv 1) (nomark _))
        (pss_cons (ps_set (i := 2) scTake.nd rfl (.inl rfl) (pe_ix ix_list (pv 0) pe_int (fun _ _ => rfl)))
        (pss_cons (ps_set (i := 3) scTake.nd rfl (.inl rfl) pe_int)
        (pss_cut (ps_if (pt_cmpR op_lt (pv 2) (pe_callB call_len_seq (by rfl) ml PySem.boot_len (pa_cons (pe_ix ix_list (pv 0) pe_int (fun _ _ => rfl)) pa_nil)) (nomark _))
            (pss_one (ps_set (i := 3) scTake.nd rfl (.inl rfl) (pe_ix ix_list (pe_ix ix_list (pv 0) pe_int (fun _ _ => rfl)) (pv 2) (fun _ _ => rfl))))
            (pss_one (ps_if (pt_cmpR op_gt (pe_callB call_len_seq (by rfl) ml PySem.boot_len (pa_cons (pe_ix ix_list (pv 0) pe_int (fun _ _ => rfl)) pa_nil)) pe_int (nomark _))
              (pss_one (ps_set (i := 3) scTake.nd rfl (.inl rfl) (pe_op op_mod (pe_ix ix_list (pe_ix ix_list (pv 0) pe_int (fun _ _ => rfl)) (pe_op op_mod (pe_op op_add (pe_op op_mul (pv 2) pe_int) pe_int) (pe_callB call_len_seq (by rfl) ml PySem.boot_len (pa_cons (pe_ix ix_list (pv 0) pe_int (fun _ _ => rfl)) pa_nil))) (fun _ _ => rfl))
                (pe_op op_add (pe_op op_pow pe_int pe_int) (pv 2))))) pss_nil)))
        (pss_cons (ps_asg (pe_op op_add (pv 2) pe_int) (pg_sub (pv 0) pe_int set_list))
        (pss_one (ps_asg (pe_call GS hr (by rfl) gS FS.kp bS .nil pass0 (pa_cons (pv 3) (pa_cons (pv 2) pa_nil))) (pg_sub (pv 0) pe_int set_list)))))))
        pss_nil)
      (pss_cons (ps_set (i := 4) scTake.nd rfl (.inl rfl) (pe_op op_mod (pe_ix ix_list (pv 0) pe_int (fun _ _ => rfl)) (pv 1)))
      (pss_cons (ps_asg (pe_op op_fdiv (pe_ix ix_list (pv 0) pe_int (fun _ _ => rfl)) (pv 1)) (pg_sub (pv 0) pe_int set_list))
      (pss_one (ps_ret (pv 4))))), ?_⟩
    -- behind the if: the pen's list again
    refine ⟨fun σ H1 => ∃ (y2 y3 y4 : Option V) (at1 l1 : Int), σ = [some (.ref p), some (.int m), y2, y3, y4] ∧ Kp p H H1 ∧ H1 p = some (.lst [.ref c, .int at1, .int l1]) ∧ 0 ≤ at1 ∧ at1 ≤ (n : Int) + 1 ∧ 0 ≤ l1, ?_, ?_⟩
    · refine ⟨_, rfl, p, _, 2, .int left, rfl, rfl, SP hp, atI_nat (j := 2) rfl, _, rfl, left, m, rfl, rfl, _, rfl, ?_⟩
      refine ite2 (fun hlt => ?_) (fun _ => ?_)
      · refine ⟨_, rfl, p, _, 1, .int at_, rfl, rfl, SP hp, atI_nat (j := 1) rfl, ?_⟩
        -- the cell
        refine ⟨fun σ H1 => H1 = H ∧ ∃ (z : Int) (y4 : Option V), σ = [some (.ref p), some (.int m), some (.int at_), some (.int z), y4], ?_, ?_⟩
        · refine ⟨_, rfl, _, rfl, p, _, 0, .ref c, rfl, rfl, SP hp, atI_nat (j := 0) rfl, c, _, rfl, .inl (SqL.of hc), at_, _, rfl, rfl, _, rfl, ?_⟩
          refine ite2 (fun h1 => ?_) (fun h1 => ?_)
          · have h1 := of_decide_eq_true h1
            rw [List.length_map] at h1
            obtain ⟨z, hz⟩ := at_ints (ns := ns) a0 h1
            exact ⟨_, rfl, p, _, 0, .ref c, rfl, rfl, SP hp, atI_nat (j := 0) rfl, _, rfl, c, _, at_, _, rfl, rfl, SqL.of hc, hz, rfl, z, _, rfl⟩
          · refine ⟨_, rfl, p, _, 0, .ref c, rfl, rfl, SP hp, atI_nat (j := 0) rfl, c, _, rfl, .inl (SqL.of hc), _, 0, rfl, rfl, _, rfl, ?_⟩
            refine ite2 (fun h2 => ?_) (fun h2 => ?_)
            · have h2 := of_decide_eq_true h2
              rw [List.length_map] at h2
              have k0 := Int.emod_nonneg (at_ * 5 + 3) (Int.ne_of_gt h2)
              have k1 := Int.emod_lt_of_pos (at_ * 5 + 3) h2
              obtain ⟨z, hz⟩ := at_ints (ns := ns) k0 k1
              refine ⟨_, rfl, p, _, 0, .ref c, rfl, rfl, SP hp, atI_nat (j := 0) rfl, _, rfl, at_, 5, rfl, rfl, .inr ⟨by decide, by decide⟩, _, 3, rfl, rfl, _, rfl, p, _, 0, .ref c, rfl, rfl, SP hp, atI_nat (j := 0) rfl, c, _, rfl, .inl (SqL.of hc), _, _, rfl, rfl, by rw [List.length_map]; exact h2, c, _, _, _, rfl, rfl, SqL.of hc, by rw [List.length_map]; exact hz, 10, 17, rfl, rfl, ⟨by decide, by decide, by decide⟩, _, rfl, _, at_, rfl, rfl, z, _, rfl, rfl, ?_, rfl, _, _, rfl⟩
              have : (0 : Int) < 10 ^ (17 : Int).toNat := by decide
              show (0 : Int) < 10 ^ (17 : Int).toNat + at_
              omega
            · exact ⟨rfl, 0, _, rfl⟩
        · rintro σ H1 ⟨rfl, z, y4, rfl⟩
          refine ⟨_, rfl, at_, 1, rfl, rfl, _, rfl, p, _, 1, 1, rfl, rfl, hp, rfl, ?_⟩
          refine ⟨_, rfl, _, rfl, z, at_, rfl, a0, by omega, fun r H2 r0 s2 => ?_⟩
          have hp2 := s2 _ _ (upd_same (H := H1) (a := p) (o := .lst ([V.ref c, V.int at_, V.int left].set 1 (V.int (at_ + 1)))))
          refine ⟨_, rfl, p, _, 2, 2, rfl, rfl, hp2, rfl, ?_⟩
          refine ⟨_, _, _, at_ + 1, r, rfl, ?_, upd_same, by omega, by omega, r0⟩
          exact ((kp_upd p H1 _).same s2).trans (kp_upd p H2 _)
      · exact ⟨_, _, _, at_, left, rfl, Kp.refl p H, hp, a0, by omega, l0⟩
    · rintro σ H1 ⟨y2, y3, y4, at1, l1, rfl, kp, h1, b0, b1, c0⟩
      refine ⟨_, rfl, p, _, 2, .int l1, rfl, rfl, SP h1, atI_nat (j := 2) rfl, _, rfl, l1, m, rfl, rfl, by show (0 : Int) < m; omega, ?_⟩
      refine ⟨_, rfl, p, _, 2, .int l1, rfl, rfl, SP h1, atI_nat (j := 2) rfl, _, rfl, l1, m, rfl, rfl, ⟨by omega, by omega⟩, _, rfl, p, _, 2, 2, rfl, rfl, h1, rfl, ?_⟩
      refine ⟨_, rfl, q _ _ (Int.emod_nonneg l1 (by omega)) (Int.emod_lt_of_pos l1 (by omega)) (kp.trans (kp_upd p H1 _)) ⟨⟨at1, l1 / m, upd_same, b0, by omega, Int.ediv_nonneg c0 (by omega)⟩, ?_⟩⟩
      rw [upd_ne hcp]
      exact kp _ _ hc hcp
end
/-! ### data that stands -/
theorem _root_.L2.Same.seqT {K : PySem.W.Frag} {H H' : Hp} {a : Addr} {xs : List V} (e : Same H H') (h : SqT K H a xs) : SqT K H' a xs := by
  rcases h with (h | ⟨o, h⟩) | h
  · exact .inl (.inl (e _ _ h))
  · exact .inl (.inr ⟨o, e _ _ h⟩)
  · exact .inr h
mutual
theorem dp_same {K : PySem.W.Frag} {H H' : Hp} (s : Same H H') : ∀ {v : V} {d : PyData}, Dp K H v d → Dp K H' v d
  | _, _, .non => .non
  | _, _, .bl b => .bl b
  | _, _, .int i => .int i
  | _, _, .str x => .str x
  | _, _, .lst q r => .lst (s.seq q) (dpAll_same s r)
  | _, _, .tup q r => .tup (s.seqT q) (dpAll_same s r)
theorem dpAll_same {K : PySem.W.Frag} {H H' : Hp} (s : Same H H') : ∀ {v : List V} {d : List PyData}, DpAll K H v d → DpAll K H' v d
  | _, _, .nil => .nil
  | _, _, .cons q r => .cons (dp_same s q) (dpAll_same s r)
end
/- data without a list in it -/
mutual
def noL : PyData → Bool
  | .list _ => false
  | .tuple ds => noLAll ds
  | _ => true
def noLAll : List PyData → Bool
  | [] => true
  | d :: ds => noL d && noLAll ds
end
theorem Kp.seqT {K : PySem.W.Frag} {p a : Addr} {H H' : Hp} {l xs : List V} (e : Kp p H H') (hp : H p = some (.lst l)) (h : SqT K H a xs) : SqT K H' a xs := by
  rcases h with (h | ⟨o, h⟩) | h
  · exact .inl (.inl (e _ _ h fun z => by rw [z, hp] at h; cases h))
  · exact .inl (.inr ⟨o, e _ _ h fun z => by rw [z, hp] at h; cases h⟩)
  · exact .inr h
mutual
theorem dp_kp {K : PySem.W.Frag} {p : Addr} {H H' : Hp} {l : List V} (s : Kp p H H') (hp : H p = some (.lst l)) : ∀ {v : V} {d : PyData}, Dp K H v d → noL d = true → Dp K H' v d
  | _, _, .non, _ => .non
  | _, _, .bl b, _ => .bl b
  | _, _, .int i, _ => .int i
  | _, _, .str x, _ => .str x
  | _, _, .lst q r, h => by simp [noL] at h
  | _, _, .tup q r, h => .tup (s.seqT hp q) (dpAll_kp s hp r (by simpa [noL] using h))
theorem dpAll_kp {K : PySem.W.Frag} {p : Addr} {H H' : Hp} {l : List V} (s : Kp p H H') (hp : H p = some (.lst l)) : ∀ {v : List V} {d : List PyData}, DpAll K H v d → noLAll d = true → DpAll K H' v d
  | _, _, .nil, _ => .nil
  | _, _, .cons q r, h => by
    simp only [noLAll, Bool.and_eq_true] at h
    exact .cons (dp_kp s hp q h.1) (dpAll_kp s hp r h.2)
end
theorem dpAll_len {K : PySem.W.Frag} {H : Hp} : ∀ {vs : List V} {ds : List PyData}, DpAll K H vs ds → vs.length = ds.length
  | _, _, .nil => rfl
  | _, _, .cons _ r => by rw [List.length_cons, List.length_cons, dpAll_len r]
theorem dpAll_get {K : PySem.W.Frag} {H : Hp} : ∀ {vs : List V} {ds : List PyData} {i : Nat} {v : V}, DpAll K H vs ds → vs[i]? = some v → ∃ d, ds[i]? = some d ∧ Dp K H v d
  | _, _, _, _, .nil, h => by simp at h
  | _, _, 0, _, .cons q r, h => by
    simp at h
    subst h
    exact ⟨_, rfl, q⟩
  | _, _, i + 1, v, .cons q r, h => by
    obtain ⟨d, h1, h2⟩ := dpAll_get (i := i) (v := v) r (by simpa using h)
    exact ⟨d, by simpa using h1, h2⟩
theorem dpAll_getD {K : PySem.W.Frag} {H : Hp} : ∀ {vs : List V} {ds : List PyData} {i : Nat} {d : PyData}, DpAll K H vs ds → ds[i]? = some d → ∃ v, vs[i]? = some v ∧ Dp K H v d
  | _, _, _, _, .nil, h => by simp at h
  | _, _, 0, _, .cons q r, h => by
    simp at h
    subst h
    exact ⟨_, rfl, q⟩
  | _, _, i + 1, v, .cons q r, h => by
    obtain ⟨d, h1, h2⟩ := dpAll_getD (i := i) (d := v) r (by simpa using h)
    exact ⟨d, by simpa using h1, h2⟩
theorem dpAll_app {K : PySem.W.Frag} {H : Hp} : ∀ {vs ws : List V} {ds es : List PyData}, DpAll K H vs ds → DpAll K H ws es → DpAll K H (vs ++ ws) (ds ++ es)
  | _, _, _, _, .nil, s => s
  | _, _, _, _, .cons q r, s => .cons q (dpAll_app r s)
theorem dpAll_ints {K : PySem.W.Frag} {H : Hp} : ∀ (ns : List Int), DpAll K H (ns.map V.int) (ns.map PyData.int)
  | [] => .nil
  | _ :: r => .cons (.int _) (dpAll_ints r)
theorem dpAll_bls {K : PySem.W.Frag} {H : Hp} : ∀ (ns : List Bool), DpAll K H (ns.map V.bl) (ns.map PyData.bool)
  | [] => .nil
  | _ :: r => .cons (.bl _) (dpAll_bls r)
theorem ints_of_dp {K : PySem.W.Frag} {H : Hp} : ∀ {vs : List V} {ns : List Int}, DpAll K H vs (ns.map PyData.int) → vs = ns.map V.int
  | _, [], .nil => rfl
  | _, _ :: _, .cons q r => by
    cases q
    rw [ints_of_dp r] <;> rfl
theorem tyx_l {K : PySem.W.Frag} {H : Hp} {a : Addr} {xs : List V} (h : SqL K H a xs) : TyX K H (.ref a) (.type "list") := by
  rcases h with (h | ⟨o, h⟩) | ⟨o, its, n, h, hc, _⟩
  · exact .base (.lst h)
  · exact .base (.frz h)
  · exact .kList h hc
theorem tyx_t {K : PySem.W.Frag} {H : Hp} {a : Addr} {xs : List V} (h : SqT K H a xs) : TyX K H (.ref a) (.type "tuple") := by
  rcases h with (h | ⟨o, h⟩) | ⟨o, its, n, h, hc, _⟩
  · exact .base (.tup h)
  · exact .fTuple h
  · exact .kTuple h hc
theorem walk_zipT {K : PySem.W.Frag} {a b : Addr} {xs ys : List V} {n : Nat} (hn : n = min xs.length ys.length) : Walk (RZ.ItzT K a b) n (fun H => SqT K H a xs ∧ SqT K H b ys) (YPair (fun i => xs[i]?) (fun i => ys[i]?)) := by
  subst hn
  refine ⟨fun i _ hi q => ?_, fun _ q => ⟨xs, ys, q.1, q.2, by omega⟩, fun i H v H' _ q y => ?_⟩
  · have h1 : i < xs.length := by omega
    have h2 : i < ys.length := by omega
    exact ⟨xs, ys, xs[i], ys[i], q.1, q.2, by simp [h1], by simp [h2]⟩
  · obtain ⟨T, x, z, h1, h2, h3, h4, h5⟩ := y
    exact ⟨T, x, z, h1, h2, h3, h4 xs q.1, h5 ys q.2⟩
/-! ### alike -/
/- data of so many levels, no list of it too long -/
mutual
def okD : Nat → PyData → Bool
  | 0, _ => false
  | _ + 1, .none => true
  | _ + 1, .bool _ => true
  | _ + 1, .int _ => true
  | _ + 1, .str _ => true
  | n + 1, .list ds => decide (ds.length ≤ 1000000) && okAll n ds
  | n + 1, .tuple ds => decide (ds.length ≤ 1000000) && okAll n ds
  | _ + 1, _ => false
def okAll : Nat → List PyData → Bool
  | _, [] => true
  | n, d :: ds => okD n d && okAll n ds
end
theorem okAll_get : ∀ {n : Nat} {ds : List PyData} {i : Nat} {d : PyData}, okAll n ds = true → ds[i]? = some d → okD n d = true
  | _, [], _, _, _, h => by simp at h
  | n, a :: r, 0, d, o, h => by
    simp at h
    subst h
    simp only [okAll, Bool.and_eq_true] at o
    exact o.1
  | n, a :: r, i + 1, d, o, h => by
    simp only [okAll, Bool.and_eq_true] at o
    exact okAll_get (i := i) o.2 (by simpa using h)
theorem okAll_of : ∀ {n : Nat} {ds : List PyData}, (∀ d ∈ ds, okD n d = true) → okAll n ds = true
  | _, [], _ => rfl
  | n, a :: r, h => by
    simp only [okAll, Bool.and_eq_true]
    exact ⟨h a List.mem_cons_self, okAll_of fun d hd => h d (List.mem_cons_of_mem _ hd)⟩
def spSame (K : PySem.W.Frag) (n : Nat) : Sp := fun vs H Q _ => ∃ (x y : V) (d : PyData), vs = [x, y] ∧ Dp K H x d ∧ Dp K H y d ∧ okD n d = true ∧ ∀ H', Same H H' → Q (.bl true) H'
theorem inV_rep : ∀ n : Nat, inV (.bl false) (List.replicate n (V.bl true)) = false
  | 0 => rfl
  | n + 1 => by
    rw [List.replicate_succ]
    exact inV_rep n
theorem flat_rep : ∀ n : Nat, (List.replicate n (V.bl true)).all flatV = true
  | 0 => rfl
  | n + 1 => by
    rw [List.replicate_succ]
    exact flat_rep n
theorem ifT {c : Bool} {A B : Prop} (h : c = true) (a : A) : if c = true then A else B := by
  rw [if_pos h]
  exact a
theorem ifF {c : Bool} {A B : Prop} (h : c = false) (b : B) : if c = true then A else B := by
  rw [h, if_neg Bool.false_ne_true]
  exact b
/-! ### what is shown (repr) asks that no showing is under way: a def's promise where the guards are known to be none -/
def Around.calmG (A : Around) : Prop := A.guards = some []
structure FnG (P : Program) (w : World) (K : PySem.W.Frag) (mg : Str → Option Value) (base : Heap) (k : Nat) (f : Addr) (fd : FuncData) (ps : List Str) (sp : Sp) : Prop where
  len : ∀ vs H Q E, sp vs H Q E → vs.length = ps.length
  run : ∀ (A : Around), Around.calmG A → Room k A → ∀ (outer : List Env) (s : Shared) (H : Hp) (args : Args) (us : List Value) (vs : List V) (Q : VK) (E : XK),
    Env0 P w K mg base A outer s H → BindsTo s fd args (ps.zip us) → Vals vs us → sp vs H Q E → codeAny (model P w) A (.call (.ref f) args) (CR CX0 outer P w H s Q E) s
section
variable {P : Program} {w : World} {K : PySem.W.Frag} {mg : Str → Option Value} {base : Heap}
theorem fnG_of_ok {k : Nat} {f : Addr} {fd : FuncData} {ps : List Str} {sp : Sp} (F : FnOk P w K mg base CX0 k f fd ps sp) : FnG P w K mg base k f fd ps sp :=
  ⟨F.len, fun A _ r outer s H args us vs Q E => F.run A outer s H args us vs Q E r⟩
theorem FnG.mono {j k : Nat} {f : Addr} {fd : FuncData} {ps : List Str} {sp : Sp} (F : FnG P w K mg base j f fd ps sp) (h : j ≤ k) : FnG P w K mg base k f fd ps sp :=
  ⟨F.len, fun A g r => F.run A g (r.mono h)⟩
/-- a body walked where no showing is under way -/
theorem fnG_body {x qual : Str} {st : Stmt} {f : Addr} {fd : FuncData} {N ps : List Str} {k : Nat} {sp : Sp} (F : Fun K x qual st f fd) (S : FnScope N ps (defScope st)) (len : ∀ vs H Q E, sp vs H Q E → vs.length = ps.length)
    (walk : ∀ (cdv : Value) (A : Around), Around.calmG A → ∀ (outer : List Env) (s : Shared) (H : Hp) (vs : List V) (Q : VK) (E : XK), Room k (A.deeper (envOfC qual (defScope st) s.heap.objs.size f cdv)) → sp vs H Q E →
      ∃ t, PSs (cxOf CX0 P w K mg base N qual (defScope st) f cdv A outer s H E).nox (defBody st) t ∧ t { nx := fun _ H' => Q .non H', rt := Q } (start N vs) H) :
    FnG P w K mg base (k + 1) f fd ps sp := by
  refine ⟨len, fun A g room outer s H args us vs Q E at0 bnd vals wants => ?_⟩
  obtain ⟨oc, od, kV, doc, pm, an, cdv, ct, osl, rfl, there, code⟩ := F.ex
  have sizes := len _ _ _ _ wants
  have inK : K.In s.heap := at0.mod.kin.keeps fun b o q => (at0.bs b o q).1
  have noLim : s.heap.NoLimit := at0.mod.nolimit.keeps fun b o q => (at0.bs b o q).1
  have params : ∀ y ∈ ps.zip us, (defScope st).names.lookup y.1 = some .local ∨ ((defScope st).names.lookup y.1 = some .cell ∧ ((cellsFrom (s.heap.objs.size + 1) (defScope st).names []).lookup y.1).isSome = true) := by
    rintro ⟨n, v⟩ hy
    have hn : n ∈ ps := (List.of_mem_zip hy).1
    exact (S.par n hn).imp id fun q => ⟨q, PySem.W.cellsFrom_some _ _ _ (.inl q)⟩
  refine codeAny_call_function room.depth (inK _ _ there) rfl S.co S.gen rfl (PySem.W.codeRec_of inK code) (bnd _ _ _ _ (wpAny_newFunctionEnv_cells S.kind params fun env eqv s1 inside => ?_))
  subst eqv
  obtain ⟨t, good, reads⟩ := walk cdv A g outer s H vs Q E (room.deeper _) wants
  have inv : Inv (cxOf CX0 P w K mg base N qual (defScope st) f cdv A outer s H E) [] (start N vs) H s1 := inv_start S room.hd at0 sizes vals inside
  refine ⟨noLim.keeps inside.toInCall.keep, codeAny_func (wpAny_mono (good.nox.run [] s1 (start N vs) H _ inv reads) (fun ends s' after => ?_) fun _ _ bad => bad)⟩
  cases ends with
  | ret u =>
    obtain ⟨v, σ', H', J, rv, q⟩ := after
    exact ⟨v, H', J.os, J.bare, J.base, J.hok, rv, q⟩
  | next =>
    obtain ⟨σ', H', J, q⟩ := after
    exact ⟨.non, H', J.os, J.bare, J.base, J.hok, rfl, q⟩
  | brk => exact (after.elim fun _ z => z.elim fun _ z => z.2).elim
  | cont => exact (after.elim fun _ z => z.elim fun _ z => z.2).elim
end
theorem calmG_deeper {A : Around} (g : Around.calmG A) (env : Env) : Around.calmG (A.deeper env) := g
section
variable {X : Cx}
/-- a call, made where no showing is under way, of a def that may show -/
theorem pe_callG {k : Nat} {f : Addr} {fd : FuncData} {ps : List Str} {sp : Sp} {x : Str} {p pos : Pos} {e : Expr} {es : List Expr} {t : TA} (F : FnG X.prog X.w X.K X.mg X.base k f fd ps sp) (g : Around.calmG X.A) (room : Room k X.A) (hg : Gl X x) (hm : X.mg x = some (.ref f))
    (hk : PySem.W.keepIn X.K (.ref f) = true) (hb : Binds X.K fd ps []) (ha : PA X (e :: es) t) (hdb : (x == ("__debug__" : Str)) = false := by decide)
    (he : starEach (e :: es) X.env = (false, eval e X.env) :: starEach es X.env := by rfl) (hpl : (backTo pos (starEach es X.env)).any (·.1) = false := by rfl) : PE X (.Call (.Name x p) (e :: es) [] pos) (tCall sp [] E0 t) := by
  refine ⟨fun pins s σ H Q I h => wpAny_Call_Name_kw (ld_glob I hg hm ?_ hdb)⟩
  refine PySem.W.callWith_K (h₀ := X.base) I.ok.mod.kin hk (thn (ha.run pos pins s σ H _ I h) fun us s1 ⟨vs, H1, I1, r, q⟩ => ⟨I1.kIn, ?_⟩) he hpl
  have r2 : Vals (vs ++ []) (us ++ []) := r.append .nil
  have sizes : (us ++ []).length = ps.length := by rw [← r2.length]; exact F.len _ _ _ _ q
  refine wpAny_call (codeAny_mono (F.run X.A g room X.stack s1 H1 ⟨us, []⟩ (us ++ []) (vs ++ []) Q E0 I1.env0 (hb s1 us I1.kIn sizes) r2 q) fun r s' after => ?_)
  match r, after with
  | .error e, bad => exact bad.elim
  | .ok (.ret u), good => exact I1.after good
  | .ok .next, bad => exact bad.elim
  | .ok .brk, bad => exact bad.elim
  | .ok .cont, bad => exact bad.elim
/-- repr of data -/
def rShow (K : PySem.W.Frag) : List V → Hp → VK → Prop := fun xs H Q => ∃ (a : Addr) (d : PyData), xs = [V.ref a] ∧ Dp K H (.ref a) d ∧ d.showable = true ∧ d.hasDict = false ∧ d.depth ≤ 20 ∧ d.shown.length ≤ sizeLine ∧ Q (.str d.shown) H
theorem call_show {k : Nat} (g : Around.calmG X.A) (room : Room k X.A) : CallR X (.builtin "repr") (rShow X.K) := by
  intro pins s σ H xs us Q I r h
  obtain ⟨a, d, rfl, hd, h1, h2, h3, h4, q⟩ := h
  obtain ⟨u, rfl, ru⟩ := vals1 r
  obtain ⟨as, reads⟩ := Dp.reads I d _ _ hd ru
  cases ru
  have hu := room.un
  exact repr_of_reads' reads h1 (PyData.noDict_hsm h2) g (by omega) (fun _ _ e => e) (fun h' u tk keeps => ⟨.str d.shown, H, I.kept keeps, ⟨u, rfl⟩, q⟩) h4
end
/-! ### the law's own call, by a promise where no showing is under way -/
theorem law_calledG {P : Program} {w : World} {K : PySem.W.Frag} {mg mb : Str → Option Value} {k : Nat} {fa a : Addr} {fd : FuncData} {x : Str} {sp : Sp} {s : Shared} {vs : List Value} {ns : List Int}
    (inK : K.In s.heap) (nsG : s.heap.Ns mainGlobals mg) (nsB : s.heap.Ns builtinsNs mb) (boot : ∀ x : Str, x ≠ "__name__" → mb x = bootBuiltins x) (noLim : s.heap.NoLimit) (gens : s.gens = #[])
    (obj : s.heap.get? a = some { cls := .type "list", data := .seq vs.toArray }) (areI : IntsAre vs ns) (short : ns.length ≤ sizeLine) (room : Room k callerA)
    (F : ∀ base : Heap, K.In base → base.Ns mainGlobals mg → FnG P w K mg base k fa fd [x] sp) (bnd : ∀ (s : Shared) (u : Value), BindsTo s fd ⟨[u], []⟩ [(x, u)])
    (wants : ∀ H : Hp, Only H → SqL K H a (ns.map V.int) → sp [.ref a] H (fun v _ => v = .bl true) E0) :
    codeAny (model P w) callerA (.call (.ref fa) ⟨[.ref a], []⟩) (fun r s' => r = .ok (.ret (.bool true)) ∧ OldK s.heap s'.heap ∧ s'.os = s.os ∧ AllBare s'.gens) s := by
  have vals := vals_ints areI
  -- either nothing is tracked, or the script alone, known to the object
  have go : ∀ H : Hp, Only H → SqL K H a (ns.map V.int) → HOk P w H s.heap → (∀ b, H b = none ∨ (b = a ∧ K.lookup a = none)) →
      codeAny (model P w) callerA (.call (.ref fa) ⟨[.ref a], []⟩) (fun r s' => r = .ok (.ret (.bool true)) ∧ OldK s.heap s'.heap ∧ s'.os = s.os ∧ AllBare s'.gens) s := by
    intro H only seq hok few
    have dictFree : ∀ {b : Addr} {o : Obj} {es : Array DictEntry} {ep : Nat}, s.heap.get? b = some o → o.data = .dict es ep → H b = none := by
      intro b o es ep e d
      refine (few b).elim id fun ⟨hb, _⟩ => ?_
      subst hb
      rw [obj] at e
      cases e
      exact nomatch d
    have nsH : ∀ {b : Addr} {m : Str → Option Value}, s.heap.Ns b m → (hidT s.heap H).Ns b m := by
      rintro b m ⟨o, es, ep, e, d, r⟩
      exact ⟨o, es, ep, hidT_get e (dictFree e d), d, r⟩
    have kH : K.In (hidT s.heap H) := fun b o e => hidT_get (inK b o e) ((few b).elim id fun ⟨hb, noK⟩ => by rw [hb, noK] at e; cases e)
    have modH : Mod K mg (hidT s.heap H) := ⟨kH, nsH nsG, ⟨mb, nsH nsB, boot⟩, noLim.elim fun mc h => ⟨mc, nsH h.1, h.2⟩⟩
    have start0 : Env0 P w K mg (hidT s.heap H) callerA [] s H :=
      { frames := rfl, mod := modH, bs := fun b o e => of_hidT e, bsz := Nat.le_of_eq (hidT_size _ _), funs := trivial, frf := fun b hb => (List.not_mem_nil hb).elim, hok := hok, bare := .of_eq gens }
    refine codeAny_mono ((F _ kH (nsH nsG)).run callerA rfl room [] s H ⟨[.ref a], []⟩ [.ref a] [.ref a] _ _ start0 (bnd s (.ref a)) (.cons rfl .nil) (wants H only seq)) fun r s' after => ?_
    match r, after with
    | .error e, bad => exact bad.elim
    | .ok .next, bad => exact bad.elim
    | .ok .brk, bad => exact bad.elim
    | .ok .cont, bad => exact bad.elim
    | .ok (.ret u), ⟨v, H', os, bare, un, hok', rv, isT⟩ =>
      obtain rfl : v = .bl true := isT
      obtain rfl : u = Value.bool true := rv
      refine ⟨rfl, OldK.of_keep fun b o e => ?_, os, bare⟩
      cases q : H b with
      | none => exact un.keep b o e q (fun z => (List.not_mem_nil (show b ∈ ([] : List Addr) from z)).elim) (by simp)
      | some u =>
        obtain ⟨ob, xs, z⟩ := (only b).resolve_left (by rw [q]; simp)
        obtain ⟨e1, _⟩ := hok b _ z
        obtain ⟨e2, _⟩ := hok' b _ (un.frzs b ob _ z)
        exact (e.symm.trans e1) ▸ e2
  have lenV := areI.length
  by_cases there : ∃ o, K.lookup a = some o
  · obtain ⟨o, ho⟩ := there
    obtain rfl : o = _ := Option.some.inj ((inK a o ho).symm.trans obj)
    exact go (fun _ => none) (fun _ => .inl rfl) (.inr ⟨_, vs.toArray, _, ho, rfl, rfl, rfl, by rw [List.size_toArray, lenV]; exact short, by simpa using vals⟩) (fun b u z => nomatch z) fun _ => .inl rfl
  · have noK : K.lookup a = Option.none := by
      cases e : K.lookup a with
      | none => rfl
      | some o => exact (there ⟨o, e⟩).elim
    refine go (fun b => if b = a then some (.frz { cls := .type "list", data := .seq vs.toArray } (.lst (ns.map V.int))) else Option.none) (fun b => ?_) (.inl (.inr ⟨_, if_pos rfl⟩)) (fun b u z => ?_) fun b => ?_
    all_goals by_cases hb : b = a
    · exact .inr ⟨_, _, if_pos hb⟩
    · exact .inl (if_neg hb)
    · obtain rfl := Option.some.inj (z.symm.trans (if_pos hb))
      subst hb
      exact ⟨obj, by rw [List.length_map]; exact short, vs, _, vals, obj⟩
    · exact nomatch z.symm.trans (if_neg hb)
    · exact .inr ⟨hb, noK⟩
    · exact .inl (if_neg hb)
theorem walkG {l : PySem.W.OpenLaw} {k : Nat} {q : Program} {loose : List Str} {XP : (Str → Option Value) → Heap → Prop} {YP : World → Heap → Prop} {d : DefRec} {K : Params → PySem.W.Frag} {sp : PySem.W.Frag → Sp} {x : Str}
    (most : l.most = some 63) (noDef : d.params.defaults = []) (room : Room k callerA) (hY : ∀ (w : World) (h : Heap), YP w h → (K w.params).In h)
    (F : ∀ (w : World) (mg : Str → Option Value) (fa : Addr) (h : Heap), (K w.params).In h → h.Ns mainGlobals mg → mg d.name = some (.ref fa) → ∃ fd : FuncData, (∀ (s : Shared) (u : Value), BindsTo s fd ⟨[u], []⟩ [(x, u)]) ∧
      ∀ base : Heap, (K w.params).In base → base.Ns mainGlobals mg → FnG l.prog w (K w.params) mg base k fa fd [x] (sp (K w.params)))
    (wants : ∀ (K : PySem.W.Frag) (H : Hp) (a : Addr) (ns : List Int), ns.length ≤ 63 → Only H → SqL K H a (ns.map V.int) → sp K [.ref a] H (fun v _ => v = .bl true) E0) :
    PySem.W.WalkO q loose XP YP l.row.toRowW d [] (fun f vs => PySem.call f vs) := by
  refine Att.attach_call most noDef fun w s₀ s₁ mg mb fa o pm cd doc a vs ns G Y ho hd hcd hmg hobj hints hlen hg => ?_
  obtain ⟨fd, hb, hF⟩ := F w mg fa _ (hY w _ Y) G.T.g hmg
  exact law_calledG (hY w _ Y) G.T.g G.T.b G.T.builtins G.T.nolimit hg hobj hints (Nat.le_trans hlen (by decide)) room hF hb (fun H only seq => wants _ H a ns hlen only seq)
/-! ### enumerate over a tuple -/
theorem draws_tuple {prog : Program} {w : World} {A : Around} (hh : A.handled = none) (it l : Addr) (ne : l ≠ it) (vs : Array Value) :
    Draws prog w A it [it, l] vs.size (fun i v => vs[i]? = some v) (fun i h => h.IsTupleIter it l i ∧ h.IsTuple l vs) where
  live := fun _ _ st => st.1.elim fun o ho => ⟨o, ho.1⟩
  frame := fun _ _ _ st keep => by
    obtain ⟨⟨o, ho, ro⟩, ⟨u, hu, ru⟩⟩ := st
    exact ⟨⟨o, keep it (by simp) o ho, ro⟩, ⟨u, keep l (by simp) u hu, ru⟩⟩
  item := fun i s Q E hi st hQ => by
    refine RZ.nextOf_tuple_item st.1 st.2 (x := vs[i]) (by simp [hi]) fun h' it' but => ?_
    exact hQ _ h' s.toks (by simp [hi]) ⟨it', st.2.extBut but.extBut ne⟩ but
  done := fun s Q E st hE => RZ.nextOf_tuple_end hh st.1 st.2 (by simp) hE
set_option maxHeartbeats 1000000 in
theorem enum_made_tuple (l : Addr) (vs : Array Value) (n : Nat) (dct : Option Addr) (sl : Array (Option Value)) :
    Meets (Builtin.«enumerate.__new__» ⟨[.type "enumerate", .ref l], []⟩) (fun _ R s => s.heap.get? l = some { cls := .type "tuple", dict := dct, data := .seq vs n, slots := sl } ∧
      R (.ok (.ret (.ref (s.heap.push { cls := .type "tuple_iterator", data := .fields #[.ref l, .int 0 0] }).objs.size)))
        { s with heap := (s.heap.push { cls := .type "tuple_iterator", data := .fields #[.ref l, .int 0 0] }).push { cls := .type "enumerate", data := .fields #[.none, .bool false, .ref s.heap.objs.size, rawInt 0, .none, .none] } }) := by
  refine .of_wp fun prog w A R s given => ?_
  obtain ⟨hp, g, d, tk, os⟩ := s
  obtain ⟨there, goal⟩ := given
  have sub := sub_enumerate
  have isT : Heap.IsTuple (Shared.heap ⟨hp, g, d, tk, os⟩) l vs := ⟨_, there, rfl, n, rfl⟩
  wp_walk using AutoSeq1.wpAny_loadPart' there
  refine wpAny_stack_any fun st => wpAny_pure ?_
  split
  · rename_i c _ _ _ _ _
    cases (c == Value.type "enumerate") <;> (wp_walk using AutoSeq1.wpAny_loadPart' there, wpAny_pyIter_tuple isT; exact ⟨_, rfl, goal⟩)
  · wp_walk using AutoSeq1.wpAny_loadPart' there, wpAny_pyIter_tuple isT
    exact ⟨_, rfl, goal⟩
theorem call_enum_tuple {prog : Program} {w : World} {A : Around} {E : Value → Shared → Prop} {s : Shared} {l : Addr} {vs : Array Value} {Q : Value → Shared → Prop} (isT : s.heap.IsTuple l vs)
    (hQ : ∀ h', IsEnum h' (s.heap.objs.size + 1) s.heap.objs.size 0 .none → h'.IsTupleIter s.heap.objs.size l 0 → (∀ b o, s.heap.get? b = some o → h'.get? b = some o) → Q (.ref (s.heap.objs.size + 1)) { s with heap := h' }) :
    wpAny (model prog w) A (call (.type "enumerate") [.ref l]) Q E s := by
  obtain ⟨⟨c, dct, dt, sl⟩, there, hc, n, hd⟩ := isT
  obtain rfl : c = .type "tuple" := hc
  obtain rfl : dt = .seq vs n := hd
  have sz : (s.heap.push { cls := .type "tuple_iterator", data := .fields #[.ref l, .int 0 0] }).objs.size = s.heap.objs.size + 1 := Heap.size_push ..
  refine callType_new F.called_enumerate (by decide) (F.typeCall_enumerate_1 _) (F.newCall_enumerate_1 _) (fun obj => F.args_object_init_2 obj _) F.entry_enumerate_new (enum_made_tuple l vs n dct sl) ⟨there, ?_⟩
  rw [sz]
  have made : IsEnum ((s.heap.push { cls := .type "tuple_iterator", data := .fields #[.ref l, .int 0 0] }).push { cls := .type "enumerate", data := .fields #[.none, .bool false, .ref s.heap.objs.size, rawInt 0, .none, .none] }) (s.heap.objs.size + 1) s.heap.objs.size 0 .none := by
    show Heap.get? _ _ = _
    rw [← sz]
    exact Heap.get?_push_size _ rfl
  exact ⟨⟨_, made, rfl⟩, hQ _ made ⟨_, Heap.get?_push_of_some _ (Heap.get?_push_size _ rfl), rfl, rfl⟩ fun b o e => Heap.get?_push_of_some _ (Heap.get?_push_of_some _ e)⟩
/-- the tuple at a, by its items' numbers -/
def ItnT (K : PySem.W.Frag) (a : Addr) : It where
  go := fun i H => ∃ (xs : List V) (x : V), SqT K H a xs ∧ xs[i]? = some x
  yld := fun i H v H' => ∃ T x, v = .ref T ∧ H T = none ∧ H' = upd H T (.tup [.int (i : Nat), x]) ∧ ∀ xs, SqT K H a xs → xs[i]? = some x
  stop := fun i H => ∃ xs : List V, SqT K H a xs ∧ xs.length = i
theorem walk_enumT {K : PySem.W.Frag} {a : Addr} {xs : List V} : Walk (ItnT K a) xs.length (fun H => SqT K H a xs) (YPair (fun i => some (.int (i : Nat))) (fun i => xs[i]?)) where
  goes := fun i _ hi q => ⟨xs, xs[i], q, by simp [hi]⟩
  stops := fun _ q => ⟨xs, q, rfl⟩
  yields := fun i H v H' _ q ⟨T, x, h1, h2, h3, h4⟩ => ⟨T, .int (i : Nat), x, h1, h2, h3, rfl, h4 xs q⟩
theorem turn_enumT {P : Program} {w : World} {K : PySem.W.Frag} {elts : List Expr} {kk : Nat} {tpos : Pos} (a e it : Addr) :
    Turn P w K (.Tuple elts kk tpos) (ItnT K a) [e, it] e (fun i h => (∃ old, IsEnum h e it ((i : Nat) : Int) old) ∧ h.IsTupleIter it a i ∧ e ≠ it) where
  mem := List.mem_cons_self
  obj := fun i h st b hb => by
    obtain ⟨⟨old, he⟩, ⟨o, ho, _, hd⟩, _⟩ := st
    rcases List.mem_cons.mp hb with rfl | hb
    · exact ⟨_, he, fun v q => nomatch q⟩
    · rw [List.mem_singleton.mp hb]
      exact ⟨o, ho, fun v q => by rw [hd] at q; cases q⟩
  keep := fun i h h' st keep => by
    obtain ⟨⟨old, he⟩, ⟨o, ho, r⟩, ne⟩ := st
    exact ⟨⟨old, keep e (by simp) _ he⟩, ⟨o, keep it (by simp) _ ho, r⟩, ne⟩
  item := by
    intro X hP hw hK hc i pins s σ H E I free st going
    subst hP hw hK
    obtain ⟨⟨old, he⟩, hit, ne⟩ := st
    obtain ⟨xs, x, seq, hx⟩ := going
    obtain ⟨its, vals, isT, _⟩ := I.tuple seq
    obtain ⟨u, hu, ru⟩ := vals.get hx
    have elt : e < s.heap.objs.size := Heap.lt_size he
    obtain ⟨oi, hoi, ci, di⟩ := id hit
    have ilt : it < s.heap.objs.size := Heap.lt_size hoi
    have isT' : s.heap.IsTuple a its.toArray := isT
    obtain ⟨oa, hoa, ca, na, da⟩ := id isT'
    have ai : a ≠ it := by
      rintro rfl
      rw [hoa] at hoi
      rw [Option.some.inj hoi, di] at da
      cases da
    have ea : e ≠ a := by
      rintro rfl
      have he' := hoa.symm.trans (show s.heap.get? e = some _ from he)
      rw [Option.some.inj he'] at da
      cases da
    have hlt : i < its.toArray.size := by
      rw [List.size_toArray, ← vals.length]
      exact (List.getElem?_eq_some_iff.mp hx).1
    have D := draws_tuple (prog := X.prog) (w := X.w) (A := X.A.in1) (I.ok.hd hc) it a ai its.toArray
    refine wpAny_pyNext_enum_itemD D he ⟨hit, isT'⟩ hlt ne (by simp [ne, ea]) fun v h' tk hv eo st' hT sz keeps => ?_
    obtain rfl : u = v := by
      have hv' : its[i]? = some v := by simpa using hv
      exact Option.some.inj (hu.symm.trans hv')
    refine ⟨_, rfl, wpAny_letOwnedTupleGo_enum (s := { s with heap := h', toks := tk + 1 }) eo fun h'' e'' sb => ?_⟩
    have hT2 : h''.get? s.heap.objs.size = some { cls := .type "tuple", data := .seq #[.int i tk, u] } := (sb.2 _ (Nat.ne_of_gt elt)).trans hT
    have fresh : ObjOk X.prog X.w (upd H s.heap.objs.size (.tup [.int (i : Nat), x])) h'' s.heap.objs.size (.tup [.int (i : Nat), x]) :=
      ⟨by show 2 ≤ sizeLine; decide, [.int i tk, u], .cons ⟨_, rfl⟩ (.cons ru .nil), ⟨_, hT2, rfl, _, rfl⟩⟩
    have J : Inv X pins σ (upd H s.heap.objs.size (.tup [.int (i : Nat), x])) { s with heap := h'', toks := tk + 1 } :=
      I.turnedNew (ch := [e, it]) (fun b ob hb q => (sb.2 b fun z => hb (by simp [z])).trans (keeps b ob (fun z => hb (by simp [z])) (fun z => hb (by simp [z])) q)) free (Nat.le_refl _) fresh
    refine ⟨.ref s.heap.objs.size, _, J, rfl, ⟨_, x, rfl, I.hok.fresh (Nat.le_refl _), rfl, fun ys hy => ?_⟩, ⟨⟨u, ?_⟩, ?_, ne⟩, fun b hb => ?_⟩
    · obtain ⟨its2, vals2, isT2, _⟩ := I.tuple hy
      rw [I.tuple_inj hy seq]
      exact hx
    · rw [show ((i + 1 : Nat) : Int) = (i : Int) + 1 by omega]
      exact e''
    · obtain ⟨o, ho, r⟩ := st'.1
      exact ⟨o, (sb.2 it (Ne.symm ne)).trans ho, r⟩
    · have : b < s.heap.objs.size := by
        rcases List.mem_cons.mp hb with rfl | hb
        · exact elt
        · rw [List.mem_singleton.mp hb]
          exact ilt
      rw [upd_ne (Nat.ne_of_lt this)]
      exact (free b hb).1
  done := by
    intro X hP hw hK hc i pins s σ H E I free st ends
    subst hP hw hK
    obtain ⟨⟨old, he⟩, hit, ne⟩ := st
    obtain ⟨xs, seq, hx⟩ := ends
    obtain ⟨its, vals, isT, _⟩ := I.tuple seq
    obtain ⟨oi, hoi, ci, di⟩ := id hit
    have isT' : s.heap.IsTuple a its.toArray := isT
    obtain ⟨oa, hoa, ca, na, da⟩ := id isT'
    have ai : a ≠ it := by
      rintro rfl
      rw [hoa] at hoi
      rw [Option.some.inj hoi, di] at da
      cases da
    have sz : i = its.toArray.size := by
      rw [List.size_toArray, ← vals.length, hx]
    subst sz
    have D := draws_tuple (prog := X.prog) (w := X.w) (A := X.A.in1) (I.ok.hd hc) it a ai its.toArray
    obtain ⟨f0, f1, f2, f3, f4, f5⟩ := free it (by simp)
    exact wpAny_pyNext_enum_endD D he ⟨hit, isT'⟩ fun h' eb => ⟨rfl, I.turned (t' := s.toks) (fun b o hb q => eb b o hb q) f0 f1 f3 f4 f5⟩
  self := fun A i s Q E st h => st.1.elim fun _ he => wpAny_pyIter_enum he h
def iEnumT (K : PySem.W.Frag) (ta : TA) : TI := fun σ H R => ta σ H fun vs H1 => ∃ a xs, vs = [.ref a] ∧ SqT K H1 a xs ∧ R (ItnT K a) H1
theorem pi_enumT {X : Cx} {e : Expr} {ta : TA} {p pos tpos : Pos} {elts : List Expr} {kk : Nat} (hg : Gl X "enumerate") (hm : X.mg "enumerate" = none) (ha : PA X [e] ta) (hs : starEach [e] X.env = [(false, eval e X.env)] := by rfl) :
    PI X (.Tuple elts kk tpos) (.Call (.Name "enumerate" p) [e] [] pos) (iEnumT X.K ta) := by
  refine ⟨fun pins s σ H R I h => Call_ (ld_blt I hg hm boot_enumerate (PyProof.Rows.callWith_type1 (thn (ha.run pos pins s σ H _ I h) fun us s1 ⟨vs, H1, I1, r1, q1⟩ => ?_) hs rfl))⟩
  obtain ⟨a, xs, rfl, seq, q⟩ := q1
  obtain ⟨u, rfl, ru⟩ := vals1 r1
  cases ru
  obtain ⟨its, vals, isT, _⟩ := I1.tuple seq
  refine call_enum_tuple isT fun h' he hit keeps => wpAny_pyIter_enum he ?_
  refine ⟨s1.heap.objs.size + 1, [s1.heap.objs.size + 1, s1.heap.objs.size], _, _, H1, rfl, I1.kept (t' := s1.toks) keeps, turn_enumT a (s1.heap.objs.size + 1) s1.heap.objs.size, ⟨⟨.none, he⟩, hit, Nat.succ_ne_self _⟩, fun b hb => ?_, q⟩
  have le : s1.heap.objs.size ≤ b := by
    rcases List.mem_cons.mp hb with rfl | hb
    · exact Nat.le_succ _
    · rw [List.mem_singleton.mp hb]
      exact Nat.le_refl _
  exact I1.fpOk le (I1.hok.fresh le)
/-! ### min of a tuple of ints -/
theorem ints_readsAll {h : Heap} : ∀ {vs : List Value} {ns : List Int}, Vals (ns.map V.int) vs → ∃ as, ReadsAll h vs (ns.map PyData.int) as
  | [], [], _ => ⟨[], .nil⟩
  | v :: vs, n :: ns, r => by
    cases r with
    | cons r rr =>
      obtain ⟨t, rfl⟩ := r
      obtain ⟨as, q⟩ := ints_readsAll (h := h) rr
      exact ⟨_, .cons (.int n t) q⟩
  | _ :: _, [], r => nomatch r
  | [], _ :: _, r => nomatch r
theorem depthAll_ints : ∀ ns : List Int, PyData.depthAll (ns.map PyData.int) ≤ 1
  | [] => Nat.zero_le _
  | n :: ns => by
    have := depthAll_ints ns
    show max (PyData.depth (.int n)) (PyData.depthAll (ns.map PyData.int)) ≤ 1
    have e : PyData.depth (.int n) ≤ 1 := by first | decide | simp [PyData.depth]
    omega
def rMinT (K : PySem.W.Frag) : List V → Hp → VK → Prop := fun vs H Q => ∃ (a : Addr) (n : Int) (ns : List Int), vs = [V.ref a] ∧ SqT K H a ((n :: ns).map V.int) ∧ Q (.int (ns.foldl min n)) H
theorem cr_minT {X : Cx} {k : Nat} (hc : X.calm = true) (room : Room k X.A) : CallR X (.builtin "min") (rMinT X.K) := by
  intro pins s σ H vs us Q I r h
  obtain ⟨a, n, ns, rfl, seq, q⟩ := h
  obtain ⟨its, vals, isT, _⟩ := I.tuple seq
  rw [Vals.ref1 r]
  obtain ⟨as, reads⟩ := ints_readsAll (h := s.heap) vals
  have alike : PySem.W.AlikeAll ((n :: ns).map PyData.int) := by
    refine ⟨fun x hx y hy => ?_, fun x hx e => ?_⟩
    · obtain ⟨i, _, rfl⟩ := List.mem_map.mp hx
      obtain ⟨j, _, rfl⟩ := List.mem_map.mp hy
      simp [PySem.W.alike]
    · obtain ⟨i, _, rfl⟩ := List.mem_map.mp hx
      cases e
  have un := room.un
  have dp := depthAll_ints (n :: ns)
  refine PySem.W.min_tuple_data (I.ok.hd hc) (show s.heap.IsTuple a its.toArray from isT) (by simpa using reads) alike (by show X.A.units + 1 + _ < _; have : PyData.depthAll (PyData.int n :: ns.map PyData.int) ≤ 1 := dp; omega) fun i v h' tk bs hv rd keeps => ?_
  rw [PySem.W.minD_ints] at rd
  cases rd with
  | int _ t => exact ⟨.int _, H, I.kept keeps, ⟨t, rfl⟩, q⟩
theorem foldl_min_le : ∀ (ns : List Int) (n b : Int), b ≤ ns.foldl min n ↔ b ≤ n ∧ ∀ m ∈ ns, b ≤ m
  | [], n, b => by simp
  | m :: r, n, b => by
    rw [List.foldl_cons, foldl_min_le r (min n m) b, List.forall_mem_cons]
    constructor
    · rintro ⟨h1, h2⟩
      exact ⟨by omega, by omega, h2⟩
    · rintro ⟨h1, h2, h3⟩
      exact ⟨by omega, h3⟩
/-! ### drawn houses -/
def wayD (l : List Int) : PyData := .tuple (l.map PyData.int)
def askD (a : List (List Int)) : PyData := .tuple (a.map wayD)
def houseD (h : List (List (List Int))) : PyData := .tuple (h.map askD)
structure WayOk (kinds size : Int) (l : List Int) : Prop where
  len : (l.length : Int) = kinds
  all : ∀ x ∈ l, -size ≤ x ∧ x ≤ size
structure AskOk (kinds ways size : Int) (a : List (List Int)) : Prop where
  one : 1 ≤ a.length
  five : a.length ≤ 5
  most : (a.length : Int) ≤ ways + 1
  all : ∀ l ∈ a, WayOk kinds size l
structure HouseOk (kinds asks ways size : Int) (h : List (List (List Int))) : Prop where
  one : 1 ≤ h.length
  most : (h.length : Int) ≤ asks
  all : ∀ a ∈ h, AskOk kinds ways size a
theorem noLAll_map {α : Type} {f : α → PyData} (hf : ∀ x, noL (f x) = true) : ∀ l : List α, noLAll (l.map f) = true
  | [] => by simp [noLAll]
  | a :: r => by
    rw [List.map_cons]
    simp only [noLAll, Bool.and_eq_true]
    exact ⟨hf a, noLAll_map hf r⟩
theorem noL_int (i : Int) : noL (.int i) = true := by simp [noL]
theorem noL_way (l : List Int) : noL (wayD l) = true := by
  unfold wayD
  simp only [noL]
  exact noLAll_map noL_int l
theorem noL_ask (a : List (List Int)) : noL (askD a) = true := by
  unfold askD
  simp only [noL]
  exact noLAll_map noL_way a
theorem noL_house (h : List (List (List Int))) : noL (houseD h) = true := by
  unfold houseD
  simp only [noL]
  exact noLAll_map noL_ask h
theorem Pen.at {H : Hp} {p c : Addr} {ns : List Int} {n : Nat} (h : Pen H p c ns n) : ∃ l, H p = some (.lst l) := by
  obtain ⟨⟨a, l, h1, _⟩, _⟩ := h
  exact ⟨_, h1⟩
theorem Pen.dp {K : PySem.W.Frag} {H H' : Hp} {p c : Addr} {ns : List Int} {n : Nat} {v : V} {d : PyData} (h : Pen H p c ns n) (k : Kp p H H') (q : Dp K H v d) (nl : noL d = true) : Dp K H' v d := by
  obtain ⟨l, hp⟩ := h.at
  exact dp_kp k hp q nl
theorem Pen.dpAll {K : PySem.W.Frag} {H H' : Hp} {p c : Addr} {ns : List Int} {n : Nat} {v : List V} {d : List PyData} (h : Pen H p c ns n) (k : Kp p H H') (q : DpAll K H v d) (nl : noLAll d = true) : DpAll K H' v d := by
  obtain ⟨l, hp⟩ := h.at
  exact dpAll_kp k hp q nl
/-- a tuple of such data, laid anew -/
theorem dp_tup {K : PySem.W.Frag} {H : Hp} {q : Addr} {vs : List V} {ds : List PyData} (nq : H q = none) (h : DpAll K H vs ds) : Dp K (upd H q (.tup vs)) (.ref q) (.tuple ds) :=
  .tup (SqT.of upd_same) (dpAll_same (same_upd nq) h)
theorem Kp.free {p a : Addr} {H H' : Hp} (k : Kp p H H') (h : H' a = none) (ne : a ≠ p) : H a = none := by
  cases e : H a with
  | none => rfl
  | some o =>
    rw [k _ _ e ne] at h
    cases h
theorem Kp.put {p a : Addr} {H H' : Hp} {o : HO} (k : Kp p H H') (h : H a = none) : Kp p H (upd H' a o) := fun b x e n => by
  rw [upd_ne (ne_of_none e h)]
  exact k _ _ e n
theorem Pen.put {H : Hp} {p c a : Addr} {ns : List Int} {n : Nat} {o : HO} (h : Pen H p c ns n) (hp : p ≠ a) (hc : c ≠ a) : Pen (upd H a o) p c ns n := by
  obtain ⟨⟨x, y, h1, h2⟩, h3⟩ := h
  exact ⟨⟨x, y, by rw [upd_ne hp]; exact h1, h2⟩, by rw [upd_ne hc]; exact h3⟩
theorem Pen.nep {H : Hp} {p c a : Addr} {ns : List Int} {n : Nat} (h : Pen H p c ns n) (q : H a = none) : p ≠ a ∧ c ≠ a := by
  obtain ⟨⟨x, y, h1, h2⟩, h3⟩ := h
  exact ⟨ne_of_none h1 q, ne_of_none h3 q⟩
theorem dpAll_put {K : PySem.W.Frag} {H : Hp} {a : Addr} {l : List V} {o : HO} {v : List V} {d : List PyData} (h : H a = some (.lst l)) (q : DpAll K H v d) (nl : noLAll d = true) : DpAll K (upd H a o) v d := dpAll_kp (kp_upd a H o) h q nl
theorem at3 {size r : Int} (s0 : 0 ≤ size) (h0 : 0 ≤ r) (h1 : r < 3) : ∃ z, atI [V.int size, V.int (0 - size), V.int 0] r = some (.int z) ∧ -size ≤ z ∧ z ≤ size := by
  have : r = 0 ∨ r = 1 ∨ r = 2 := by omega
  rcases this with rfl | rfl | rfl
  · exact ⟨size, atI_nat (j := 0) rfl, by omega, by omega⟩
  · exact ⟨0 - size, atI_nat (j := 1) rfl, by omega, by omega⟩
  · exact ⟨0, atI_nat (j := 2) rfl, by omega, by omega⟩
theorem atI_some {xs : List V} {k : Int} (h0 : 0 ≤ k) (h1 : k < xs.length) : ∃ v, atI xs k = some v ∧ xs[k.toNat]? = some v := by
  obtain ⟨j, rfl⟩ : ∃ j : Nat, k = (j : Int) := ⟨k.toNat, by omega⟩
  have hj : j < xs.length := by omega
  exact ⟨xs[j], atI_nat (List.getElem?_eq_getElem hj), by simp [hj]⟩
theorem mem_app1 {α : Type} {P : α → Prop} {l : List α} {x : α} (h : ∀ a ∈ l, P a) (hx : P x) : ∀ a ∈ l ++ [x], P a := fun a ha => by
  rcases List.mem_append.mp ha with h' | h'
  · exact h a h'
  · rw [List.mem_singleton.mp h']
    exact hx
theorem dpAll_app1 {K : PySem.W.Frag} {H : Hp} {α : Type} {f : α → PyData} {vs : List V} {l : List α} {v : V} {x : α} (h : DpAll K H vs (l.map f)) (q : Dp K H v (f x)) : DpAll K H (vs ++ [v]) ((l ++ [x]).map f) := by
  rw [List.map_append]
  exact dpAll_app h (.cons q .nil)
theorem small_line {n : Nat} (h : n ≤ 100000) : n < sizeLine := Nat.lt_of_le_of_lt h (by decide)
/-! ### what the functions on four numbers speak of (no def of the program) -/
abbrev stsD (S : List (List Int)) : PyData := .list (S.map wayD)
theorem way_of {K : PySem.W.Frag} {H : Hp} {v : V} {l : List Int} (h : Dp K H v (wayD l)) : ∃ a, v = .ref a ∧ SqT K H a (l.map V.int) := by
  cases h with
  | @tup a vs _ hT hall =>
    obtain rfl := ints_of_dp hall
    exact ⟨a, rfl, hT⟩
theorem of_way {K : PySem.W.Frag} {H : Hp} {a : Addr} {l : List Int} (h : SqT K H a (l.map V.int)) : Dp K H (.ref a) (wayD l) := .tup h (dpAll_ints l)
theorem sts_of {K : PySem.W.Frag} {H : Hp} {v : V} {S : List (List Int)} (h : Dp K H v (stsD S)) : ∃ l vs, v = .ref l ∧ SqL K H l vs ∧ DpAll K H vs (S.map wayD) := by
  cases h with
  | @lst a vs _ hL hall => exact ⟨a, vs, rfl, hL, hall⟩
theorem sts_get {K : PySem.W.Frag} {H : Hp} {vs : List V} {S : List (List Int)} {j : Nat} {v : V} (h : DpAll K H vs (S.map wayD)) (e : vs[j]? = some v) : ∃ t, S[j]? = some t ∧ Dp K H v (wayD t) := by
  obtain ⟨d, hd, dv⟩ := dpAll_get h e
  rw [List.getElem?_map] at hd
  obtain ⟨t, ht, rfl⟩ := Option.map_eq_some_iff.mp hd
  exact ⟨t, ht, dv⟩
theorem sts_len {K : PySem.W.Frag} {H : Hp} {vs : List V} {S : List (List Int)} (h : DpAll K H vs (S.map wayD)) : vs.length = S.length := by rw [dpAll_len h, List.length_map]
theorem four_of {l : List Int} (h : l.length = 4) : ∃ a b c d, l = [a, b, c, d] := by
  match l, h with
  | [a, b, c, d], _ => exact ⟨a, b, c, d, rfl⟩
theorem take_snoc {α : Type} {l : List α} {j : Nat} {x : α} (h : l[j]? = some x) : l.take (j + 1) = l.take j ++ [x] := by
  rw [List.take_succ, h]
  rfl
theorem take_all {α β : Type} {l : List α} {m : List β} (h : m.length = l.length) : l.take m.length = l := by rw [h, List.take_length]
theorem maxI (i j : Int) : (if j > i then j else i) = max i j := by
  split <;> omega
/-- with noughts behind -/
def four (l : List Int) : List Int := l ++ List.replicate (4 - l.length) 0
theorem ok4_len {x : List Int} (h : Ok4 x) : x.length = 4 := by
  obtain ⟨a, b, c, d, rfl, _⟩ := h
  rfl
theorem noL_app (A B : List (List Int)) : noLAll (A.map wayD ++ B.map wayD) = true := by
  rw [← List.map_append]
  exact noLAll_map noL_way _
/-- a list of tuples, with their addresses -/
theorem sts_refs {K : PySem.W.Frag} {H : Hp} : ∀ {vs : List V} {S : List (List Int)}, DpAll K H vs (S.map wayD) → ∃ ks : List (Addr × List Int), vs = ks.map (fun p => V.ref p.1) ∧ ks.map (·.2) = S ∧ ∀ p ∈ ks, SqT K H p.1 (p.2.map V.int)
  | _, [], .nil => ⟨[], rfl, rfl, fun _ h => nomatch h⟩
  | _, t :: S, .cons q r => by
    obtain ⟨a, rfl, hT⟩ := way_of q
    obtain ⟨ks, e1, e2, e3⟩ := sts_refs r
    refine ⟨(a, t) :: ks, by rw [List.map_cons, e1], by rw [List.map_cons, e2], fun p hp => ?_⟩
    rcases List.mem_cons.mp hp with rfl | hp
    · exact hT
    · exact e3 p hp
theorem refs_sts {K : PySem.W.Frag} {H : Hp} : ∀ {ks : List (Addr × List Int)}, (∀ p ∈ ks, SqT K H p.1 (p.2.map V.int)) → DpAll K H (ks.map fun p => V.ref p.1) ((ks.map (·.2)).map wayD)
  | [], _ => .nil
  | p :: ks, h => .cons (of_way (h p List.mem_cons_self)) (refs_sts fun q hq => h q (List.mem_cons_of_mem _ hq))
theorem bothL_snoc (A B : List (List Int)) (x : List Int) : bothL (A ++ [x]) B = bothL A B ++ (if anyLe x B then [x] else B.map (join4 x)) := by
  unfold bothL
  rw [List.flatMap_append, List.flatMap_cons, List.flatMap_nil, List.append_nil]
/-! ### the functions on asks -/
/-- a walk by an invariant, whatever a turn is -/
theorem walk_gen {J : It} {n : Nat} {G : Hp → Prop} {Y : Nat → Hp → V → Hp → Prop} (w : Walk J n G Y) {H0 : Hp} {Qd : Hp → Prop} (T : V → Hp → (Hp → Prop) → Prop) (Pv : Nat → Hp → Prop) (h0 : Pv 0 H0) (hG : ∀ i H, i ≤ n → Pv i H → G H)
    (hs : ∀ i x H H', i < n → Pv i H → Y i H x H' → T x H' (Pv (i + 1))) (hd : ∀ H, Pv n H → Qd H) :
    ∃ W : Nat → Nat → Hp → Prop, (∃ m, W 0 m H0) ∧ ∀ i m H, W i m H → (J.stop i H ∧ Qd H) ∨ (J.go i H ∧ ∃ Nx : Hp → Prop, (∀ H', Nx H' → ∃ m', m' < m ∧ W (i + 1) m' H') ∧ ∀ x H', J.yld i H x H' → T x H' Nx) := by
  refine ⟨fun i m H => m = n - i ∧ i ≤ n ∧ Pv i H, ⟨n, by simp, Nat.zero_le _, h0⟩, ?_⟩
  rintro i m H ⟨rfl, hi, p⟩
  have q := hG i H hi p
  by_cases lt : i < n
  · exact .inr ⟨w.goes i H lt q, Pv (i + 1), fun H' p' => ⟨n - (i + 1), by omega, rfl, lt, p'⟩, fun x H' y => hs i x H H' lt p (w.yields i H x H' lt q y)⟩
  · obtain rfl : i = n := by omega
    exact .inl ⟨w.stops H q, hd H p⟩
abbrev asksD (h : Asks) : PyData := .list (h.map stsD)
def rTupOf (K : PySem.W.Frag) : List V → Hp → VK → Prop := fun xs H Q => ∃ p ys, xs = [.ref p] ∧ ((SqL K H p ys ∧ ∀ l, H l = none → Q (.ref l) (upd H l (.tup ys))) ∨ (SqT K H p ys ∧ Q (.ref p) H))
abbrev lcSc (ns : List (Str × NameKind)) : Scope := { kind := .function, names := ns, isGenerator := false, isCoroutine := false }
def lcScope : Expr → Scope
  | .ListComp _ _ sc _ => sc
  | _ => { kind := .function, names := [], isGenerator := false, isCoroutine := false }
def retE (s : Stmt) : Expr := match defBody s with
  | [.Return (some e) _] => e
  | _ => .Constant .none 0 ⟨0, 0, 0, 0⟩
/-- the heap without a -/
def rmv (H : Hp) (a : Addr) : Hp := fun b => if b = a then none else H b
theorem rmv_ne {H : Hp} {a b : Addr} (h : b ≠ a) : rmv H a b = H b := if_neg h
theorem rmv_kp (H : Hp) (a : Addr) : Kp a H (rmv H a) := fun b o e n => by rw [rmv_ne n]; exact e
theorem rmv_some {H : Hp} {a b : Addr} {o : HO} (e : rmv H a b = some o) : b ≠ a ∧ H b = some o := by
  by_cases h : b = a
  · rw [h, show rmv H a a = none from if_pos rfl] at e
    cases e
  · rw [rmv_ne h] at e
    exact ⟨h, e⟩
theorem rmv_same {H H' : Hp} {a : Addr} (k : ∀ b o, b ≠ a → H b = some o → H' b = some o) : Same (rmv H a) H' := fun b o e => k b o (rmv_some e).1 (rmv_some e).2
theorem rmv_rmv {H H' : Hp} {a : Addr} (k : ∀ b o, b ≠ a → H b = some o → H' b = some o) : Same (rmv H a) (rmv H' a) := fun b o e => by
  obtain ⟨n, e⟩ := rmv_some e
  rw [rmv_ne n]
  exact k b o n e
theorem flat_len {l B : List (List Int)} : (l.flatMap fun w => B.map (need4 w)).length = l.length * B.length := by
  induction l with
  | nil => simp
  | cons w l ih =>
    rw [List.flatMap_cons, List.length_append, List.length_map, ih, List.length_cons, Nat.succ_mul]
    omega
/-! ### one ask more -/
theorem perm_lift {α β : Type} (f : α → β) : ∀ {l : List β} {t : List α}, l.Perm (t.map f) → ∃ t' : List α, t'.Perm t ∧ t'.map f = l
  | [], t, h => by
    have e : t = [] := by
      have := h.length_eq
      rw [List.length_nil, List.length_map] at this
      exact List.eq_nil_of_length_eq_zero this.symm
    exact ⟨[], by rw [e], rfl⟩
  | b :: l, t, h => by
    have hb : b ∈ t.map f := h.mem_iff.mp List.mem_cons_self
    obtain ⟨a, ha, rfl⟩ := List.mem_map.mp hb
    obtain ⟨t1, t2, rfl⟩ := List.append_of_mem ha
    have h2 : (f a :: l).Perm (f a :: (t1 ++ t2).map f) := by
      refine h.trans ?_
      rw [List.map_append, List.map_cons, List.map_append]
      exact List.perm_middle
    obtain ⟨t', p, e⟩ := perm_lift f (List.Perm.cons_inv h2)
    exact ⟨a :: t', (p.cons a).trans List.perm_middle.symm, by rw [List.map_cons, e]⟩
theorem ways_flat : ∀ ns : List Int, PyData.depthAll (ns.map PyData.int) ≤ 1 ∧ PyData.canLayAll0 (ns.map PyData.int) = true
  | [] => ⟨Nat.zero_le _, rfl⟩
  | n :: ns => by
    obtain ⟨h1, h2⟩ := ways_flat ns
    refine ⟨?_, by simp [PyData.canLayAll0, PyData.canLay0, h2]⟩
    show max (PyData.depth (.int n)) (PyData.depthAll (ns.map PyData.int)) ≤ 1
    have e : PyData.depth (.int n) ≤ 1 := by simp [PyData.depth]
    omega
theorem sts_flat : ∀ S : List (List Int), PyData.depthAll (S.map wayD) ≤ 3 ∧ PyData.canLayAll0 (S.map wayD) = true
  | [] => ⟨Nat.zero_le _, rfl⟩
  | t :: S => by
    obtain ⟨h1, h2⟩ := sts_flat S
    obtain ⟨w1, w2⟩ := ways_flat t
    refine ⟨?_, by simp [PyData.canLayAll0, PyData.canLay0, wayD, h2, w2]⟩
    show max (PyData.depth (wayD t)) (PyData.depthAll (S.map wayD)) ≤ 3
    have e : PyData.depth (wayD t) ≤ 3 := by
      unfold wayD
      simp only [PyData.depth]
      omega
    omega
theorem sts_shaped (S : List (List Int)) : SeqAt.shaped (stsD S) = true := by
  obtain ⟨h1, h2⟩ := sts_flat S
  unfold SeqAt.shaped
  rw [Bool.and_eq_true, decide_eq_true_iff]
  refine ⟨by simp only [PyData.canLay0]; exact h2, ?_⟩
  simp only [PyData.depth]
  omega
theorem eqv_ints : ∀ l m : List Int, PyData.eqvAll (l.map PyData.int) (m.map PyData.int) = true → l = m
  | [], [], _ => rfl
  | [], _ :: _, h => by simp [PyData.eqvAll] at h
  | _ :: _, [], h => by simp [PyData.eqvAll] at h
  | a :: l, b :: m, h => by
    simp only [List.map_cons, PyData.eqvAll, PyData.eqv, Bool.and_eq_true, beq_iff_eq] at h
    rw [h.1, eqv_ints l m h.2]
theorem eqv_stsA : ∀ S T : List (List Int), PyData.eqvAll (S.map wayD) (T.map wayD) = true → S = T
  | [], [], _ => rfl
  | [], _ :: _, h => by simp [PyData.eqvAll] at h
  | _ :: _, [], h => by simp [PyData.eqvAll] at h
  | a :: l, b :: m, h => by
    simp only [List.map_cons, PyData.eqvAll, Bool.and_eq_true] at h
    have e : a = b := eqv_ints a b (by have := h.1; unfold wayD at this; simpa only [PyData.eqv] using this)
    rw [e, eqv_stsA l m h.2]
theorem eqv_sts {S T : List (List Int)} (h : PyData.eqv (stsD S) (stsD T) = true) : S = T := eqv_stsA S T (by simpa only [PyData.eqv] using h)
theorem cut_take {l : List Int} {k : Nat} (h : k ≤ l.length) : cutV (l.map V.int) none (some (k : Int)) = (l.take k).map V.int := by
  unfold cutV
  rw [show HT.sIx (l.map V.int).length (l.map V.int).length (some (k : Int)) = min k (l.map V.int).length from HT.sIx_nat _ _ k, HT.sIx_none, List.map_take, List.drop_zero, Nat.sub_zero, Nat.min_eq_left (by rw [List.length_map]; exact h)]
def asks4 (h : Asks) : Asks := h.map fun a => a.map four
theorem four_len {l : List Int} (h : l.length ≤ 4) : (four l).length = 4 := by
  unfold four
  rw [List.length_append, List.length_replicate]
  omega
structure HsOk (h : Asks) (kd : Nat) : Prop where
  ne : ∃ a0 w0, h[0]? = some a0 ∧ a0[0]? = some w0
  k1 : 1 ≤ kd
  k4 : kd ≤ 4
  len : ∀ a ∈ h, ∀ l ∈ a, l.length = kd
  five : ∀ a ∈ h, a.length ≤ 5
  few : h.length ≤ 100
theorem HsOk.asks {h : Asks} {kd : Nat} (o : HsOk h kd) : (∀ a ∈ asks4 h, a.length ≤ 5 ∧ ∀ w ∈ a, w.length = 4) ∧ (asks4 h).length ≤ 1000 := by
  refine ⟨fun a ha => ?_, by unfold asks4; rw [List.length_map]; have := o.few; omega⟩
  obtain ⟨b, hb, rfl⟩ := List.mem_map.mp ha
  refine ⟨by rw [List.length_map]; exact o.five b hb, fun w hw => ?_⟩
  obtain ⟨l, hl, rfl⟩ := List.mem_map.mp hw
  exact four_len (by rw [o.len b hb l hl]; exact o.k4)
theorem four_ok {s : List Int} (h1 : 1 ≤ s.length) (h4 : s.length ≤ 4) (h0 : ∀ z ∈ s, 0 ≤ z) : Ok4 (four s) := by
  match s, h1, h4, h0 with
  | [a], _, _, h => exact ⟨a, 0, 0, 0, rfl, h a (by simp), by decide, by decide, by decide⟩
  | [a, b], _, _, h => exact ⟨a, b, 0, 0, rfl, h a (by simp), h b (by simp), by decide, by decide⟩
  | [a, b, c], _, _, h => exact ⟨a, b, c, 0, rfl, h a (by simp), h b (by simp), h c (by simp), by decide⟩
  | [a, b, c, d], _, _, h => exact ⟨a, b, c, d, rfl, h a (by simp), h b (by simp), h c (by simp), h d (by simp)⟩
  | _ :: _ :: _ :: _ :: _ :: _, _, h, _ => simp at h
theorem nothing_at {K : PySem.W.Frag} {an : Addr} {o : Obj} {its : Array Value} {nn : Nat} {t0 t1 t2 t3 : Tok} (l : K.lookup an = some o) (hc : o.cls = .type "tuple") (hd : o.data = .seq #[.int 0 t0, .int 0 t1, .int 0 t2, .int 0 t3] nn) (H : Hp) : Dp K H (.ref an) (wayD [0, 0, 0, 0]) :=
  of_way (.inr ⟨o, _, nn, l, hc, hd, by show 4 ≤ sizeLine; rw [sizeLine_eq]; omega, .cons ⟨_, rfl⟩ (.cons ⟨_, rfl⟩ (.cons ⟨_, rfl⟩ (.cons ⟨_, rfl⟩ .nil)))⟩)
/-! ### max of a tuple of ints -/
def rMaxT (K : PySem.W.Frag) : List V → Hp → VK → Prop := fun vs H Q => ∃ (a : Addr) (n : Int) (ns : List Int), vs = [V.ref a] ∧ SqT K H a ((n :: ns).map V.int) ∧ Q (.int (ns.foldl max n)) H
theorem cr_maxT {X : Cx} {k : Nat} (hc : X.calm = true) (room : Room k X.A) : CallR X (.builtin "max") (rMaxT X.K) := by
  intro pins s σ H vs us Q I r h
  obtain ⟨a, n, ns, rfl, seq, q⟩ := h
  obtain ⟨its, vals, isT, _⟩ := I.tuple seq
  rw [Vals.ref1 r]
  obtain ⟨as, reads⟩ := ints_readsAll (h := s.heap) vals
  have alike : PySem.W.AlikeAll ((n :: ns).map PyData.int) := by
    refine ⟨fun x hx y hy => ?_, fun x hx e => ?_⟩
    · obtain ⟨i, _, rfl⟩ := List.mem_map.mp hx
      obtain ⟨j, _, rfl⟩ := List.mem_map.mp hy
      simp [PySem.W.alike]
    · obtain ⟨i, _, rfl⟩ := List.mem_map.mp hx
      cases e
  have un := room.un
  have dp := depthAll_ints (n :: ns)
  refine PySem.W.max_tuple_data (I.ok.hd hc) (show s.heap.IsTuple a its.toArray from isT) (by simpa using reads) alike (by show X.A.units + 1 + _ < _; have : PyData.depthAll (PyData.int n :: ns.map PyData.int) ≤ 1 := dp; omega) fun i v h' tk bs hv rd keeps => ?_
  rw [PySem.W.maxD_ints] at rd
  cases rd with
  | int _ t => exact ⟨.int _, H, I.kept keeps, ⟨t, rfl⟩, q⟩
theorem foldl_max_le : ∀ (ns : List Int) (n b : Int), ns.foldl max n ≤ b ↔ n ≤ b ∧ ∀ m ∈ ns, m ≤ b
  | [], n, b => by simp
  | m :: r, n, b => by
    rw [List.foldl_cons, foldl_max_le r (max n m) b, List.forall_mem_cons]
    constructor
    · rintro ⟨h1, h2⟩
      exact ⟨by omega, by omega, h2⟩
    · rintro ⟨h1, h2, h3⟩
      exact ⟨by omega, h3⟩
/-! ### the functions on stores of four numbers -/
def sInFour : Stmt := topS 3
def sCovOne : Stmt := topS 4
def sLeastOf : Stmt := topS 5
def sNeeded : Stmt := topS 6
def sJoined : Stmt := topS 7
def sBoth : Stmt := topS 8
def spInFour (K : PySem.W.Frag) : Sp := fun vs H Q _ => ∃ (x : V) (l : List Int), vs = [x] ∧ Dp K H x (wayD l) ∧ 1 ≤ l.length ∧ l.length ≤ 4 ∧ ∀ v H', Same H H' → Dp K H' v (wayD (four l)) → Q v H'
def spCovOne (K : PySem.W.Frag) : Sp := fun vs H Q _ => ∃ (x y : V) (s : List Int) (S : List (List Int)), vs = [x, y] ∧ Dp K H x (wayD s) ∧ Dp K H y (stsD S) ∧ s.length = 4 ∧ (∀ t ∈ S, t.length = 4) ∧ ∀ H', Same H H' → Q (.bl (anyLe s S)) H'
def spNeeded (K : PySem.W.Frag) (f : List Int → List Int → List Int) : Sp := fun vs H Q _ => ∃ (x y : V) (w : List Int) (S : List (List Int)), vs = [x, y] ∧ Dp K H x (wayD w) ∧ Dp K H y (stsD S) ∧ w.length = 4 ∧ (∀ t ∈ S, t.length = 4) ∧ S.length ≤ 5000 ∧
  ∀ q H' ps, Same H H' → H q = none → H' q = some (.lst ps) → DpAll K H' ps ((S.map (f w)).map wayD) → Q (.ref q) H'
/-- the least ones of some, sorted -/
def spLeastOf (K : PySem.W.Frag) : Sp := fun vs H Q _ => ∃ (x : V) (S : List (List Int)), vs = [x] ∧ Dp K H x (stsD S) ∧ (∀ t ∈ S, Ok4 t) ∧ S.length < 4096 ∧
  ∀ q H' ps M, Same H H' → H q = none → H' q = some (.lst ps) → DpAll K H' ps (M.map wayD) → Canon M (UpS S) → M.length ≤ S.length → Q (.ref q) H'
/-- the same, where what may come is told -/
def spLeastU (K : PySem.W.Frag) : Sp := fun vs H Q _ => ∃ (x : V) (S U : List (List Int)), vs = [x] ∧ Dp K H x (stsD S) ∧ (∀ t ∈ S, Ok4 t) ∧ S.length ≤ 100000 ∧ U.length < 4096 ∧ (∀ t ∈ S, t ∈ U) ∧
  ∀ q H' ps M, Same H H' → H q = none → H' q = some (.lst ps) → DpAll K H' ps (M.map wayD) → Canon M (UpS S) → M.length ≤ S.length → Q (.ref q) H'
theorem leastU_imp {K : PySem.W.Frag} : ∀ vs H Q E, spLeastOf K vs H Q E → spLeastU K vs H Q E := fun _ _ _ _ ⟨x, S, e, dx, ok, fw, q⟩ => ⟨x, S, S, e, dx, ok, by omega, fw, fun _ h => h, q⟩
/-- what comes where some stores and some others are joined: few in all -/
def JB (A B : List (List Int)) : Prop := ∃ U : List (List Int), U.length < 4096 ∧ (∀ s ∈ A, s ∈ U) ∧ ∀ s ∈ A, ∀ m ∈ B.map (join4 s), (∀ y ∈ B.map (join4 s), le4 y m = true → y = m) → m ∈ U
theorem jb_prod {A B : List (List Int)} (h : A.length * (B.length + 1) < 4096) : JB A B := by
  refine ⟨A ++ A.flatMap fun s => B.map (join4 s), ?_, fun s hs => List.mem_append_left _ hs, fun s hs m hm _ => List.mem_append_right _ (List.mem_flatMap.mpr ⟨s, hs, hm⟩)⟩
  rw [List.length_append, boxflat_len (q := B.length) fun s => List.length_map _]
  have : A.length * (B.length + 1) = A.length * B.length + A.length := Nat.mul_succ ..
  omega
/-- of the least of some each is one of them, below which none lies -/
theorem canon_min {M S : List (List Int)} (c : Canon M (UpS S)) (ok : ∀ s ∈ S, Ok4 s) : ∀ x ∈ M, x ∈ S ∧ ∀ y ∈ S, le4 y x = true → y = x := fun x hx => by
  have key : ∀ y ∈ S, le4 y x = true → y = x := fun y hy l => by
    obtain ⟨z, hz, lz⟩ := (c.up y (ok y hy)).mpr ⟨y, hy, le4_refl (ok y hy)⟩
    have e := c.anti z hz x hx (le4_trans lz l)
    subst e
    exact le4_anti l lz
  obtain ⟨y, hy, l⟩ := (c.up x (c.ok x hx)).mp ⟨x, hx, le4_refl (c.ok x hx)⟩
  have e := key y hy l
  subst e
  exact ⟨hy, key⟩
def spBothJ (K : PySem.W.Frag) : Sp := fun vs H Q _ => ∃ (x y : V) (A B : List (List Int)), vs = [x, y] ∧ Dp K H x (stsD A) ∧ Dp K H y (stsD B) ∧ (∀ t ∈ A, Ok4 t) ∧ (∀ t ∈ B, Ok4 t) ∧ A.length * (B.length + 1) ≤ 100000 ∧ B.length < 4096 ∧ JB A B ∧
  ∀ q H' ps M, Same H H' → H q = none → H' q = some (.lst ps) → DpAll K H' ps (M.map wayD) → Canon M (fun z => UpS A z ∧ UpS B z) → Q (.ref q) H'
def spBoth (K : PySem.W.Frag) : Sp := fun vs H Q _ => ∃ (x y : V) (A B : List (List Int)), vs = [x, y] ∧ Dp K H x (stsD A) ∧ Dp K H y (stsD B) ∧ (∀ t ∈ A, Ok4 t) ∧ (∀ t ∈ B, Ok4 t) ∧ A.length * (B.length + 1) < 4096 ∧
  ∀ q H' ps M, Same H H' → H q = none → H' q = some (.lst ps) → DpAll K H' ps (M.map wayD) → Canon M (fun z => UpS A z ∧ UpS B z) → Q (.ref q) H'
section
variable {P : Program} {w : World} {K : PySem.W.Frag} {mg : Str → Option Value} {base : Heap}
theorem scInFour : FnScope ["numbers"] ["numbers"] (defScope sInFour) := ⟨rfl, rfl, rfl, by decide +kernel, rfl, by decide +kernel, by decide +kernel⟩
theorem ok_inFour {f : Addr} {fd : FuncData} {k : Nat} {tk : Tok} (F : Fun K "in_four" "in_four" sInFour f fd) (g4 : mg "FOUR" = some (.int 4 tk)) (ml : mg "len" = none) : FnOk P w K mg base CX0 (k + 1) f fd ["numbers"] (spInFour K) := by
  refine F.ok scInFour (fun vs H Q E h => ?_) (fun cdv A outer s H vs Q E hr h => ?_)
  · obtain ⟨x, l, rfl, _⟩ := h
    rfl
  · obtain ⟨x, l, rfl, hx, l1, l4, q⟩ := h
    refine ⟨_, pss_one (ps_ret (pe_op op_catT (pv 0) (pe_op op_rep1 (pe_tup (pa_cons pe_int pa_nil)) (pe_op op_sub (pe_glob (v := .int 4) (by rfl) g4 ⟨_, rfl⟩) (pe_callB call_len_seq (by rfl) ml PySem.boot_len (pa_cons (pv 0) pa_nil)))))), ?_⟩
    obtain ⟨a, rfl, hT⟩ := way_of hx
    refine ⟨_, rfl, by show 1 ≤ sizeLine; decide, fun z nz => ?_⟩
    have sz := same_upd (o := .tup [V.int 0]) nz
    have hTz := sz.seqT hT
    have hz : SqT K (upd H z (.tup [V.int 0])) z [V.int 0] := SqT.of upd_same
    refine ⟨_, rfl, a, _, rfl, .inr hTz, 4, _, rfl, rfl, ?_⟩
    rw [List.length_map]
    have ne : l.map V.int ≠ [] := by
      intro e
      rw [List.map_eq_nil_iff] at e
      rw [e] at l1
      simp at l1
    have fin : ∀ (b : Addr) (H2 : Hp), Same (upd H z (.tup [V.int 0])) H2 → SqT K H2 b (List.replicate (4 - l.length) (V.int 0)) → rCatT K (.ref a) (.ref b) H2 Q := fun b H2 s2 hb => by
      refine ⟨a, b, _, _, rfl, rfl, s2.seqT hTz, hb, ne, by simp only [List.length_map, List.length_replicate]; rw [sizeLine_eq]; omega, fun e => ?_, fun e p np => ?_⟩
      · have e0 : 4 - l.length = 0 := by simpa using e
        refine q _ _ (sz.trans s2) ?_
        unfold four
        rw [e0]
        simpa using of_way (s2.seqT hTz)
      · refine q _ _ ((sz.trans s2).trans (same_upd np)) ?_
        have m : l.map V.int ++ List.replicate (4 - l.length) (V.int 0) = (four l).map V.int := by unfold four; rw [List.map_append, List.map_replicate]
        rw [m]
        exact of_way (SqT.of upd_same)
    refine ⟨z, 4 - (l.length : Int), V.int 0, rfl, rfl, hz, by omega, by omega, fun e => ?_, fun e p np => ?_⟩
    · have e1 : 4 - l.length = 1 := by omega
      refine fin z _ (Same.refl _) ?_
      rw [e1]
      exact hz
    · have et : (4 - (l.length : Int)).toNat = 4 - l.length := by omega
      rw [et]
      exact fin p _ (same_upd np) (SqT.of upd_same)
theorem scCovOne : FnScope ["store", "stores", "a", "b", "c", "d", "e", "f", "g", "h"] ["store", "stores"] (defScope sCovOne) := ⟨rfl, rfl, rfl, by decide +kernel, rfl, by decide +kernel, by decide +kernel⟩
theorem ok_covOne {f : Addr} {fd : FuncData} {k : Nat} (F : Fun K "covers_one" "covers_one" sCovOne f fd) : FnOk P w K mg base CX0 (k + 1) f fd ["store", "stores"] (spCovOne K) := by
  refine F.ok scCovOne (fun vs H Q E h => ?_) (fun cdv A outer s H vs Q E hr h => ?_)
  · obtain ⟨x, y, s, S, rfl, _⟩ := h
    rfl
  · obtain ⟨x, y, s, S, rfl, hx, hy, l4, lS, q⟩ := h
    refine ⟨_, pss_cons (ps_asg (pv 0) (pg_tup (by rfl) (pgs_cons (pg_name (i := 2) scCovOne.nd rfl (.inl rfl)) (pgs_cons (pg_name (i := 3) scCovOne.nd rfl (.inl rfl)) (pgs_cons (pg_name (i := 4) scCovOne.nd rfl (.inl rfl)) (pgs_cons (pg_name (i := 5) scCovOne.nd rfl (.inl rfl)) pgs_nil))))))
      (pss_cons (ps_for PassesOwn.never rfl (pi_list (pv 1)) (pg_tup (by rfl) (pgs_cons (pg_name (i := 6) scCovOne.nd rfl (.inl rfl)) (pgs_cons (pg_name (i := 7) scCovOne.nd rfl (.inl rfl)) (pgs_cons (pg_name (i := 8) scCovOne.nd rfl (.inl rfl)) (pgs_cons (pg_name (i := 9) scCovOne.nd rfl (.inl rfl)) pgs_nil)))))
        (pss_one (ps_if (PW.pt (pw_and (pt_cmpR op_ge (pv 2) (pv 6) (nomark _)) (pw_and (pt_cmpR op_ge (pv 3) (pv 7) (nomark _)) (pw_and (pt_cmpR op_ge (pv 4) (pv 8) (nomark _)) (pw_and1 (pt_cmpR op_ge (pv 5) (pv 9) (nomark _))))))) (pss_one (ps_ret pe_bl)) pss_nil)))
      (pss_one (ps_ret pe_bl))), ?_⟩
    obtain ⟨sa, rfl, hT⟩ := way_of hx
    obtain ⟨l, vs, rfl, hL, hall⟩ := sts_of hy
    obtain ⟨a, b, c, d, rfl⟩ := four_of l4
    refine ⟨_, rfl, sa, _, rfl, hT, rfl, _, _, rfl, _, _, rfl, _, _, rfl, _, _, rfl, rfl, ?_⟩
    refine ⟨_, rfl, l, rfl, ⟨_, hL⟩, ?_⟩
    refine for_list (K := K) (a := l) (xs := vs) (fun j σ H1 => ∃ (y6 y7 y8 y9 : Option V), σ = [some (.ref sa), some (.ref l), some (.int a), some (.int b), some (.int c), some (.int d), y6, y7, y8, y9] ∧ H1 = H ∧ anyLe [a, b, c, d] (S.take j) = false)
      ⟨none, none, none, none, rfl, rfl, rfl⟩ ?_ ?_ ?_
    · rintro j σ H1 _ ⟨_, _, _, _, _, rfl, _⟩
      exact hL
    · rintro j v σ H1 hj ⟨y6, y7, y8, y9, rfl, rfl, no⟩
      obtain ⟨t, ht, dv⟩ := sts_get hall hj
      obtain ⟨ta, rfl, hTt⟩ := way_of dv
      obtain ⟨e, f, g, h, rfl⟩ := four_of (lS t (List.mem_of_getElem? ht))
      refine ⟨ta, _, rfl, hTt, rfl, _, _, rfl, _, _, rfl, _, _, rfl, _, _, rfl, rfl, ?_⟩
      have yes : a ≥ e → b ≥ f → c ≥ g → d ≥ h → Q (.bl true) H1 := fun h1 h2 h3 h4 => by
        have z : anyLe [a, b, c, d] S = true := anyLe_iff.mpr ⟨[e, f, g, h], List.mem_of_getElem? ht, le4_iff.mpr ⟨h1, h2, h3, h4⟩⟩
        rw [← z]
        exact q _ (Same.refl _)
      have next : ¬ (e ≤ a ∧ f ≤ b ∧ g ≤ c ∧ h ≤ d) → anyLe [a, b, c, d] (S.take (j + 1)) = false := fun nn => by
        rw [take_snoc ht]
        unfold anyLe at no ⊢
        rw [List.any_append, no, Bool.false_or, List.any_cons, List.any_nil, Bool.or_false]
        exact Bool.eq_false_iff.mpr fun z => nn (le4_iff.mp z)
      refine ⟨_, rfl, _, rfl, a, e, rfl, rfl, _, rfl, ite2 (fun c1 => ?_) fun c1 => ?_⟩
      · refine ⟨_, rfl, _, rfl, b, f, rfl, rfl, _, rfl, ite2 (fun c2 => ?_) fun c2 => ?_⟩
        · refine ⟨_, rfl, _, rfl, c, g, rfl, rfl, _, rfl, ite2 (fun c3 => ?_) fun c3 => ?_⟩
          · refine ⟨_, rfl, _, rfl, d, h, rfl, rfl, _, rfl, ite2 (fun c4 => ?_) fun c4 => ?_⟩
            · exact yes (of_decide_eq_true c1) (of_decide_eq_true c2) (of_decide_eq_true c3) (of_decide_eq_true c4)
            · exact ⟨_, _, _, _, rfl, rfl, next fun z => c4 (decide_eq_true z.2.2.2)⟩
          · exact ⟨_, _, _, _, rfl, rfl, next fun z => c3 (decide_eq_true z.2.2.1)⟩
        · exact ⟨_, _, _, _, rfl, rfl, next fun z => c2 (decide_eq_true z.2.1)⟩
      · exact ⟨_, _, _, _, rfl, rfl, next fun z => c1 (decide_eq_true z.1)⟩
    · rintro σ H1 ⟨y6, y7, y8, y9, rfl, rfl, no⟩
      rw [take_all (sts_len hall)] at no
      rw [← no]
      exact q _ (Same.refl _)
end

section
variable {P : Program} {w : World} {K : PySem.W.Frag} {mg : Str → Option Value} {base : Heap}
theorem scNeeded : FnScope ["way", "stores", "a", "b", "c", "d", "e", "f", "g", "h"] ["way", "stores"] (defScope sNeeded) := ⟨rfl, rfl, rfl, by decide +kernel, rfl, by decide +kernel, by decide +kernel⟩
theorem scJoined : FnScope ["store", "stores", "a", "b", "c", "d", "e", "f", "g", "h"] ["store", "stores"] (defScope sJoined) := ⟨rfl, rfl, rfl, by decide +kernel, rfl, by decide +kernel, by decide +kernel⟩
theorem ok_needed {f : Addr} {fd : FuncData} {k : Nat} (F : Fun K "needed" "needed" sNeeded f fd) (mx : mg "max" = none) : FnOk P w K mg base CX0 (k + 1) f fd ["way", "stores"] (spNeeded K need4) := by
  refine F.ok scNeeded (fun vs H Q E h => ?_) (fun cdv A outer s H vs Q E hr h => ?_)
  · obtain ⟨x, y, s, S, rfl, _⟩ := h
    rfl
  · obtain ⟨x, y, s, S, rfl, hx, hy, l4, lS, fw, q⟩ := h
    refine ⟨_, pss_cons (ps_asg (pv 0) (pg_tup (by rfl) (pgs_cons (pg_name (i := 2) scNeeded.nd rfl (.inr rfl)) (pgs_cons (pg_name (i := 3) scNeeded.nd rfl (.inr rfl)) (pgs_cons (pg_name (i := 4) scNeeded.nd rfl (.inr rfl)) (pgs_cons (pg_name (i := 5) scNeeded.nd rfl (.inr rfl)) pgs_nil))))))
      (pss_one (ps_ret (pe_lc (own := [("e", 6), ("f", 7), ("g", 8), ("h", 9)]) (g := gTup K 4 (gCons (gName 6) (gCons (gName 7) (gCons (gName 8) (gCons (gName 9) gNil))))) (tt := tYes) rfl scNeeded.nd (pi_list (pv 1))
        (blkOk_by (N := ["way", "stores", "a", "b", "c", "d", "e", "f", "g", "h"]) (sc := defScope sNeeded) (by decide +kernel))
        (fun _ _ _ _ _ => by refine pg_tup rfl (pgs_cons ?_ (pgs_cons ?_ (pgs_cons ?_ (pgs_cons ?_ pgs_nil)))); exact pg_name (i := 6) scNeeded.nd rfl (.inl rfl); exact pg_name (i := 7) scNeeded.nd rfl (.inl rfl); exact pg_name (i := 8) scNeeded.nd rfl (.inl rfl); exact pg_name (i := 9) scNeeded.nd rfl (.inl rfl))
        (fun _ _ _ _ _ => pts_nil)
        (fun _ _ _ _ _ => by exact pe_tup (pa_cons (pe_callB (call_max2 rfl) (by rfl) mx (by decide +kernel) (pa_cons pe_int (pa_cons (pe_op op_sub (pv 6) (pv 2)) pa_nil)))
          (pa_cons (pe_callB (call_max2 rfl) (by rfl) mx (by decide +kernel) (pa_cons pe_int (pa_cons (pe_op op_sub (pv 7) (pv 3)) pa_nil)))
          (pa_cons (pe_callB (call_max2 rfl) (by rfl) mx (by decide +kernel) (pa_cons pe_int (pa_cons (pe_op op_sub (pv 8) (pv 4)) pa_nil)))
          (pa_cons (pe_callB (call_max2 rfl) (by rfl) mx (by decide +kernel) (pa_cons pe_int (pa_cons (pe_op op_sub (pv 9) (pv 5)) pa_nil))) pa_nil)))))))), ?_⟩
    obtain ⟨sa, rfl, hT⟩ := way_of hx
    obtain ⟨l, vs, rfl, hL, hall⟩ := sts_of hy
    obtain ⟨a, b, c, d, rfl⟩ := four_of l4
    have lv := sts_len hall
    refine ⟨_, rfl, sa, _, rfl, hT, rfl, _, _, rfl, _, _, rfl, _, _, rfl, _, _, rfl, rfl, ?_⟩
    refine ⟨_, rfl, l, rfl, ⟨_, hL⟩, fun D nD => ?_⟩
    have sD := same_upd (o := .lst []) nD
    refine lc_list (K := K) (a := l) (xs := vs) (fun j H1 => Same H H1 ∧ ∃ ps, H1 D = some (.lst ps) ∧ DpAll K H1 ps (((S.take j).map (need4 [a, b, c, d])).map wayD)) ⟨sD, [], upd_same, .nil⟩ (fun j H1 _ ⟨s1, _⟩ => s1.seq hL) ?_ ?_
    · rintro j v H1 hj ⟨s1, ps, hD, dps⟩
      obtain ⟨t, ht, dv⟩ := sts_get hall hj
      obtain ⟨ta, rfl, hTt⟩ := way_of dv
      obtain ⟨e, f, g, h, rfl⟩ := four_of (lS t (List.mem_of_getElem? ht))
      have lp := dpAll_len dps
      simp only [List.length_map, List.length_take] at lp
      have e0 : wipe [some (V.ref sa), some (V.ref l), some (V.int a), some (V.int b), some (V.int c), some (V.int d), none, none, none, none] [6, 7, 8, 9] = [some (V.ref sa), some (V.ref l), some (V.int a), some (V.int b), some (V.int c), some (V.int d), none, none, none, none] := rfl
      show gTup K 4 (gCons (gName 6) (gCons (gName 7) (gCons (gName 8) (gCons (gName 9) gNil)))) (.ref ta) (wipe [some (V.ref sa), some (V.ref l), some (V.int a), some (V.int b), some (V.int c), some (V.int d), none, none, none, none] [6, 7, 8, 9]) H1 _
      rw [e0]
      refine ⟨ta, _, rfl, s1.seqT hTt, rfl, V.int e, _, rfl, V.int f, _, rfl, V.int g, _, rfl, V.int h, _, rfl, rfl, ?_⟩
      simp only [List.set_cons_succ, List.set_cons_zero]
      refine ⟨rfl, ?_⟩
      refine ⟨_, rfl, _, rfl, e, a, rfl, rfl, 0, _, rfl, ?_⟩
      refine ⟨_, rfl, _, rfl, f, b, rfl, rfl, 0, _, rfl, ?_⟩
      refine ⟨_, rfl, _, rfl, g, c, rfl, rfl, 0, _, rfl, ?_⟩
      refine ⟨_, rfl, _, rfl, h, d, rfl, rfl, 0, _, rfl, ?_⟩
      refine ⟨by show 4 ≤ sizeLine; decide, fun T nT => ?_⟩
      have sT := same_upd (o := .tup [V.int (if e - a > 0 then e - a else 0), V.int (if f - b > 0 then f - b else 0), V.int (if g - c > 0 then g - c else 0), V.int (if h - d > 0 then h - d else 0)]) nT
      have nDT : D ≠ T := ne_of_none hD nT
      have hT2 : SqT K (upd H1 T (.tup [V.int (if e - a > 0 then e - a else 0), V.int (if f - b > 0 then f - b else 0), V.int (if g - c > 0 then g - c else 0), V.int (if h - d > 0 then h - d else 0)])) T ((need4 [a, b, c, d] [e, f, g, h]).map V.int) := by
        have e1 : need4 [a, b, c, d] [e, f, g, h] = [if e - a > 0 then e - a else 0, if f - b > 0 then f - b else 0, if g - c > 0 then g - c else 0, if h - d > 0 then h - d else 0] := by
          show [max 0 (e - a), max 0 (f - b), max 0 (g - c), max 0 (h - d)] = _
          rw [maxI, maxI, maxI, maxI]
        rw [e1]
        exact SqT.of upd_same
      refine ⟨ps, sT _ _ hD, small_line (by omega), fun b2 o e2 => ?_, ps ++ [.ref T], upd_same, ?_⟩
      · rw [upd_ne (ne_of_none e2 nD)]
        exact sT _ _ (s1 _ _ e2)
      · rw [take_snoc ht, List.map_append, List.map_append]
        exact dpAll_put (sT _ _ hD) (dpAll_app (dpAll_same sT dps) (.cons (of_way hT2) .nil)) (noL_app _ _)
    · rintro H1 ⟨s1, ps, hD, dps⟩
      rw [take_all lv] at dps
      exact q D H1 ps s1 nD hD dps
def tGt (i j : Nat) : TE := tIf (tTest (tOp (rI0 fun i j => .bl (decide (j < i))) (tVar i) (tVar j))) (tVar i) (tVar j)
theorem if_vars {σ : L2.St} {H : Hp} {Q : VK} {i j : Nat} {a e : Int} (h1 : σ[i]? = some (some (.int a))) (h2 : σ[j]? = some (some (.int e))) (q : Q (.int (max a e)) H) :
    tGt i j σ H Q := by
  refine ⟨_, h1, _, h2, a, e, rfl, rfl, _, rfl, ite2 (fun c => ?_) fun c => ?_⟩
  · have := of_decide_eq_true c
    rw [show max a e = a by omega] at q
    exact ⟨_, h1, q⟩
  · have : ¬ e < a := fun z => c (decide_eq_true z)
    rw [show max a e = e by omega] at q
    exact ⟨_, h2, q⟩
theorem ok_joined {f : Addr} {fd : FuncData} {k : Nat} (F : Fun K "joined" "joined" sJoined f fd) : FnOk P w K mg base CX0 (k + 1) f fd ["store", "stores"] (spNeeded K join4) := by
  refine F.ok scJoined (fun vs H Q E h => ?_) (fun cdv A outer s H vs Q E hr h => ?_)
  · obtain ⟨x, y, s, S, rfl, _⟩ := h
    rfl
  · obtain ⟨x, y, s, S, rfl, hx, hy, l4, lS, fw, q⟩ := h
    refine ⟨_, pss_cons (ps_asg (pv 0) (pg_tup (by rfl) (pgs_cons (pg_name (i := 2) scJoined.nd rfl (.inr rfl)) (pgs_cons (pg_name (i := 3) scJoined.nd rfl (.inr rfl)) (pgs_cons (pg_name (i := 4) scJoined.nd rfl (.inr rfl)) (pgs_cons (pg_name (i := 5) scJoined.nd rfl (.inr rfl)) pgs_nil))))))
      (pss_one (ps_ret (pe_lc (own := [("e", 6), ("f", 7), ("g", 8), ("h", 9)]) (g := gTup K 4 (gCons (gName 6) (gCons (gName 7) (gCons (gName 8) (gCons (gName 9) gNil))))) (tt := tYes) (te := tTup (tCons (tGt 2 6) (tCons (tGt 3 7) (tCons (tGt 4 8) (tCons (tGt 5 9) tNil))))) rfl scJoined.nd (pi_list (pv 1))
        (blkOk_by (N := ["store", "stores", "a", "b", "c", "d", "e", "f", "g", "h"]) (sc := defScope sJoined) (by decide +kernel))
        (fun _ _ _ _ _ => by refine pg_tup rfl (pgs_cons ?_ (pgs_cons ?_ (pgs_cons ?_ (pgs_cons ?_ pgs_nil)))); exact pg_name (i := 6) scJoined.nd rfl (.inl rfl); exact pg_name (i := 7) scJoined.nd rfl (.inl rfl); exact pg_name (i := 8) scJoined.nd rfl (.inl rfl); exact pg_name (i := 9) scJoined.nd rfl (.inl rfl))
        (fun _ _ _ _ _ => pts_nil)
        (fun _ _ _ _ _ => by refine pe_tup (pa_cons ?_ (pa_cons ?_ (pa_cons ?_ (pa_cons ?_ pa_nil)))); exact (pe_ifExp (pt_cmpR op_gt (pv 2) (pv 6) (nomark _)) (pv 2) (pv 6)); exact (pe_ifExp (pt_cmpR op_gt (pv 3) (pv 7) (nomark _)) (pv 3) (pv 7)); exact (pe_ifExp (pt_cmpR op_gt (pv 4) (pv 8) (nomark _)) (pv 4) (pv 8)); exact (pe_ifExp (pt_cmpR op_gt (pv 5) (pv 9) (nomark _)) (pv 5) (pv 9)))))), ?_⟩
    obtain ⟨sa, rfl, hT⟩ := way_of hx
    obtain ⟨l, vs, rfl, hL, hall⟩ := sts_of hy
    obtain ⟨a, b, c, d, rfl⟩ := four_of l4
    have lv := sts_len hall
    refine ⟨_, rfl, sa, _, rfl, hT, rfl, _, _, rfl, _, _, rfl, _, _, rfl, _, _, rfl, rfl, ?_⟩
    refine ⟨_, rfl, l, rfl, ⟨_, hL⟩, fun D nD => ?_⟩
    have sD := same_upd (o := .lst []) nD
    refine lc_list (K := K) (a := l) (xs := vs) (fun j H1 => Same H H1 ∧ ∃ ps, H1 D = some (.lst ps) ∧ DpAll K H1 ps (((S.take j).map (join4 [a, b, c, d])).map wayD)) ⟨sD, [], upd_same, .nil⟩ (fun j H1 _ ⟨s1, _⟩ => s1.seq hL) ?_ ?_
    · rintro j v H1 hj ⟨s1, ps, hD, dps⟩
      obtain ⟨t, ht, dv⟩ := sts_get hall hj
      obtain ⟨ta, rfl, hTt⟩ := way_of dv
      obtain ⟨e, f, g, h, rfl⟩ := four_of (lS t (List.mem_of_getElem? ht))
      have lp := dpAll_len dps
      simp only [List.length_map, List.length_take] at lp
      have e0 : wipe [some (V.ref sa), some (V.ref l), some (V.int a), some (V.int b), some (V.int c), some (V.int d), none, none, none, none] [6, 7, 8, 9] = [some (V.ref sa), some (V.ref l), some (V.int a), some (V.int b), some (V.int c), some (V.int d), none, none, none, none] := rfl
      show gTup K 4 (gCons (gName 6) (gCons (gName 7) (gCons (gName 8) (gCons (gName 9) gNil)))) (.ref ta) (wipe [some (V.ref sa), some (V.ref l), some (V.int a), some (V.int b), some (V.int c), some (V.int d), none, none, none, none] [6, 7, 8, 9]) H1 _
      rw [e0]
      refine ⟨ta, _, rfl, s1.seqT hTt, rfl, V.int e, _, rfl, V.int f, _, rfl, V.int g, _, rfl, V.int h, _, rfl, rfl, ?_⟩
      simp only [List.set_cons_succ, List.set_cons_zero]
      refine ⟨rfl, ?_⟩
      refine if_vars rfl rfl (if_vars rfl rfl (if_vars rfl rfl (if_vars rfl rfl ?_)))
      refine ⟨by show 4 ≤ sizeLine; decide, fun T nT => ?_⟩
      have sT := same_upd (o := .tup [V.int (max a e), V.int (max b f), V.int (max c g), V.int (max d h)]) nT
      have nDT : D ≠ T := ne_of_none hD nT
      have hT2 : SqT K (upd H1 T (.tup [V.int (max a e), V.int (max b f), V.int (max c g), V.int (max d h)])) T ((join4 [a, b, c, d] [e, f, g, h]).map V.int) := by
        show SqT K _ T ([max a e, max b f, max c g, max d h].map V.int)
        exact SqT.of upd_same
      refine ⟨ps, sT _ _ hD, small_line (by omega), fun b2 o e2 => ?_, ps ++ [.ref T], upd_same, ?_⟩
      · rw [upd_ne (ne_of_none e2 nD)]
        exact sT _ _ (s1 _ _ e2)
      · rw [take_snoc ht, List.map_append, List.map_append]
        exact dpAll_put (sT _ _ hD) (dpAll_app (dpAll_same sT dps) (.cons (of_way hT2) .nil)) (noL_app _ _)
    · rintro H1 ⟨s1, ps, hD, dps⟩
      rw [take_all lv] at dps
      exact q D H1 ps s1 nD hD dps
end

section
variable {P : Program} {w : World} {K : PySem.W.Frag} {mg : Str → Option Value} {base : Heap}
theorem scLeastOf : FnScope ["stores", "found", "store"] ["stores"] (defScope sLeastOf) := ⟨rfl, rfl, rfl, by decide +kernel, rfl, by decide +kernel, by decide +kernel⟩
theorem ok_leastU {f fC : Addr} {fd fdC : FuncData} {k : Nat} (F : Fun K "least_of" "least_of" sLeastOf f fd) (GC : FnOk P w K mg base CX0 (k + 1) fC fdC ["store", "stores"] (spCovOne K)) (kC : PySem.W.keepIn K (.ref fC) = true) (bC : Binds K fdC ["store", "stores"] []) (gC : mg "covers_one" = some (.ref fC))
    (ms : mg "sorted" = none) (mset : mg "set" = none) : FnOk P w K mg base CX0 (k + 2) f fd ["stores"] (spLeastU K) := by
  refine F.ok scLeastOf (fun vs H Q E h => ?_) (fun cdv A outer s H vs Q E hr h => ?_)
  · obtain ⟨x, S, U, rfl, _⟩ := h
    rfl
  · obtain ⟨x, S, U, rfl, hx, okS, lS, fw, inU, q⟩ := h
    refine ⟨_, pss_cons (ps_set (i := 1) scLeastOf.nd rfl (.inl rfl) (pe_lst pa_nil))
      (pss_cons (ps_for PassesOwn.never rfl (pi_list (pe_callB (cr_sortedG rfl) (by rfl) ms (by decide +kernel) (pa_cons (pe_callTy (cr_setG rfl hr.units) (by rfl) mset (by decide +kernel) (pa_cons (pv 0) pa_nil)) pa_nil))) (pg_name (i := 2) scLeastOf.nd rfl (.inl rfl))
        (pss_one (ps_if (pt_not (pt_val (pe_call GC hr (by rfl) gC kC bC .nil pass0 (pa_cons (pv 2) (pa_cons (pv 1) pa_nil)))))
          (pss_one (ps_expr (pe_bm PySem.F.plainAttrs_list PySem.F.slot_list_append PySem.F.type_list_append mt_append (pv 1) (pa_cons (pv 2) pa_nil)))) pss_nil)))
      (pss_one (ps_ret (pv 1)))), ?_⟩
    obtain ⟨l, vs, rfl, hL, hall⟩ := sts_of hx
    obtain ⟨ks, rfl, rfl, hks⟩ := sts_refs hall
    refine ⟨by show 0 ≤ sizeLine; decide, fun F0 nF => ?_⟩
    have sF := same_upd (o := .lst []) nF
    rw [List.length_map] at lS
    refine ⟨_, rfl, l, ks, U, rfl, sF.seq hL, fun p hp => sF.seqT (hks p hp), fw, fun p hp => inU _ (List.mem_map.mpr ⟨p, hp, rfl⟩), fun a L na sub all few => ?_⟩
    have sA := same_upd (o := SetGO P w a L) na
    have sFA := sF.trans sA
    have l4 : ∀ p ∈ L, p.2.length = 4 := fun p hp => ok4_len (okS _ (List.mem_map.mpr ⟨p, sub p hp, rfl⟩))
    refine ⟨a, L, 4, rfl, upd_same, fun p hp => sFA.seqT (hks p (sub p hp)), few, by decide, l4, fun M p pm nd pw np => ?_⟩
    have sP := same_upd (o := .lst (M.map fun q => V.ref q.1)) np
    have s3 := sFA.trans sP
    have hF3 := sP _ _ (sA _ _ (upd_same (H := H) (a := F0) (o := .lst [])))
    obtain ⟨Hs, eHs⟩ : ∃ Hs, Hs = upd (upd (upd H F0 (.lst [])) a (SetGO P w a L)) p (.lst (M.map fun q => V.ref q.1)) := ⟨_, rfl⟩
    have hp3 : Hs p = some (.lst (M.map fun q => V.ref q.1)) := by rw [eHs]; exact upd_same
    have kp0 : Kp F0 Hs (upd (upd (upd H F0 (.lst [])) a (SetGO P w a L)) p (.lst (M.map fun q => V.ref q.1))) := by rw [eHs]; exact Kp.refl _ _
    have hF0 : (upd (upd (upd H F0 (.lst [])) a (SetGO P w a L)) p (.lst (M.map fun q => V.ref q.1))) F0 = some (.lst []) := hF3
    have s3 : Same H Hs := by rw [eHs]; exact s3
    have hF3 : Hs F0 = some (.lst []) := by rw [eHs]; exact hF3
    have nFp : p ≠ F0 := fun e => by
      subst e
      have z := (sA _ _ (upd_same (H := H) (a := p) (o := .lst []))).symm.trans np
      cases z
    have hM : ∀ q ∈ M, SqT K Hs q.1 (q.2.map V.int) := fun q hq => s3.seqT (hks q (sub q (pm.mem_iff.mp hq)))
    have memM : ∀ t, t ∈ M.map (·.2) ↔ t ∈ ks.map (·.2) := fun t => ⟨fun h => by
      obtain ⟨q, hq, rfl⟩ := List.mem_map.mp h
      exact List.mem_map.mpr ⟨q, sub q (pm.mem_iff.mp hq), rfl⟩, fun h => by
      obtain ⟨q, hq, rfl⟩ := List.mem_map.mp h
      exact ((pm.map (·.2)).mem_iff).mpr (all q hq)⟩
    have okM : ∀ t ∈ M.map (·.2), Ok4 t := fun t ht => okS t ((memM t).mp ht)
    have srt : (M.map (·.2)).Pairwise fun x y => HT.lexLt x y = true := by
      have nd' := List.pairwise_map.mp nd
      refine List.pairwise_map.mpr (List.Pairwise.imp_of_mem (fun {x y} hx hy z => ?_) (pw.and nd'))
      rcases lex4_tot ((ok4_len (okM _ (List.mem_map.mpr ⟨x, hx, rfl⟩))).trans (ok4_len (okM _ (List.mem_map.mpr ⟨y, hy, rfl⟩))).symm) z.1 with e | e
      · exact absurd e z.2
      · exact e
    have lenM : (M.map (·.2)).length ≤ (ks.map (·.2)).length := len_among _ _ nd fun t ht => (memM t).mp ht
    have okT : ∀ j, ∀ t ∈ sieve [] ((M.map (·.2)).take j), Ok4 t := fun j t ht => by
      have c := sieve_canon (T := (M.map (·.2)).take j) (fun x hx => okM x (List.mem_of_mem_take hx)) (srt.sublist (List.take_sublist j _))
      exact c.ok t ht
    refine ⟨p, rfl, ⟨_, SqL.of upd_same⟩, ?_⟩
    refine for_list (K := K) (a := p) (xs := M.map fun q => V.ref q.1) (fun j σ H1 => ∃ (y2 : Option V) (ps : List V), σ = [some (.ref l), some (.ref F0), y2] ∧ Kp F0 Hs H1 ∧ H1 F0 = some (.lst ps) ∧ DpAll K H1 ps ((sieve [] ((M.map (·.2)).take j)).map wayD))
      ⟨none, [], rfl, kp0, hF0, .nil⟩ ?_ ?_ ?_
    · rintro j σ H1 _ ⟨_, _, _, kp, _⟩
      exact SqL.of (kp _ _ hp3 nFp)
    · rintro j v σ H1 hj ⟨y2, ps, rfl, kp, hF, dps⟩
      rw [List.getElem?_map] at hj
      obtain ⟨mq, hmq, rfl⟩ := Option.map_eq_some_iff.mp hj
      have hT : SqT K H1 mq.1 (mq.2.map V.int) := kp.seqT hF3 (hM mq (List.mem_of_getElem? hmq))
      have ht : (M.map (·.2))[j]? = some mq.2 := by rw [List.getElem?_map, hmq]; rfl
      have ok := okM mq.2 (List.mem_of_getElem? ht)
      refine ⟨_, rfl, _, rfl, .ref mq.1, .ref F0, mq.2, sieve [] ((M.map (·.2)).take j), rfl, of_way hT, .lst (SqL.of hF) dps, ok4_len ok, fun t h => ok4_len (okT j t h), fun H2 s2 => ?_⟩
      refine ⟨_, rfl, ?_⟩
      have hF2 := s2 _ _ hF
      have kp2 := kp.same s2
      rw [take_snoc ht, sieve_snoc]
      cases c : anyLe mq.2 (sieve [] ((M.map (·.2)).take j)) with
      | true =>
        refine ifF rfl ?_
        rw [if_pos rfl]
        exact ⟨_, ps, rfl, kp2, hF2, dpAll_same s2 dps⟩
      | false =>
        refine ifT rfl ?_
        rw [if_neg (by decide)]
        refine ⟨_, rfl, .inl ⟨rfl, _, SqL.of hF2⟩, _, rfl, F0, _, _, rfl, rfl, hF2, small_line ?_, ?_⟩
        · have lp := sts_len dps
          have := sieve_len ((M.map (·.2)).take j) []
          simp only [List.length_map, List.length_take, List.length_nil] at this lenM
          omega
        · refine ⟨_, ps ++ [.ref mq.1], rfl, kp2.trans (kp_upd F0 H2 _), upd_same, ?_⟩
          rw [List.map_append]
          exact dpAll_put hF2 (dpAll_app (dpAll_same s2 dps) (.cons (of_way (s2.seqT hT)) .nil)) (noL_app _ [mq.2])
    · rintro σ H1 ⟨y2, ps, rfl, kp, hF, dps⟩
      rw [take_all (by rw [List.length_map, List.length_map])] at dps
      have can := sieve_canon okM srt
      refine ⟨_, rfl, q F0 H1 ps _ (fun b o e => kp b o (s3 b o e) (ne_of_none e nF)) nF hF dps (can.congr fun x _ => ⟨fun ⟨y, hy, e⟩ => ⟨y, (memM y).mp hy, e⟩, fun ⟨y, hy, e⟩ => ⟨y, (memM y).mpr hy, e⟩⟩) ?_⟩
      have := sieve_len (M.map (·.2)) []
      simp only [List.length_nil] at this
      omega
theorem ok_leastOf {f fC : Addr} {fd fdC : FuncData} {k : Nat} (F : Fun K "least_of" "least_of" sLeastOf f fd) (GC : FnOk P w K mg base CX0 (k + 1) fC fdC ["store", "stores"] (spCovOne K)) (kC : PySem.W.keepIn K (.ref fC) = true) (bC : Binds K fdC ["store", "stores"] []) (gC : mg "covers_one" = some (.ref fC))
    (ms : mg "sorted" = none) (mset : mg "set" = none) : FnOk P w K mg base CX0 (k + 2) f fd ["stores"] (spLeastOf K) := (ok_leastU F GC kC bC gC ms mset).imp leastU_imp
end
theorem upS_app {A B : List (List Int)} {z : List Int} : UpS (A ++ B) z ↔ UpS A z ∨ UpS B z := by
  constructor
  · rintro ⟨y, hy, l⟩
    rcases List.mem_append.mp hy with hy | hy
    · exact .inl ⟨y, hy, l⟩
    · exact .inr ⟨y, hy, l⟩
  · rintro (⟨y, hy, l⟩ | ⟨y, hy, l⟩)
    · exact ⟨y, List.mem_append_left _ hy, l⟩
    · exact ⟨y, List.mem_append_right _ hy, l⟩
section
variable {P : Program} {w : World} {K : PySem.W.Frag} {mg : Str → Option Value} {base : Heap}
theorem scBoth : FnScope ["stores", "others", "found", "store"] ["stores", "others"] (defScope sBoth) := ⟨rfl, rfl, rfl, by decide +kernel, rfl, by decide +kernel, by decide +kernel⟩
theorem ok_bothJ {f fC fJ fL : Addr} {fd fdC fdJ fdL : FuncData} {k : Nat} (F : Fun K "least_in_both" "least_in_both" sBoth f fd)
    (GC : FnOk P w K mg base CX0 (k + 2) fC fdC ["store", "stores"] (spCovOne K)) (kC : PySem.W.keepIn K (.ref fC) = true) (bC : Binds K fdC ["store", "stores"] []) (gC : mg "covers_one" = some (.ref fC))
    (GJ : FnOk P w K mg base CX0 (k + 2) fJ fdJ ["store", "stores"] (spNeeded K join4)) (kJ : PySem.W.keepIn K (.ref fJ) = true) (bJ : Binds K fdJ ["store", "stores"] []) (gJ : mg "joined" = some (.ref fJ))
    (GL : FnOk P w K mg base CX0 (k + 2) fL fdL ["stores"] (spLeastU K)) (kL : PySem.W.keepIn K (.ref fL) = true) (bL : Binds K fdL ["stores"] []) (gL : mg "least_of" = some (.ref fL)) :
    FnOk P w K mg base CX0 (k + 3) f fd ["stores", "others"] (spBothJ K) := by
  refine F.ok scBoth (fun vs H Q E h => ?_) (fun cdv A' outer s H vs Q E hr h => ?_)
  · obtain ⟨x, y, A, B, rfl, _⟩ := h
    rfl
  · obtain ⟨x, y, A, B, rfl, hx, hy, okA, okB, fw, lB, jb, q⟩ := h
    obtain ⟨U, lU, aU, mU⟩ := jb
    refine ⟨_, pss_cons (ps_set (i := 2) scBoth.nd rfl (.inl rfl) (pe_lst pa_nil))
      (pss_cons (ps_for PassesOwn.never rfl (pi_list (pv 0)) (pg_name (i := 3) scBoth.nd rfl (.inl rfl))
        (pss_one (ps_if (pt_val (pe_call GC hr (by rfl) gC kC bC .nil pass0 (pa_cons (pv 3) (pa_cons (pv 1) pa_nil))))
          (pss_one (ps_expr (pe_bm PySem.F.plainAttrs_list PySem.F.slot_list_append PySem.F.type_list_append mt_append (pv 2) (pa_cons (pv 3) pa_nil))))
          (pss_one (ps_expr (pe_bm PySem.F.plainAttrs_list PySem.F.slot_list_extend PySem.F.type_list_extend mt_extend (pv 2) (pa_cons (pe_call GL hr (by rfl) gL kL bL .nil pass0 (pa_cons (pe_call GJ hr (by rfl) gJ kJ bJ .nil pass0 (pa_cons (pv 3) (pa_cons (pv 1) pa_nil))) pa_nil)) pa_nil)))))))
      (pss_one (ps_ret (pe_call GL hr (by rfl) gL kL bL .nil pass0 (pa_cons (pv 2) pa_nil))))), ?_⟩
    obtain ⟨l, vs, rfl, hL, hall⟩ := sts_of hx
    obtain ⟨m, us, rfl, hM, mall⟩ := sts_of hy
    have lv := sts_len hall
    have bl := bothL_len (A := A) (B := B)
    refine ⟨by show 0 ≤ sizeLine; decide, fun F0 nF => ?_⟩
    have sF := same_upd (o := .lst []) nF
    refine ⟨_, rfl, l, rfl, ⟨_, sF.seq hL⟩, ?_⟩
    refine for_list (K := K) (a := l) (xs := vs) (fun j σ H1 => ∃ (y3 : Option V) (ps : List V), σ = [some (.ref l), some (.ref m), some (.ref F0), y3] ∧ Same H H1 ∧ H1 F0 = some (.lst ps) ∧ ∃ W : List (List Int), DpAll K H1 ps (W.map wayD) ∧ (∀ z ∈ W, Ok4 z) ∧ W.length ≤ (A.take j).length * (B.length + 1) ∧ (∀ z ∈ W, z ∈ U) ∧ ∀ z, Ok4 z → (UpS W z ↔ UpS (bothL (A.take j) B) z))
      ⟨none, [], rfl, sF, upd_same, [], .nil, fun _ h => (nomatch h), Nat.zero_le _, fun _ h => (nomatch h), fun _ _ => Iff.rfl⟩ ?_ ?_ ?_
    · rintro j σ H1 _ ⟨_, _, _, s1, _⟩
      exact s1.seq hL
    · rintro j v σ H1 hj ⟨y3, ps, rfl, s1, hF, W, dps, okW, lenW, inW, upW⟩
      obtain ⟨t, ht, dv⟩ := sts_get hall hj
      have mt := List.mem_of_getElem? ht
      have hyj : Dp K H1 (.ref m) (stsD B) := .lst (s1.seq hM) (dpAll_same s1 mall)
      have lp := sts_len dps
      have jl : (A.take j).length + 1 ≤ A.length := by
        rw [List.length_take]
        have := (List.getElem?_eq_some_iff.mp ht).1
        omega
      have mul : ((A.take j).length + 1) * (B.length + 1) ≤ A.length * (B.length + 1) := Nat.mul_le_mul_right _ jl
      rw [Nat.succ_mul] at mul
      refine ⟨_, rfl, _, rfl, v, .ref m, t, B, rfl, dp_same s1 dv, hyj, ok4_len (okA t mt), fun b hb => ok4_len (okB b hb), fun H2 s2 => ?_⟩
      refine ⟨_, rfl, ?_⟩
      have hF2 := s2 _ _ hF
      have s12 := s1.trans s2
      have out : ∀ (b : Addr) (o : HO) (H3 : Hp), Same H2 H3 → H b = some o → upd H3 F0 (.lst ([] : List V)) b = some o ∨ True := fun _ _ _ _ _ => .inr True.intro
      have lj1 : (A.take (j + 1)).length = (A.take j).length + 1 := by rw [take_snoc ht, List.length_append]; rfl
      have mul2 : (A.take (j + 1)).length * (B.length + 1) = (A.take j).length * (B.length + 1) + (B.length + 1) := by rw [lj1, Nat.succ_mul]
      have up2 : ∀ (V : List (List Int)), (∀ z, Ok4 z → (UpS V z ↔ UpS (if anyLe t B then [t] else B.map (join4 t)) z)) → ∀ z, Ok4 z → (UpS (W ++ V) z ↔ UpS (bothL (A.take (j + 1)) B) z) := fun V hV z oz => by
        rw [take_snoc ht, bothL_snoc, upS_app, upS_app, upW z oz, hV z oz]
      cases c : anyLe t B with
      | true =>
        refine ifT rfl ?_
        refine ⟨_, rfl, .inl ⟨rfl, _, SqL.of hF2⟩, _, rfl, F0, _, _, rfl, rfl, hF2, small_line (by omega), ?_⟩
        refine ⟨_, ps ++ [v], rfl, fun b o e => ?_, upd_same, W ++ [t], ?_, mem_app1 okW (okA t mt), by rw [List.length_append, List.length_singleton]; omega, mem_app1 inW (aU t mt), up2 _ fun z _ => by rw [c, if_pos rfl]⟩
        · rw [upd_ne (ne_of_none e nF)]
          exact s12 _ _ e
        · rw [List.map_append]
          exact dpAll_put hF2 (dpAll_app (dpAll_same s2 dps) (.cons (dp_same s12 dv) .nil)) (noL_app _ [t])
      | false =>
        refine ifF rfl ?_
        refine ⟨_, rfl, .inl ⟨rfl, _, SqL.of hF2⟩, ?_⟩
        refine ⟨_, rfl, _, rfl, v, .ref m, t, B, rfl, dp_same s12 dv, dp_same s2 hyj, ok4_len (okA t mt), fun b hb => ok4_len (okB b hb), ?_, fun qj H3 qs s3 nq hq dqs => ?_⟩
        · have : B.length + 1 ≤ A.length * (B.length + 1) := Nat.le_trans (by omega) (Nat.mul_le_mul_right (B.length + 1) (show 1 ≤ A.length by omega))
          omega
        · have hF3 := s3 _ _ hF2
          have okJ : ∀ z ∈ B.map (join4 t), Ok4 z := fun z hz => by
            obtain ⟨b, hb, rfl⟩ := List.mem_map.mp hz
            exact join4_ok (okA t mt) (okB b hb)
          refine ⟨.ref qj, B.map (join4 t), B.map (join4 t), rfl, .lst (SqL.of hq) dqs, okJ, by rw [List.length_map]; omega, ?_, fun _ h => h, fun qq H4 qs2 M s4 nqq hqq dq2 can lM => ?_⟩
          · rw [List.length_map]
            exact lB
          have hF4 := s4 _ _ hF3
          have lq := sts_len dq2
          rw [List.length_map] at lM
          refine ⟨F0, qq, _, _, rfl, rfl, hF4, hqq, by rw [sizeLine_eq]; omega, ?_⟩
          refine ⟨_, ps ++ qs2, rfl, fun b o e => ?_, upd_same, W ++ M, ?_, fun z hz => ?_, by rw [List.length_append]; omega, fun z hz => ?_, up2 _ fun z oz => ?_⟩
          · rw [upd_ne (ne_of_none e nF)]
            exact s4 _ _ (s3 _ _ (s12 _ _ e))
          · rw [List.map_append]
            exact dpAll_put hF4 (dpAll_app (dpAll_same s4 (dpAll_same s3 (dpAll_same s2 dps))) dq2) (noL_app _ _)
          · rcases List.mem_append.mp hz with hz | hz
            · exact okW z hz
            · exact can.ok z hz
          · rcases List.mem_append.mp hz with hz | hz
            · exact inW z hz
            · obtain ⟨h1, h2⟩ := canon_min can okJ z hz
              exact mU t mt z h1 h2
          · rw [c, if_neg (by decide)]
            exact can.up z oz
    · rintro σ H1 ⟨y3, ps, rfl, s1, hF, W, dps, okW, lenW, inW, upW⟩
      have ll : A.take vs.length = A := by rw [lv, List.take_length]
      rw [ll] at lenW upW
      refine ⟨_, rfl, .ref F0, W, U, rfl, .lst (SqL.of hF) dps, okW, by omega, lU, inW, fun qq H2 qs M s2 nq hq dq can _ => ?_⟩
      exact q qq H2 qs M (s1.trans s2) (s1.free nq) hq dq (can.congr fun x hx => (upW x hx).trans (bothL_up okA okB hx))
end
def sInAll : Stmt := topS 9
/-- some lists of least ones, each the least of its label -/
def spInAll (K : PySem.W.Frag) : Sp := fun vs H Q _ => ∃ (β : Type) (x : V) (D : Addr) (B : List (List Int)) (U : List Int → Prop) (N : β → List Int → Prop) (T : List (Addr × List (List Int) × β)) (m m1 : Nat),
  vs = [x, .ref D] ∧ Dp K H x (stsD B) ∧ SqL K H D (T.map fun t => V.ref t.1) ∧ T.length ≤ 1000 ∧
  (∀ t ∈ T, Canon t.2.1 (N t.2.2) ∧ (∃ ys, H t.1 = some (.lst ys)) ∧ Dp K H (.ref t.1) (stsD t.2.1) ∧ t.2.1.length ≤ m1) ∧ Canon B U ∧ m * (m1 + 1) ≤ 100000 ∧ m1 < 4096 ∧
  (∀ as : List β, (∀ a ∈ as, a ∈ T.map fun t => t.2.2) → ∀ M, Canon M (fun x => U x ∧ ∀ a ∈ as, N a x) → M.length ≤ m ∧ ∀ t ∈ T, JB M t.2.1) ∧
  ∀ v H' M, Same H H' → (v = x ∧ M = B ∨ ∃ q, v = .ref q ∧ H q = none) → Dp K H' v (stsD M) → Canon M (fun x => U x ∧ ∀ a ∈ T.map (fun t => t.2.2), N a x) → Q v H'
section
variable {P : Program} {w : World} {K : PySem.W.Frag} {mg : Str → Option Value} {base : Heap}
theorem scInAll : FnScope ["before", "needs", "found", "need"] ["before", "needs"] (defScope sInAll) := ⟨rfl, rfl, rfl, by decide +kernel, rfl, by decide +kernel, by decide +kernel⟩
theorem ok_inAll {f fB : Addr} {fd fdB : FuncData} {k : Nat} (F : Fun K "least_in_all" "least_in_all" sInAll f fd)
    (GB : FnOk P w K mg base CX0 (k + 3) fB fdB ["stores", "others"] (spBothJ K)) (kB : PySem.W.keepIn K (.ref fB) = true) (bB : Binds K fdB ["stores", "others"] []) (gB : mg "least_in_both" = some (.ref fB))
    (ms : mg "sorted" = none) (ml : mg "len" = none) : FnOk P w K mg base CX0 (k + 4) f fd ["before", "needs"] (spInAll K) := by
  refine F.ok scInAll (fun vs H Q E h => ?_) (fun cdv A outer s H vs Q E hr h => ?_)
  · obtain ⟨β, x, D, B, U, N, T, m, m1, rfl, _⟩ := h
    rfl
  · obtain ⟨β, x, D, B, U, N, T, m, m1, rfl, hx, hD, lT, hT, canB, msq, m1l, few, q⟩ := h
    refine ⟨_, pss_cons (ps_set (i := 2) scInAll.nd rfl (.inl rfl) (pv 0))
      (pss_cons (ps_for PassesOwn.never rfl (pi_list (pe_sortLen (by rfl) ms (by rfl) ml (pv 1))) (pg_name (i := 3) scInAll.nd rfl (.inl rfl))
        (pss_one (ps_set (i := 2) scInAll.nd rfl (.inl rfl) (pe_call GB hr (by rfl) gB kB bB .nil pass0 (pa_cons (pv 2) (pa_cons (pv 3) pa_nil))))))
      (pss_one (ps_ret (pv 2)))), ?_⟩
    refine ⟨_, rfl, ?_⟩
    refine ⟨_, rfl, D, T.map (·.1), rfl, by rw [List.map_map]; exact hD, ?_, fun l hl => ?_, fun ls' p pm np => ?_⟩
    · rw [List.length_map]
      omega
    · obtain ⟨t, ht, rfl⟩ := List.mem_map.mp hl
      exact (hT t ht).2.1
    · obtain ⟨T', pT, rfl⟩ := perm_lift (fun t : Addr × List (List Int) × β => t.1) pm
      have sp := same_upd (o := .lst ((T'.map (·.1)).map V.ref)) np
      have okT : ∀ t ∈ T', Canon t.2.1 (N t.2.2) ∧ t.2.2 ∈ T.map (fun t => t.2.2) ∧ Dp K H (.ref t.1) (stsD t.2.1) ∧ t.2.1.length ≤ m1 ∧ t ∈ T := fun t ht => by
        have ht' := pT.mem_iff.mp ht
        obtain ⟨c1, _, c3, c4⟩ := hT t ht'
        exact ⟨c1, List.mem_map.mpr ⟨t, ht', rfl⟩, c3, c4, ht'⟩
      refine ⟨p, rfl, ⟨_, SqL.of upd_same⟩, ?_⟩
      refine for_list (K := K) (a := p) (xs := (T'.map (·.1)).map V.ref) (fun i σ H2 => ∃ (y3 : Option V) (fv : V) (M : List (List Int)), σ = [some x, some (.ref D), some fv, y3] ∧ Same (upd H p (.lst ((T'.map (·.1)).map V.ref))) H2 ∧ (fv = x ∧ M = B ∨ ∃ q, fv = .ref q ∧ H q = none) ∧ Dp K H2 fv (stsD M) ∧
          Canon M (fun x => U x ∧ ∀ a ∈ (T'.take i).map (fun t => t.2.2), N a x))
        ⟨none, x, B, rfl, Same.refl _, .inl ⟨rfl, rfl⟩, dp_same sp hx, canB.congr fun x _ => ⟨fun h => ⟨h, fun a ha => nomatch ha⟩, fun h => h.1⟩⟩ ?_ ?_ ?_
      · rintro i σ H2 _ ⟨_, _, _, _, s2, _⟩
        exact SqL.of (s2 _ _ upd_same)
      · rintro i v σ H2 hi ⟨y3, fv, M, rfl, s2, fr, dM, can⟩
        rw [List.getElem?_map, List.getElem?_map, Option.map_map] at hi
        obtain ⟨t, ht, rfl⟩ := Option.map_eq_some_iff.mp hi
        obtain ⟨c1, c2, c3, l2, mT⟩ := okT t (List.mem_of_getElem? ht)
        obtain ⟨l1, jb⟩ := few _ (fun a ha => by
          obtain ⟨t', ht', rfl⟩ := List.mem_map.mp ha
          exact (okT t' (List.mem_of_mem_take ht')).2.1) M can
        refine ⟨_, rfl, _, rfl, fv, .ref t.1, M, t.2.1, rfl, dM, dp_same (sp.trans s2) c3, can.ok, c1.ok, ?_, by omega, jb t mT, fun qn H3 qs N2 s3 nq hq dq canN => ?_⟩
        · have : M.length * (t.2.1.length + 1) ≤ m * (m1 + 1) := Nat.mul_le_mul l1 (by omega)
          omega
        · refine ⟨_, .ref qn, N2, rfl, s2.trans s3, .inr ⟨qn, rfl, (sp.trans s2).free nq⟩, .lst (SqL.of hq) dq, canN.congr fun x hx => ?_⟩
          rw [can.up x hx, c1.up x hx, take_snoc ht, List.map_append]
          constructor
          · rintro ⟨⟨h1, h2⟩, h3⟩
            refine ⟨h1, fun a ha => ?_⟩
            rcases List.mem_append.mp ha with ha | ha
            · exact h2 a ha
            · rw [List.mem_singleton.mp ha]
              exact h3
          · rintro ⟨h1, h2⟩
            exact ⟨⟨h1, fun a ha => h2 a (List.mem_append_left _ ha)⟩, h2 _ (List.mem_append_right _ (List.mem_singleton.mpr rfl))⟩
      · rintro σ H2 ⟨y3, fv, M, rfl, s2, fr, dM, can⟩
        rw [take_all (by rw [List.length_map, List.length_map])] at can
        refine ⟨_, rfl, q fv H2 M (sp.trans s2) fr dM (can.congr fun x _ => ?_)⟩
        have all : ∀ a, a ∈ T'.map (fun t => t.2.2) ↔ a ∈ T.map (fun t => t.2.2) := fun a => (pT.map _).mem_iff
        constructor
        · rintro ⟨h1, h⟩
          exact ⟨h1, fun a ha => h a ((all a).mpr ha)⟩
        · rintro ⟨h1, h⟩
          exact ⟨h1, fun a ha => h a ((all a).mp ha)⟩
end
/-! ### plans of rooms: what lasts so many asks, within a box or not (plain Lean) -/
abbrev PAsk := List (List Int × Nat)
abbrev Rooms := List (List PAsk)
def InB (b : Option Int) (z : List Int) : Prop := ∀ r, b = some r → le4 z [r, r, r, r] = true
def inB (b : Option Int) (z : List Int) : Bool := match b with
  | none => true
  | some r => le4 z [r, r, r, r]
theorem inB_iff {b : Option Int} {z : List Int} : inB b z = true ↔ InB b z := by
  cases b with
  | none => exact ⟨fun _ r h => (nomatch h), fun _ => rfl⟩
  | some r => exact ⟨fun h r' e => by cases e; exact h, fun h => h r rfl⟩
theorem InB.down {b : Option Int} {y z : List Int} (h : InB b z) (l : le4 y z = true) : InB b y := fun r e => le4_trans l (h r e)
theorem InB.join {b : Option Int} {y z : List Int} (oy : Ok4 y) (oz : Ok4 z) (hy : InB b y) (hz : InB b z) : InB b (join4 y z) := fun r e => by
  have h1 := hy r e
  have h2 := hz r e
  obtain ⟨a, b, c, d, rfl, _⟩ := oy
  obtain ⟨e, f, g, h, rfl, _⟩ := oz
  obtain ⟨p1, p2, p3, p4⟩ := le4_iff.mp h1
  obtain ⟨q1, q2, q3, q4⟩ := le4_iff.mp h2
  show le4 [max a e, max b f, max c g, max d h] [r, r, r, r] = true
  exact le4_iff.mpr ⟨by omega, by omega, by omega, by omega⟩
def roomAt (R : Rooms) (r : Nat) : List PAsk := R.getD r []
theorem roomAt_of {R : Rooms} {r : Nat} {l : List PAsk} (h : R[r]? = some l) : roomAt R r = l := by
  unfold roomAt
  rw [List.getD_eq_getElem?_getD, h, Option.getD_some]
theorem roomAt_out {R : Rooms} {r : Nat} (h : R.length ≤ r) : roomAt R r = [] := by
  unfold roomAt
  rw [List.getD_eq_getElem?_getD, List.getElem?_eq_none h, Option.getD_none]
/-- some pair of the ask leads from what x has within the box to what B tells of its room -/
def NdB (b : Option Int) (B : Nat → List Int → Prop) (a : PAsk) (x : List Int) : Prop := ∃ z, Ok4 z ∧ le4 z x = true ∧ InB b z ∧ ∃ p ∈ a, Ok4 (add4 z p.1) ∧ B p.2 (add4 z p.1)
theorem NdB.mono {b : Option Int} {B : Nat → List Int → Prop} {a : PAsk} {x y : List Int} (h : NdB b B a x) (l : le4 x y = true) : NdB b B a y :=
  let ⟨z, oz, lz, iz, q⟩ := h
  ⟨z, oz, le4_trans lz l, iz, q⟩
theorem NdB.imp {b : Option Int} {B C : Nat → List Int → Prop} {a : PAsk} {x : List Int} (i : ∀ p ∈ a, ∀ y, Ok4 y → B p.2 y → C p.2 y) (h : NdB b B a x) : NdB b C a x :=
  let ⟨z, oz, lz, iz, p, mp, o, q⟩ := h
  ⟨z, oz, lz, iz, p, mp, o, i p mp _ o q⟩
/-- what lasts n asks in room r -/
def PB (b : Option Int) (R : Rooms) : Nat → Nat → List Int → Prop
  | 0, _, _ => True
  | n + 1, r, x => PB b R n r x ∧ ∀ a ∈ roomAt R r, NdB b (PB b R n) a x
theorem PB.down {b : Option Int} {R : Rooms} {n r : Nat} {x : List Int} (h : PB b R (n + 1) r x) : PB b R n r x := h.1
theorem PB.le {b : Option Int} {R : Rooms} {n m r : Nat} {x : List Int} (h : PB b R m r x) (l : n ≤ m) : PB b R n r x := by
  obtain ⟨k, rfl⟩ := Nat.le.dest l
  clear l
  induction k with
  | zero => exact h
  | succ k ih => exact ih h.down
theorem PB.mono {b : Option Int} {R : Rooms} : ∀ {n r : Nat} {x y : List Int}, PB b R n r x → le4 x y = true → PB b R n r y
  | 0, _, _, _, _, _ => True.intro
  | _ + 1, _, _, _, h, l => ⟨PB.mono h.1 l, fun a ha => (h.2 a ha).mono l⟩
theorem PB.rest {b : Option Int} {R : Rooms} {j : Nat} (e : ∀ r x, Ok4 x → (PB b R j r x ↔ PB b R (j + 1) r x)) : ∀ (k r : Nat) (x : List Int), Ok4 x → (PB b R j r x ↔ PB b R (j + k) r x)
  | 0, _, _, _ => Iff.rfl
  | k + 1, r, x, hx => by
    refine ⟨fun h => ⟨(PB.rest e k r x hx).mp h, fun a ha => ?_⟩, fun h => (PB.rest e k r x hx).mpr h.down⟩
    exact (((e r x hx).mp h).2 a ha).imp fun p _ y oy z => (PB.rest e k p.2 y oy).mp z
theorem PB.out {b : Option Int} {R : Rooms} {r : Nat} (h : R.length ≤ r) : ∀ (n : Nat) (x : List Int), PB b R n r x
  | 0, _ => True.intro
  | n + 1, x => ⟨PB.out h n x, fun a ha => by rw [roomAt_out h] at ha; cases ha⟩
/-- a list for each room: the least ones of what is told of the room -/
structure RowOk (N : Nat) (B : Nat → List Int → Prop) (L : List (List (List Int))) : Prop where
  len : L.length = N
  can : ∀ r l, L[r]? = some l → Canon l (B r)
theorem RowOk.at {N : Nat} {B : Nat → List Int → Prop} {L : List (List (List Int))} (o : RowOk N B L) {r : Nat} (h : r < N) : ∃ l, L[r]? = some l ∧ Canon l (B r) :=
  ⟨_, List.getElem?_eq_getElem (by rw [o.len]; exact h), o.can r _ (List.getElem?_eq_getElem (by rw [o.len]; exact h))⟩
theorem RowOk.uniq {N : Nat} {B : Nat → List Int → Prop} {L M : List (List (List Int))} (o : RowOk N B L) (p : RowOk N B M) : L = M := by
  refine List.ext_getElem? fun r => ?_
  by_cases h : r < N
  · obtain ⟨l, hl, cl⟩ := o.at h
    obtain ⟨m, hm, cm⟩ := p.at h
    rw [hl, hm, cl.uniq cm]
  · rw [List.getElem?_eq_none (by rw [o.len]; omega), List.getElem?_eq_none (by rw [p.len]; omega)]
theorem RowOk.congr {N : Nat} {B C : Nat → List Int → Prop} {L : List (List (List Int))} (o : RowOk N B L) (h : ∀ r, r < N → ∀ x, Ok4 x → (B r x ↔ C r x)) : RowOk N C L :=
  ⟨o.len, fun r l hl => (o.can r l hl).congr (h r (by rw [← o.len]; exact (List.getElem?_eq_some_iff.mp hl).1))⟩
/-- two lists alike: from there on all is alike -/
theorem RowOk.rest {b : Option Int} {R : Rooms} {j : Nat} {L : List (List (List Int))} (o : RowOk R.length (PB b R j) L) (p : RowOk R.length (PB b R (j + 1)) L) (k : Nat) : RowOk R.length (PB b R (j + k)) L := by
  have e : ∀ r x, Ok4 x → (PB b R j r x ↔ PB b R (j + 1) r x) := fun r x hx => by
    by_cases h : r < R.length
    · obtain ⟨l, hl, cl⟩ := o.at h
      exact (cl.up x hx).symm.trans ((p.can r l hl).up x hx)
    · exact ⟨fun _ => PB.out (by omega) _ _, fun _ => PB.out (by omega) _ _⟩
  exact o.congr fun r _ x hx => PB.rest e k r x hx
/-- what an ask needs, as it is listed -/
def ndL (a : PAsk) (L : List (List (List Int))) : List (List Int) := a.flatMap fun p => (L.getD p.2 []).map (need4 p.1)
theorem ndL_ok {a : PAsk} {L : List (List (List Int))} (hw : ∀ p ∈ a, p.1.length = 4) (hL : ∀ l ∈ L, ∀ s ∈ l, Ok4 s) : ∀ t ∈ ndL a L, Ok4 t := fun t ht => by
  obtain ⟨p, mp, ht⟩ := List.mem_flatMap.mp ht
  obtain ⟨s, hs, rfl⟩ := List.mem_map.mp ht
  refine need4_ok (hw p mp) ?_
  rw [List.getD_eq_getElem?_getD] at hs
  cases e : L[p.2]? with
  | none =>
    rw [e] at hs
    cases hs
  | some l =>
    rw [e] at hs
    exact hL l (List.mem_of_getElem? e) s hs
theorem ndL_up {b : Option Int} {B : Nat → List Int → Prop} {a : PAsk} {L : List (List (List Int))} {N : Nat} (o : RowOk N B L) (hw : ∀ p ∈ a, p.1.length = 4 ∧ p.2 < N) {x : List Int} (hx : Ok4 x) : UpS ((ndL a L).filter (inB b)) x ↔ NdB b B a x := by
  constructor
  · rintro ⟨t, ht, l⟩
    obtain ⟨ht, ib⟩ := List.mem_filter.mp ht
    obtain ⟨p, mp, ht⟩ := List.mem_flatMap.mp ht
    obtain ⟨w4, pN⟩ := hw p mp
    obtain ⟨l0, hl0, c0⟩ := o.at pN
    rw [List.getD_eq_getElem?_getD, hl0, Option.getD_some] at ht
    obtain ⟨s, hs, rfl⟩ := List.mem_map.mp ht
    have os := c0.ok s hs
    have ot := need4_ok w4 os
    obtain ⟨h1, h2⟩ := (need4_le w4 os ot).mp (le4_refl ot)
    exact ⟨need4 p.1 s, ot, l, inB_iff.mp ib, p, mp, h1, (c0.up _ h1).mp ⟨s, hs, h2⟩⟩
  · rintro ⟨z, oz, lz, iz, p, mp, o1, q⟩
    obtain ⟨w4, pN⟩ := hw p mp
    obtain ⟨l0, hl0, c0⟩ := o.at pN
    obtain ⟨s, hs, l1⟩ := (c0.up _ o1).mpr q
    have l2 := (need4_le w4 (c0.ok s hs) oz).mpr ⟨o1, l1⟩
    refine ⟨need4 p.1 s, List.mem_filter.mpr ⟨List.mem_flatMap.mpr ⟨p, mp, ?_⟩, inB_iff.mpr (iz.down l2)⟩, le4_trans l2 lz⟩
    rw [List.getD_eq_getElem?_getD, hl0, Option.getD_some]
    exact List.mem_map.mpr ⟨s, hs, rfl⟩
theorem ndL_len {a : PAsk} {L : List (List (List Int))} {m : Nat} (h : ∀ l ∈ L, l.length ≤ m) : (ndL a L).length ≤ a.length * m := by
  induction a with
  | nil => exact Nat.zero_le _
  | cons p a ih =>
    have e : ndL (p :: a) L = (L.getD p.2 []).map (need4 p.1) ++ ndL a L := rfl
    have l1 : (L.getD p.2 []).length ≤ m := by
      rw [List.getD_eq_getElem?_getD]
      cases e2 : L[p.2]? with
      | none => exact Nat.zero_le _
      | some l => exact h l (List.mem_of_getElem? e2)
    rw [e, List.length_append, List.length_map, List.length_cons, Nat.succ_mul]
    omega
/-- one ask more: never too many come up -/
structure FewB (b : Option Int) (R : Rooms) (B : Nat → List Int → Prop) (m : Nat) : Prop where
  fv : m * 5 < 4096
  all : ∀ r, r < R.length → ∀ as : List PAsk, (∀ a ∈ as, a ∈ roomAt R r) → ∀ M, Canon M (fun x => B r x ∧ ∀ a ∈ as, NdB b B a x) → M.length ≤ m
  two : ∃ m1, m * (m1 + 1) ≤ 100000 ∧ m1 < 4096 ∧ (∀ r, r < R.length → ∀ a ∈ roomAt R r, ∀ M, Canon M (NdB b B a) → M.length ≤ m1) ∧
    ∀ r, r < R.length → ∀ as : List PAsk, (∀ a ∈ as, a ∈ roomAt R r) → ∀ a ∈ roomAt R r, ∀ M N, Canon M (fun x => B r x ∧ ∀ a ∈ as, NdB b B a x) → Canon N (NdB b B a) → JB M N
/-- few enough by their numbers alone -/
theorem fewB_of {b : Option Int} {R : Rooms} {B : Nat → List Int → Prop} {m m1 : Nat} (fv : m * 5 < 4096) (all : ∀ r, r < R.length → ∀ as : List PAsk, (∀ a ∈ as, a ∈ roomAt R r) → ∀ M, Canon M (fun x => B r x ∧ ∀ a ∈ as, NdB b B a x) → M.length ≤ m)
    (sq : m * (m1 + 1) < 4096) (l1 : m1 < 4096) (one : ∀ r, r < R.length → ∀ a ∈ roomAt R r, ∀ M, Canon M (NdB b B a) → M.length ≤ m1) : FewB b R B m :=
  ⟨fv, all, m1, by omega, l1, one, fun r hr as sub a ha M N cM cN => jb_prod (Nat.lt_of_le_of_lt (Nat.mul_le_mul (all r hr as sub M cM) (Nat.succ_le_succ (one r hr a ha N cN))) sq)⟩
def FewP (b : Option Int) (R : Rooms) (n : Nat) : Prop := ∀ j, j < n → ∃ m, FewB b R (PB b R j) m
theorem FewP.le {b : Option Int} {R : Rooms} {n k : Nat} (f : FewP b R n) (h : k ≤ n) : FewP b R k := fun j hj => f j (by omega)
/-- what one ask more leaves of B -/
def PBn (b : Option Int) (R : Rooms) (B : Nat → List Int → Prop) (r : Nat) (x : List Int) : Prop := B r x ∧ ∀ a ∈ roomAt R r, NdB b B a x
theorem FewB.len {b : Option Int} {R : Rooms} {B : Nat → List Int → Prop} {m : Nat} (f : FewB b R B m) {L : List (List (List Int))} (o : RowOk R.length B L) (r : Nat) (l : List (List Int)) (hl : L[r]? = some l) : l.length ≤ m :=
  f.all r (by rw [← o.len]; exact (List.getElem?_eq_some_iff.mp hl).1) [] (fun a h => nomatch h) l ((o.can r l hl).congr fun x _ => ⟨fun h => ⟨h, fun a ha => nomatch ha⟩, fun h => h.1⟩)
/-- the rooms of a plan, in four -/
structure RmOk (R : Rooms) : Prop where
  few : R.length ≤ 1000
  asks : ∀ l ∈ R, l.length ≤ 1000
  five : ∀ l ∈ R, ∀ a ∈ l, a.length ≤ 5
  pair : ∀ l ∈ R, ∀ a ∈ l, ∀ p ∈ a, p.1.length = 4 ∧ p.2 < R.length
/-! ### a plan's data -/
def pairP (p : List Int × Nat) : PyData := .tuple [wayD p.1, .int p.2]
abbrev paskD (a : PAsk) : PyData := .list (a.map pairP)
abbrev roomD (r : List PAsk) : PyData := .list (r.map paskD)
abbrev roomsD (R : Rooms) : PyData := .list (R.map roomD)
abbrev lvD (L : List (List (List Int))) : PyData := .list (L.map stsD)
theorem noL_pairP (p : List Int × Nat) : noL (pairP p) = true := by
  unfold pairP
  simp only [noL, noLAll, noL_way, Bool.and_true]
theorem pairP_of {K : PySem.W.Frag} {H : Hp} {v : V} {p : List Int × Nat} (h : Dp K H v (pairP p)) : ∃ a x, v = .ref a ∧ SqT K H a [x, .int p.2] ∧ Dp K H x (wayD p.1) := by
  cases h with
  | @tup a vs _ hT hall =>
    cases hall with
    | @cons v1 _ _ _ d1 r1 =>
    cases r1 with
    | @cons v2 _ _ _ d2 r2 =>
    cases r2
    cases d2
    exact ⟨a, v1, rfl, hT, d1⟩
theorem mapD_get {K : PySem.W.Frag} {H : Hp} {α : Type} {f : α → PyData} {vs : List V} {l : List α} {j : Nat} {v : V} (h : DpAll K H vs (l.map f)) (e : vs[j]? = some v) : ∃ t, l[j]? = some t ∧ Dp K H v (f t) := by
  obtain ⟨d, hd, dv⟩ := dpAll_get h e
  rw [List.getElem?_map] at hd
  obtain ⟨t, ht, rfl⟩ := Option.map_eq_some_iff.mp hd
  exact ⟨t, ht, dv⟩
theorem mapD_len {K : PySem.W.Frag} {H : Hp} {α : Type} {f : α → PyData} {vs : List V} {l : List α} (h : DpAll K H vs (l.map f)) : vs.length = l.length := by rw [dpAll_len h, List.length_map]
theorem mapD_at {K : PySem.W.Frag} {H : Hp} {α : Type} {f : α → PyData} {vs : List V} {l : List α} {j : Nat} {t : α} (h : DpAll K H vs (l.map f)) (e : l[j]? = some t) : ∃ v, vs[j]? = some v ∧ Dp K H v (f t) :=
  dpAll_getD h (by rw [List.getElem?_map, e]; rfl)
theorem lst_of {K : PySem.W.Frag} {H : Hp} {v : V} {α : Type} {f : α → PyData} {S : List α} (h : Dp K H v (.list (S.map f))) : ∃ l vs, v = .ref l ∧ SqL K H l vs ∧ DpAll K H vs (S.map f) := by
  cases h with
  | @lst a vs _ hL hall => exact ⟨a, vs, rfl, hL, hall⟩
theorem tup_of {K : PySem.W.Frag} {H : Hp} {v : V} {α : Type} {f : α → PyData} {S : List α} (h : Dp K H v (.tuple (S.map f))) : ∃ l vs, v = .ref l ∧ SqT K H l vs ∧ DpAll K H vs (S.map f) := by
  cases h with
  | @tup a vs _ hL hall => exact ⟨a, vs, rfl, hL, hall⟩
/-! ### the lists of one ask more -/
def sNoMore : Stmt := topS 30
def sForAsk : Stmt := topS 29
/-- the box's number, if there is one -/
def boxV : Option Int → V
  | none => .non
  | some r => .int r
theorem max4_le {a b c d r : Int} : decide ([b, c, d].foldl max a ≤ r) = inB (some r) [a, b, c, d] := by
  rw [Bool.eq_iff_iff, decide_eq_true_iff, foldl_max_le]
  show _ ↔ le4 [a, b, c, d] [r, r, r, r] = true
  rw [le4_iff]
  simp only [List.mem_cons, List.not_mem_nil, or_false, forall_eq_or_imp, forall_eq]
def spNoMore (K : PySem.W.Frag) : Sp := fun vs H Q _ => ∃ (x : V) (b : Option Int) (S : List (List Int)), vs = [boxV b, x] ∧ Dp K H x (stsD S) ∧ (∀ t ∈ S, t.length = 4) ∧ S.length ≤ 5000 ∧ ∀ v H', Same H H' → Dp K H' v (stsD (S.filter (inB b))) → Q v H'
def spForAsk (K : PySem.W.Frag) : Sp := fun vs H Q _ => ∃ (x y : V) (b : Option Int) (B : Nat → List Int → Prop) (a : PAsk) (L : List (List (List Int))) (N : Nat), vs = [x, y, boxV b] ∧ Dp K H x (paskD a) ∧ Dp K H y (lvD L) ∧ (∀ p ∈ a, p.1.length = 4 ∧ p.2 < N) ∧ RowOk N B L ∧ (ndL a L).length < 4096 ∧ (∀ l ∈ L, l.length ≤ 4095) ∧
  ∀ q H' ps M, Same H H' → H q = none → H' q = some (.lst ps) → DpAll K H' ps (M.map wayD) → Canon M (NdB b B a) → Q (.ref q) H'
section
variable {P : Program} {w : World} {K : PySem.W.Frag} {mg : Str → Option Value} {base : Heap}
theorem scNoMore : FnScope ["b", "stores", "store"] ["b", "stores"] (defScope sNoMore) := ⟨rfl, rfl, rfl, by decide +kernel, rfl, by decide +kernel, by decide +kernel⟩
theorem ok_noMore {f : Addr} {fd : FuncData} {k : Nat} (F : Fun K "no_more_than" "no_more_than" sNoMore f fd) (mx : mg "max" = none) : FnOk P w K mg base CX0 (k + 1) f fd ["b", "stores"] (spNoMore K) := by
  refine F.ok scNoMore (fun vs H Q E h => ?_) (fun cdv A outer s H vs Q E hr h => ?_)
  · obtain ⟨x, b, S, rfl, _⟩ := h
    rfl
  · obtain ⟨x, b, S, rfl, hx, l4, fw, q⟩ := h
    refine ⟨_, pss_one (ps_ret (pe_ifExp (pt_cmp (pc_isN (pv 0))) (pv 1)
      (pe_lc (own := [("store", 2)]) (g := gName 2) (tt := tTest (tOp (rI0 fun i j => .bl (decide (i ≤ j))) (tCB (rMaxT K) (tCons (tVar 2) tNil)) (tVar 0))) rfl scNoMore.nd (pi_list (pv 1))
        (blkOk_by (N := ["b", "stores", "store"]) (sc := defScope sNoMore) (by decide +kernel))
        (fun _ _ _ _ _ => by exact pg_name (i := 2) scNoMore.nd rfl (.inl rfl)) (fun _ _ _ _ _ => by exact pts_one (pt_cmpR op_le (pe_callB (cr_maxT rfl hr) (by rfl) mx (by decide +kernel) (pa_cons (pv 2) pa_nil)) (pv 0) (nomark _)))
        (fun _ _ _ _ _ => by exact pv 2)))), ?_⟩
    obtain ⟨l, vs, rfl, hL, hall⟩ := sts_of hx
    have lv := sts_len hall
    cases b with
    | none =>
      refine ⟨_, rfl, true, rfl, ifT rfl ⟨_, rfl, q _ H (Same.refl _) ?_⟩⟩
      rw [show S.filter (inB none) = S from List.filter_eq_self.mpr fun _ _ => rfl]
      exact .lst hL hall
    | some r =>
      refine ⟨_, rfl, false, rfl, ifF rfl ⟨_, rfl, l, rfl, ⟨_, hL⟩, fun D nD => ?_⟩⟩
      have sD := same_upd (o := .lst []) nD
      refine lc_list (K := K) (a := l) (xs := vs) (fun j H1 => Same H H1 ∧ ∃ ps, H1 D = some (.lst ps) ∧ DpAll K H1 ps (((S.take j).filter (inB (some r))).map wayD)) ⟨sD, [], upd_same, .nil⟩ (fun j H1 _ ⟨s1, _⟩ => s1.seq hL) ?_ ?_
      · rintro j v H1 hj ⟨s1, ps, hD, dps⟩
        obtain ⟨t, ht, dv⟩ := sts_get hall hj
        obtain ⟨ta, rfl, hT⟩ := way_of dv
        obtain ⟨a, b, c, d, rfl⟩ := four_of (l4 t (List.mem_of_getElem? ht))
        have lp := sts_len dps
        have lf := List.length_filter_le (inB (some r)) (S.take j)
        rw [List.length_take] at lf
        refine ⟨rfl, _, rfl, ta, a, [b, c, d], rfl, s1.seqT hT, _, rfl, _, r, rfl, rfl, _, rfl, ?_⟩
        rw [max4_le, take_snoc ht, List.filter_append]
        refine ite2 (fun y => ?_) fun y => ?_
        · rw [show [[a, b, c, d]].filter (inB (some r)) = [[a, b, c, d]] by rw [List.filter_cons, if_pos y]; rfl]
          refine ⟨_, rfl, ps, hD, small_line (by omega), fun b2 o e2 => ?_, ps ++ [.ref ta], upd_same, ?_⟩
          · rw [upd_ne (ne_of_none e2 nD)]
            exact s1 _ _ e2
          · rw [List.map_append]
            exact dpAll_put hD (dpAll_app dps (.cons (dp_same s1 dv) .nil)) (noL_app _ [[a, b, c, d]])
        · rw [show [[a, b, c, d]].filter (inB (some r)) = [] by rw [List.filter_cons, if_neg y]; rfl, List.append_nil]
          exact ⟨s1, ps, hD, dps⟩
      · rintro H1 ⟨s1, ps, hD, dps⟩
        rw [take_all lv] at dps
        exact q _ H1 s1 (.lst (SqL.of hD) dps)
theorem scForAsk : FnScope ["ask", "before", "b", "way", "to", "store"] ["ask", "before", "b"] (defScope sForAsk) := ⟨rfl, rfl, rfl, by decide +kernel, rfl, by decide +kernel, by decide +kernel⟩
theorem ok_forAsk {f fN fM fL : Addr} {fd fdN fdM fdL : FuncData} {k : Nat} (F : Fun K "least_for_ask" "least_for_ask" sForAsk f fd)
    (GN : FnOk P w K mg base CX0 (k + 2) fN fdN ["way", "stores"] (spNeeded K need4)) (kN : PySem.W.keepIn K (.ref fN) = true) (bN : Binds K fdN ["way", "stores"] []) (gN : mg "needed" = some (.ref fN))
    (GM : FnOk P w K mg base CX0 (k + 2) fM fdM ["b", "stores"] (spNoMore K)) (kM : PySem.W.keepIn K (.ref fM) = true) (bM : Binds K fdM ["b", "stores"] []) (gM : mg "no_more_than" = some (.ref fM))
    (GL : FnOk P w K mg base CX0 (k + 2) fL fdL ["stores"] (spLeastOf K)) (kL : PySem.W.keepIn K (.ref fL) = true) (bL : Binds K fdL ["stores"] []) (gL : mg "least_of" = some (.ref fL)) :
    FnOk P w K mg base CX0 (k + 3) f fd ["ask", "before", "b"] (spForAsk K) := by
  refine F.ok scForAsk (fun vs H Q E h => ?_) (fun cdv A outer s H vs Q E hr h => ?_)
  · obtain ⟨x, y, b, B, a, L, N, rfl, _⟩ := h
    rfl
  · obtain ⟨x, y, b, B, a, L, N, rfl, hx, hy, hw, o, fw, lL, q⟩ := h
    refine ⟨_, pss_one (ps_ret (pe_call GL hr (by rfl) gL kL bL .nil pass0 (pa_cons (pe_call GM hr (by rfl) gM kM bM .nil pass0 (pa_cons (pv 2) (pa_cons
      (pe_lc2 (wi1 := iList K (tCall (spNeeded K need4) [] E0 (tCons (tVar 3) (tCons (tOp (rIxL K) (tVar 1) (tVar 4)) tNil)))) (own := [("way", 3), ("to", 4), ("store", 5)]) (vs1 := [5]) (g := gTup K 2 (gCons (gName 3) (gCons (gName 4) gNil))) (tt := tYes) (g1 := gName 5) (tt1 := tYes) rfl scForAsk.nd (pi_list (pv 0))
        (blkOk_by (N := ["ask", "before", "b", "way", "to", "store"]) (sc := defScope sForAsk) (by decide +kernel)) (by decide)
        (fun _ _ _ _ _ => by refine pg_tup rfl (pgs_cons ?_ (pgs_cons ?_ pgs_nil)); exact pg_name (i := 3) scForAsk.nd rfl (.inl rfl); exact pg_name (i := 4) scForAsk.nd rfl (.inl rfl)) (fun _ _ _ _ _ => pts_nil)
        (fun _ _ _ _ _ => by exact pi_list (pe_call GN hr (by rfl) gN kN bN .nil pass0 (pa_cons (pv 3) (pa_cons (pe_ix ix_list (pv 1) (pv 4) (fun _ _ => rfl)) pa_nil))))
        (fun _ _ _ _ _ => by exact pg_name (i := 5) scForAsk.nd rfl (.inl rfl)) (fun _ _ _ _ _ => pts_nil)
        (fun _ _ _ _ _ => by exact pv 5)) pa_nil))) pa_nil))), ?_⟩
    obtain ⟨l, vs, rfl, hL, hall⟩ := lst_of hx
    obtain ⟨m, us, rfl, hM, mall⟩ := lst_of hy
    have lv := mapD_len hall
    refine ⟨_, rfl, _, rfl, l, rfl, ⟨_, hL⟩, fun D nD => ?_⟩
    have sD := same_upd (o := .lst []) nD
    refine walk_gen (walk_list (K := K) (a := l) (xs := vs)) _ (fun j H1 => Same H H1 ∧ ∃ ps, H1 D = some (.lst ps) ∧ DpAll K H1 ps ((ndL (a.take j) L).map wayD)) ⟨sD, [], upd_same, .nil⟩ (fun j H1 _ ⟨s1, _⟩ => s1.seq hL) ?_ ?_
    · rintro j v H1 H1' lj ⟨s1, ps, hD, dps⟩ ⟨rfl, hj⟩
      obtain ⟨p, hp, dp⟩ := mapD_get hall hj
      obtain ⟨pa, px, rfl, hpT, dpx⟩ := pairP_of dp
      have mp := List.mem_of_getElem? hp
      obtain ⟨w4, pN⟩ := hw p mp
      obtain ⟨l0, hl0, c0⟩ := o.at pN
      obtain ⟨lv0, hlv0, dl0⟩ := mapD_at mall hl0
      have len0 := lL l0 (List.mem_of_getElem? hl0)
      have esnoc : ndL (a.take (j + 1)) L = ndL (a.take j) L ++ l0.map (need4 p.1) := by
        unfold ndL
        rw [take_snoc hp, List.flatMap_append, List.flatMap_cons, List.flatMap_nil, List.append_nil, List.getD_eq_getElem?_getD, hl0, Option.getD_some]
      have sub : (ndL (a.take (j + 1)) L).length ≤ (ndL a L).length := by
        have e : ndL a L = ndL (a.take (j + 1)) L ++ ndL (a.drop (j + 1)) L := by
          unfold ndL
          rw [← List.flatMap_append, List.take_append_drop]
        rw [e, List.length_append]
        omega
      rw [esnoc, List.length_append, List.length_map] at sub
      refine ⟨pa, _, rfl, s1.seqT hpT, rfl, _, _, rfl, _, _, rfl, rfl, rfl, ?_⟩
      refine ⟨_, rfl, _, rfl, _, rfl, m, us, p.2, lv0, rfl, rfl, s1.seq hM, atI_nat hlv0, px, lv0, p.1, l0, rfl, dp_same s1 dpx, dp_same s1 dl0, w4, fun t ht => ok4_len (c0.ok t ht), by omega, fun qn H3 qs s3 nq hq dqs => ⟨qn, rfl, ⟨_, SqL.of hq⟩, ?_⟩⟩
      have hD3 := s3 _ _ hD
      have nqD : qn ≠ D := (ne_of_none hD nq).symm
      have lq := sts_len dqs
      rw [List.length_map] at lq
      refine walk_gen (walk_list (K := K) (a := qn) (xs := qs)) _ (fun i H4 => Kp D H3 H4 ∧ ∃ ps, H4 D = some (.lst ps) ∧ DpAll K H4 ps ((ndL (a.take j) L ++ (l0.map (need4 p.1)).take i).map wayD)) ⟨Kp.refl _ _, ps, hD3, by rw [List.take_zero, List.append_nil]; exact dpAll_same s3 dps⟩ (fun i H4 _ ⟨k4, _⟩ => SqL.of (k4 _ _ hq nqD)) ?_ ?_
      · rintro i x H4 H4' li ⟨k4, ps4, hD4, dps4⟩ ⟨rfl, hi⟩
        obtain ⟨t, ht, dt⟩ := sts_get dqs hi
        have lp := sts_len dps4
        simp only [List.length_append, List.length_take, List.length_map] at lp
        refine ⟨rfl, ?_⟩
        refine ⟨_, rfl, ps4, hD4, small_line (by omega), fun b o e n => ?_, ps4 ++ [x], upd_same, ?_⟩
        · rw [upd_ne n]
          exact k4 b o e n
        · rw [take_snoc ht, ← List.append_assoc, List.map_append]
          exact dpAll_put hD4 (dpAll_app dps4 (.cons (dp_kp k4 hD3 dt (noL_way _)) .nil)) (noL_app _ [t])
      · rintro H4 ⟨k4, ps4, hD4, dps4⟩
        rw [show (l0.map (need4 p.1)).take qs.length = l0.map (need4 p.1) from take_all (by rw [List.length_map]; exact lq)] at dps4
        refine ⟨fun b o e => k4 b o (s3 b o (s1 b o e)) (ne_of_none e nD), ps4, hD4, ?_⟩
        rw [esnoc]
        exact dps4
    · rintro H1 ⟨s1, ps, hD, dps⟩
      rw [lv, List.take_length] at dps
      have ok := ndL_ok (a := a) (L := L) (fun p hp => (hw p hp).1) fun l hl s hs => by
        obtain ⟨r, hr⟩ := List.mem_iff_getElem?.mp hl
        exact (o.can r l hr).ok s hs
      refine ⟨.ref D, b, ndL a L, rfl, .lst (SqL.of hD) dps, fun t ht => ok4_len (ok t ht), by omega, fun v2 H2 s2 d2 => ?_⟩
      refine ⟨v2, (ndL a L).filter (inB b), rfl, d2, fun t ht => ok t (List.mem_filter.mp ht).1, Nat.lt_of_le_of_lt (List.length_filter_le _ _) fw, fun qq H3 qs M s3 nq hq dq can _ => ?_⟩
      exact q qq H3 qs M ((s1.trans s2).trans s3) ((s1.trans s2).free nq) hq dq (can.congr fun x hx => ndL_up o hw hx)
end
/-! ### one ask more, for each room -/
def sOneMore : Stmt := topS 28
/-- a list of ways that stands elsewhere stands without the one at a -/
theorem sts_rmv {K : PySem.W.Frag} {H : Hp} {a l : Addr} {us : List V} {S : List (List Int)} (h : Dp K H (.ref l) (stsD S)) (ha : H a = some (.lst us)) (ne : l ≠ a) : Dp K (rmv H a) (.ref l) (stsD S) := by
  cases h with
  | @lst _ vs _ hL hall =>
    refine .lst ?_ (dpAll_kp (rmv_kp H a) ha hall (noLAll_map noL_way _))
    rcases hL with (h | ⟨o, h⟩) | h
    · exact .inl (.inl (by rw [rmv_ne ne]; exact h))
    · exact .inl (.inr ⟨o, by rw [rmv_ne ne]; exact h⟩)
    · exact .inr h
theorem rmv_same2 {H H' : Hp} {a d : Addr} (s : Same H H') (nd : H d = none) : Same (rmv H a) (rmv (rmv H' a) d) := fun b o e => by
  obtain ⟨n, e⟩ := rmv_some e
  rw [rmv_ne (ne_of_none e nd), rmv_ne n]
  exact s _ _ e
theorem rmv_to {H H' : Hp} {a : Addr} (s : Same H H') : Same (rmv H a) (rmv H' a) := rmv_rmv fun b o _ e => s _ _ e
def spOneMore (K : PySem.W.Frag) : Sp := fun vs H Q _ => ∃ (x y : V) (b : Option Int) (R : Rooms) (L : List (List (List Int))) (B : Nat → List Int → Prop) (m : Nat) (ll : Addr) (us : List V), vs = [x, y, boxV b] ∧ H ll = some (.lst us) ∧ Dp K (rmv H ll) x (roomsD R) ∧ Dp K (rmv H ll) y (lvD L) ∧
  RmOk R ∧ RowOk R.length B L ∧ FewB b R B m ∧
  ∀ q H' M, Same H H' → H q = none → Dp K (rmv H' ll) (.ref q) (lvD M) → RowOk R.length (PBn b R B) M → Q (.ref q) H'
section
variable {P : Program} {w : World} {K : PySem.W.Frag} {mg : Str → Option Value} {base : Heap}
theorem scOneMore : FnScope ["rooms", "before", "b", "room", "there", "ask"] ["rooms", "before", "b"] (defScope sOneMore) := ⟨rfl, rfl, rfl, by decide +kernel, rfl, by decide +kernel, by decide +kernel⟩
theorem ok_oneMore {f fA fB : Addr} {fd fdA fdB : FuncData} {k : Nat} (F : Fun K "least_one_more" "least_one_more" sOneMore f fd)
    (GA : FnOk P w K mg base CX0 (k + 4) fA fdA ["ask", "before", "b"] (spForAsk K)) (kA : PySem.W.keepIn K (.ref fA) = true) (bA : Binds K fdA ["ask", "before", "b"] []) (gA : mg "least_for_ask" = some (.ref fA))
    (GB : FnOk P w K mg base CX0 (k + 4) fB fdB ["before", "needs"] (spInAll K)) (kB : PySem.W.keepIn K (.ref fB) = true) (bB : Binds K fdB ["before", "needs"] []) (gB : mg "least_in_all" = some (.ref fB)) (mz : mg "zip" = none) :
    FnOk P w K mg base CX0 (k + 5) f fd ["rooms", "before", "b"] (spOneMore K) := by
  refine F.ok scOneMore (fun vs H Q E h => ?_) (fun cdv A outer s H vs Q E hr h => ?_)
  · obtain ⟨x, y, b, R, L, B, m, ll, us, rfl, _⟩ := h
    rfl
  · obtain ⟨x, y, b, R, L, B, m, ll, us, rfl, hll, hx, hy, okR, oL, fw, q⟩ := h
    refine ⟨_, pss_one (ps_ret (pe_lc (own := [("room", 3), ("there", 4)]) (g := gTup K 2 (gCons (gName 3) (gCons (gName 4) gNil))) (tt := tYes)
        (te := tCall (spInAll K) [] E0 (tCons (tVar 4) (tCons (tLc (iList K (tVar 3)) (gName 5) tYes (tCall (spForAsk K) [] E0 (tCons (tVar 5) (tCons (tVar 1) (tCons (tVar 2) tNil)))) [5]) tNil))) rfl scOneMore.nd (pi_zipA (by rfl) mz (pa_cons (pv 0) (pa_cons (pv 1) pa_nil)))
        (blkOk_by (N := ["rooms", "before", "b", "room", "there", "ask"]) (sc := defScope sOneMore) (by decide +kernel))
        (fun _ _ _ _ _ => by refine pg_tup rfl (pgs_cons ?_ (pgs_cons ?_ pgs_nil)); exact pg_name (i := 3) scOneMore.nd rfl (.inl rfl); exact pg_name (i := 4) scOneMore.nd rfl (.inl rfl))
        (fun _ _ _ _ _ => pts_nil)
        (fun _ _ _ _ _ => by exact (by
          refine pe_call GB hr (by rfl) gB kB bB .nil pass0 (pa_cons (pv 4) (pa_cons ?_ pa_nil))
          refine pe_lc (wi := iList K (tVar 3)) (own := [("ask", 5)]) (g := gName 5) (tt := tYes) (te := tCall (spForAsk K) [] E0 (tCons (tVar 5) (tCons (tVar 1) (tCons (tVar 2) tNil)))) ?_ ?_ ?_ ?_ ?_ ?_ ?_
          · rfl
          · exact scOneMore.nd
          · exact pi_list (pv 3)
          · exact blkOk_by (N := ["rooms", "before", "b", "room", "there", "ask"]) (sc := lcSc [(".0", .local), ("room", .local), ("there", .local), ("least_in_all", .globalImplicit), ("b", .cell), ("before", .cell)]) (by decide +kernel)
          · exact fun _ _ _ _ _ => by exact pg_name (i := 5) scOneMore.nd rfl (.inl rfl)
          · exact fun _ _ _ _ _ => pts_nil
          · exact fun _ _ _ _ _ => by exact pe_call GA hr (by rfl) gA kA bA .nil pass0 (pa_cons (pv 5) (pa_cons (pv 1) (pa_cons (pv 2) pa_nil))))))), ?_⟩
    obtain ⟨ra, rvs, rfl, hR0, rall⟩ := lst_of hx
    obtain ⟨ba, bvs, rfl, hB0, ball⟩ := lst_of hy
    have lr := mapD_len rall
    have lb := mapD_len ball
    have lbR : bvs.length = R.length := by rw [lb, oL.len]
    have toH : Same (rmv H ll) H := rmv_same fun b o _ e => e
    have hR := toH.seq hR0
    have hB := toH.seq hB0
    have m5 := fw.fv
    obtain ⟨m1, msq, m1l, fone, fjb⟩ := fw.two
    have fewL : ∀ (r : Nat) (l : List (List Int)), L[r]? = some l → l.length ≤ m := fun r l hl => fw.len oL r l hl
    refine ⟨_, rfl, _, rfl, ra, ba, rvs, bvs, rfl, .inl ⟨hR, hB, fun D nD => ?_⟩⟩
    have sD := same_upd (o := .lst []) nD
    have nDl : D ≠ ll := (ne_of_none hll nD).symm
    refine lc_it (walk_zip (K := K) (a := ra) (b := ba) (xs := rvs) (ys := bvs) (n := R.length) (by rw [lr, lbR, Nat.min_self])) (fun i H1 => Same H H1 ∧ ∃ ps Ls, H1 D = some (.lst ps) ∧ DpAll K (rmv (rmv H1 ll) D) ps (Ls.map stsD) ∧ Ls.length = i ∧ ∀ r l, Ls[r]? = some l → Canon l (PBn b R B r))
      ⟨sD, [], [], upd_same, .nil, rfl, fun r l h => nomatch h⟩ (fun i H1 _ ⟨s1, _⟩ => ⟨s1.seq hR, s1.seq hB⟩) ?_ ?_
    · rintro i v H1 H2 hi ⟨s1, ps, Ls, hD, dps, eLs, cLs⟩ ⟨T, v1, v2, rfl, nT, rfl, f1, f2⟩
      have sT := same_upd (o := .tup [v1, v2]) nT
      obtain ⟨room, hroom, droom⟩ := mapD_get rall f1
      obtain ⟨l0, hl0, dl0⟩ := mapD_get ball f2
      have mroom := List.mem_of_getElem? hroom
      have at_r := roomAt_of hroom
      have c0 := oL.can i l0 hl0
      have lasks := okR.asks room mroom
      obtain ⟨qa, qvs, rfl, hQ0, qall⟩ := lst_of droom
      have lq := mapD_len qall
      have hQ := toH.seq hQ0
      have lps := mapD_len dps
      have lRR := okR.few
      have s1T := s1.trans sT
      refine ⟨T, _, rfl, SqT.of upd_same, rfl, _, _, rfl, _, _, rfl, rfl, rfl, ?_⟩
      refine ⟨_, rfl, ?_⟩
      refine ⟨_, rfl, qa, rfl, ⟨_, s1T.seq hQ⟩, fun G nG => ?_⟩
      have sG := same_upd (o := .lst []) nG
      have hDT := sT _ _ hD
      have nGD : G ≠ D := (ne_of_none hDT nG).symm
      have hllT := s1T _ _ hll
      have nGl : G ≠ ll := (ne_of_none hllT nG).symm
      have nGH : H G = none := s1T.free nG
      -- the needs, ask by ask: their lists, what they are, of which ask
      refine lc_list (K := K) (a := qa) (xs := qvs) (fun t H3 => Same (upd H1 T (.tup [.ref qa, v2])) H3 ∧ ∃ TT : List (Addr × List (List Int) × PAsk), H3 G = some (.lst (TT.map fun t => V.ref t.1)) ∧ TT.map (fun t => t.2.2) = room.take t ∧
          ∀ t ∈ TT, Canon t.2.1 (NdB b B t.2.2) ∧ (∃ ys, rmv H3 G t.1 = some (.lst ys)) ∧ Dp K (rmv H3 G) (.ref t.1) (stsD t.2.1)) ⟨sG, [], upd_same, rfl, fun t h => nomatch h⟩ (fun t H3 _ ⟨s3, _⟩ => s3.seq (s1T.seq hQ)) ?_ ?_
      · rintro t v H3 ht ⟨s3, TT, hG, eT, hT⟩
        obtain ⟨a, ha, da⟩ := mapD_get qall ht
        have ma := List.mem_of_getElem? ha
        have l5 := okR.five room mroom a ma
        have lw := okR.pair room mroom a ma
        have s13 := s1T.trans s3
        have lT : TT.length ≤ 1000 := by
          have := congrArg List.length eT
          rw [List.length_map, List.length_take] at this
          omega
        have nl := ndL_len (a := a) (L := L) (m := m) fun l hl => by
          obtain ⟨r, hr⟩ := List.mem_iff_getElem?.mp hl
          exact fewL r l hr
        refine ⟨rfl, ?_⟩
        refine ⟨_, rfl, _, rfl, _, rfl, v, .ref ba, b, B, a, L, R.length, rfl, dp_same (toH.trans s13) da, dp_same (toH.trans s13) hy, lw, oL, ?_, fun l hl => ?_, fun qn H4 qs M s4 nq hq dq can => ?_⟩
        · have : a.length * m ≤ 5 * m := Nat.mul_le_mul_right m l5
          omega
        · obtain ⟨r, hr⟩ := List.mem_iff_getElem?.mp hl
          have := fewL r l hr
          omega
        · have hG4 := s4 _ _ hG
          have nqG : qn ≠ G := (ne_of_none hG nq).symm
          refine ⟨_, hG4, small_line (by rw [List.length_map]; omega), fun b o e => ?_, TT ++ [(qn, M, a)], by rw [upd_same, List.map_append]; rfl, ?_, fun t ht => ?_⟩
          · rw [upd_ne (ne_of_none e nG)]
            exact s4 _ _ (s3 _ _ e)
          · rw [List.map_append, eT, take_snoc ha]
            rfl
          · have kd : Kp G H4 (rmv (upd H4 G (.lst (TT.map (fun t => V.ref t.1) ++ [.ref qn]))) G) := fun b o e n => by rw [rmv_ne n, upd_ne n]; exact e
            have rr : Same (rmv H3 G) (rmv (upd H4 G (.lst (TT.map (fun t => V.ref t.1) ++ [.ref qn]))) G) := rmv_rmv fun b o n e => by rw [upd_ne n]; exact s4 _ _ e
            rcases List.mem_append.mp ht with ht | ht
            · obtain ⟨c1, ⟨ys, c2⟩, c3⟩ := hT t ht
              exact ⟨c1, ⟨ys, rr _ _ c2⟩, dp_same rr c3⟩
            · rw [List.mem_singleton.mp ht]
              exact ⟨can, ⟨qs, kd _ _ hq nqG⟩, .lst (SqL.of (kd _ _ hq nqG)) (dpAll_kp kd hG4 dq (noLAll_map noL_way _))⟩
      · rintro H3 ⟨s3, TT, hG, eT, hT⟩
        rw [lq, List.take_length] at eT
        have toG : Same (rmv H3 G) H3 := rmv_same fun b o _ e => e
        have memT : ∀ t ∈ TT, t.2.2 ∈ room := fun t ht => by
          rw [← eT]
          exact List.mem_map.mpr ⟨t, ht, rfl⟩
        have s13 := s1T.trans s3
        have iR : i < R.length := hi
        refine ⟨PAsk, v2, G, l0, B i, NdB b B, TT, m, m1, rfl, dp_same (toH.trans s13) dl0, SqL.of hG, ?_, fun t ht => ?_, c0, msq, m1l, fun as sub M cM => ⟨fw.all i iR as (by rw [at_r]; rw [eT] at sub; exact sub) M cM, fun t ht => fjb i iR as (by rw [at_r]; rw [eT] at sub; exact sub) t.2.2 (by rw [at_r]; exact memT t ht) M t.2.1 cM (hT t ht).1⟩, fun v H4 M s4 fr dv can => ?_⟩
        · have := congrArg List.length eT
          rw [List.length_map] at this
          omega
        · obtain ⟨c1, ⟨ys, c2⟩, c3⟩ := hT t ht
          exact ⟨c1, ⟨ys, toG _ _ c2⟩, dp_same toG c3, fone i iR _ (by rw [at_r]; exact memT t ht) _ c1⟩
        · have hD3 := s3 _ _ hDT
          have hD4 := s4 _ _ hD3
          have s14 := s13.trans s4
          have hl4 := s14 _ _ hll
          have dv4 : Dp K (rmv (rmv H4 ll) D) v (stsD M) := by
            rcases fr with ⟨rfl, rfl⟩ | ⟨q0, rfl, nq0⟩
            · exact dp_same (rmv_same2 s14 nD) dl0
            · have nl : q0 ≠ ll := (ne_of_none (s13 _ _ hll) nq0).symm
              have nd : q0 ≠ D := (ne_of_none hD3 nq0).symm
              exact sts_rmv (sts_rmv dv hl4 nl) (by rw [rmv_ne nDl]; exact hD4) nd
          refine ⟨_, hD4, small_line (by omega), fun b o e => ?_, ps ++ [v], Ls ++ [M], upd_same, ?_, ?_, fun r l hl => ?_⟩
          · rw [upd_ne (ne_of_none e nD)]
            exact s14 _ _ e
          · have s24 := (sT.trans s3).trans s4
            have rr : Same (rmv (rmv H1 ll) D) (rmv (rmv (upd H4 D (.lst (ps ++ [v]))) ll) D) := rmv_rmv fun b o n e => by
              obtain ⟨n2, e⟩ := rmv_some e
              rw [rmv_ne n2, upd_ne n]
              exact s24 _ _ e
            have rr2 : Same (rmv (rmv H4 ll) D) (rmv (rmv (upd H4 D (.lst (ps ++ [v]))) ll) D) := rmv_rmv fun b o n e => by
              obtain ⟨n2, e⟩ := rmv_some e
              rw [rmv_ne n2, upd_ne n]
              exact e
            exact dpAll_app1 (dpAll_same rr dps) (dp_same rr2 dv4)
          · rw [List.length_append, eLs]
            rfl
          · by_cases hr : r < Ls.length
            · rw [List.getElem?_append_left hr] at hl
              exact cLs r l hl
            · have e : r = Ls.length := by
                have := (List.getElem?_eq_some_iff.mp hl).1
                rw [List.length_append, List.length_singleton] at this
                omega
              subst e
              rw [List.getElem?_append_right (Nat.le_refl _), Nat.sub_self] at hl
              cases hl
              rw [eLs]
              refine can.congr fun x hx => ?_
              rw [eT, ← at_r]
              exact Iff.rfl
    · rintro H1 ⟨s1, ps, Ls, hD, dps, eLs, cLs⟩
      refine q D H1 Ls s1 nD ?_ ⟨eLs, cLs⟩
      exact .lst (SqL.of (by rw [rmv_ne nDl]; exact hD)) (dpAll_same (rmv_same fun b o _ e => e) dps)
end
/-! ### what is found out of a plan: the object -/
def sChart : Stmt := topS 25
def sChInit : Stmt := inClass sChart 0
def sChLeast : Stmt := inClass sChart 1
def sChLasts : Stmt := inClass sChart 5
def sChTold : Stmt := inClass sChart 8
/-- a target that is an attribute -/
def gFld (K : PySem.W.Frag) (ta : TE) (f : Str) : TG := fun v σ H Q => ta σ H fun x H1 => ∃ a C dx fs, x = .ref a ∧ H1 a = some (.ins C dx fs) ∧ L2.Cls K C ∧ NoAttr K C f ∧ fs.length < 1000 ∧ Q σ (upd H1 a (.ins C dx (putF f v fs)))
theorem pg_fld {X : Cx} {o : Expr} {f : Str} {pos : Pos} {ta : TE} (ha : PE X o ta) : PG X (.Attribute o f pos) (gFld X.K ta f) := by
  refine ⟨fun pins s σ H v u Q I r h => ?_⟩
  have e : assign (.Attribute o f pos) X.env u = (do
      let ov ← holding [u] (eval o X.env)
      standAt pos.atName
      holding [u, ov] (setAttr ov f u)
      release [u, ov] []) := rfl
  rw [e]
  refine wpAny_bind (wpAny_holding (thn (ha.run pins s σ H _ I h) fun ov s1 ⟨x, H1, I1, rx, a, C, dx, fs, ex, ea, c, n, l, q⟩ => ?_))
  subst ex
  obtain rfl : ov = Value.ref a := rx
  exact wpAny_bind (wpAny_standAt (wpAny_bind (wpAny_holding (setattr_ok I1 ea c n l r fun s2 I2 => wpAny_release ⟨σ, _, I2, q⟩))))
/-! data that doesn't lean on an object -/
theorem Kp.seqI {K : PySem.W.Frag} {p a C dx : Addr} {H H' : Hp} {fs : List (Str × V)} {xs : List V} (e : Kp p H H') (hp : H p = some (.ins C dx fs)) (h : SqL K H a xs) : SqL K H' a xs := by
  rcases h with (h | ⟨o, h⟩) | h
  · exact .inl (.inl (e _ _ h fun z => by rw [z, hp] at h; cases h))
  · exact .inl (.inr ⟨o, e _ _ h fun z => by rw [z, hp] at h; cases h⟩)
  · exact .inr h
theorem Kp.seqTI {K : PySem.W.Frag} {p a C dx : Addr} {H H' : Hp} {fs : List (Str × V)} {xs : List V} (e : Kp p H H') (hp : H p = some (.ins C dx fs)) (h : SqT K H a xs) : SqT K H' a xs := by
  rcases h with (h | ⟨o, h⟩) | h
  · exact .inl (.inl (e _ _ h fun z => by rw [z, hp] at h; cases h))
  · exact .inl (.inr ⟨o, e _ _ h fun z => by rw [z, hp] at h; cases h⟩)
  · exact .inr h
mutual
theorem dp_ki {K : PySem.W.Frag} {p C dx : Addr} {H H' : Hp} {fs : List (Str × V)} (s : Kp p H H') (hp : H p = some (.ins C dx fs)) : ∀ {v : V} {d : PyData}, Dp K H v d → Dp K H' v d
  | _, _, .non => .non
  | _, _, .bl b => .bl b
  | _, _, .int i => .int i
  | _, _, .str x => .str x
  | _, _, .lst q r => .lst (s.seqI hp q) (dpAll_ki s hp r)
  | _, _, .tup q r => .tup (s.seqTI hp q) (dpAll_ki s hp r)
theorem dpAll_ki {K : PySem.W.Frag} {p C dx : Addr} {H H' : Hp} {fs : List (Str × V)} (s : Kp p H H') (hp : H p = some (.ins C dx fs)) : ∀ {v : List V} {d : List PyData}, DpAll K H v d → DpAll K H' v d
  | _, _, .nil => .nil
  | _, _, .cons q r => .cons (dp_ki s hp q) (dpAll_ki s hp r)
end
/-! two lists of lists alike -/
theorem lv_flat : ∀ L : List (List (List Int)), PyData.depthAll (L.map stsD) ≤ 4 ∧ PyData.canLayAll0 (L.map stsD) = true
  | [] => ⟨Nat.zero_le _, rfl⟩
  | S :: L => by
    obtain ⟨h1, h2⟩ := lv_flat L
    obtain ⟨w1, w2⟩ := sts_flat S
    refine ⟨?_, by simp [PyData.canLayAll0, PyData.canLay0, h2, w2]⟩
    show max (PyData.depth (stsD S)) (PyData.depthAll (L.map stsD)) ≤ 4
    have e : PyData.depth (stsD S) ≤ 4 := by
      simp only [PyData.depth]
      omega
    omega
theorem lvs_flat : ∀ L : List (List (List (List Int))), PyData.depthAll (L.map lvD) ≤ 5 ∧ PyData.canLayAll0 (L.map lvD) = true
  | [] => ⟨Nat.zero_le _, rfl⟩
  | S :: L => by
    obtain ⟨h1, h2⟩ := lvs_flat L
    obtain ⟨w1, w2⟩ := lv_flat S
    refine ⟨?_, by simp [PyData.canLayAll0, PyData.canLay0, h2, w2]⟩
    show max (PyData.depth (lvD S)) (PyData.depthAll (L.map lvD)) ≤ 5
    have e : PyData.depth (lvD S) ≤ 5 := by
      simp only [PyData.depth]
      omega
    omega
theorem lv_shaped (L : List (List (List Int))) : SeqAt.shaped (lvD L) = true := by
  obtain ⟨h1, h2⟩ := lv_flat L
  unfold SeqAt.shaped
  rw [Bool.and_eq_true, decide_eq_true_iff]
  refine ⟨by simp only [PyData.canLay0]; exact h2, ?_⟩
  simp only [PyData.depth]
  omega
theorem lvs_shaped (L : List (List (List (List Int)))) : SeqAt.shaped (.list (L.map lvD)) = true := by
  obtain ⟨h1, h2⟩ := lvs_flat L
  unfold SeqAt.shaped
  rw [Bool.and_eq_true, decide_eq_true_iff]
  refine ⟨by simp only [PyData.canLay0]; exact h2, ?_⟩
  simp only [PyData.depth]
  omega
theorem eqv_lvA : ∀ S T : List (List (List Int)), PyData.eqvAll (S.map stsD) (T.map stsD) = true → S = T
  | [], [], _ => rfl
  | [], _ :: _, h => by simp [PyData.eqvAll] at h
  | _ :: _, [], h => by simp [PyData.eqvAll] at h
  | a :: l, b :: m, h => by
    simp only [List.map_cons, PyData.eqvAll, Bool.and_eq_true] at h
    rw [eqv_sts h.1, eqv_lvA l m h.2]
theorem eqv_lv {S T : List (List (List Int))} (h : PyData.eqv (lvD S) (lvD T) = true) : S = T := eqv_lvA S T (by simpa only [PyData.eqv] using h)
theorem eqv_lvsA : ∀ S T : List (List (List (List Int))), PyData.eqvAll (S.map lvD) (T.map lvD) = true → S = T
  | [], [], _ => rfl
  | [], _ :: _, h => by simp [PyData.eqvAll] at h
  | _ :: _, [], h => by simp [PyData.eqvAll] at h
  | a :: l, b :: m, h => by
    simp only [List.map_cons, PyData.eqvAll, Bool.and_eq_true] at h
    rw [eqv_lv h.1, eqv_lvsA l m h.2]
theorem eqv_lvs {S T : List (List (List (List Int)))} (h : PyData.eqv (.list (S.map lvD)) (.list (T.map lvD)) = true) : S = T := eqv_lvsA S T (by simpa only [PyData.eqv] using h)
/-! ### its state -/
/-- what is there of each chart's class -/
structure ChTxt (K : PySem.W.Frag) (C : Addr) : Prop where
  cl : L2.Cls K C
  nK : NoAttr K C "_kinds"
  nR : NoAttr K C "_rooms"
  nL : NoAttr K C "_lists"
  nB : NoAttr K C "_boxes"
def cf (kd : Nat) (rv : V) (ll bb : Addr) : List (Str × V) := putF "_boxes" (.ref bb) (putF "_lists" (.ref ll) (putF "_rooms" rv (putF "_kinds" (.int (kd : Int)) [])))
theorem cf_get (kd : Nat) (rv : V) (ll bb : Addr) (f : Str) : (cf kd rv ll bb).lookup f = if f = "_boxes" then some (.ref bb) else if f = "_lists" then some (.ref ll) else if f = "_rooms" then some rv else if f = "_kinds" then some (.int (kd : Int)) else none := by
  unfold cf
  rw [lookup_putF, lookup_putF, lookup_putF, lookup_putF]
  rfl
theorem cf_kinds (kd : Nat) (rv : V) (ll bb : Addr) : (cf kd rv ll bb).lookup ("_kinds" : Str) = some (.int (kd : Int)) := by
  rw [cf_get, if_neg (by decide +kernel), if_neg (by decide +kernel), if_neg (by decide +kernel), if_pos rfl]
theorem cf_rooms (kd : Nat) (rv : V) (ll bb : Addr) : (cf kd rv ll bb).lookup ("_rooms" : Str) = some rv := by
  rw [cf_get, if_neg (by decide +kernel), if_neg (by decide +kernel), if_pos rfl]
theorem cf_lists (kd : Nat) (rv : V) (ll bb : Addr) : (cf kd rv ll bb).lookup ("_lists" : Str) = some (.ref ll) := by
  rw [cf_get, if_neg (by decide +kernel), if_pos rfl]
theorem cf_boxes (kd : Nat) (rv : V) (ll bb : Addr) : (cf kd rv ll bb).lookup ("_boxes" : Str) = some (.ref bb) := by
  rw [cf_get, if_pos rfl]
theorem cf_no (kd : Nat) (rv : V) (ll bb : Addr) {f : Str} (h1 : ¬ f = "_boxes") (h2 : ¬ f = "_lists") (h3 : ¬ f = "_rooms") (h4 : ¬ f = "_kinds") : (cf kd rv ll bb).lookup f = none := by
  rw [cf_get, if_neg h1, if_neg h2, if_neg h3, if_neg h4]
structure ChartIn (K : PySem.W.Frag) (C : Addr) (H : Hp) (p dx : Addr) (rv : V) (ll bb : Addr) (kd : Nat) (R : Rooms) (us : List V) (Ls : List (List (List (List Int)))) : Prop where
  hp : H p = some (.ins C dx (cf kd rv ll bb))
  hl : H ll = some (.lst us)
  dl : DpAll K (rmv H ll) us (Ls.map lvD)
  dr : Dp K (rmv H ll) rv (roomsD R)
  one : 1 ≤ Ls.length
  lv : ∀ (j : Nat) (L : List (List (List Int))), Ls[j]? = some L → RowOk R.length (PB none R j) L
theorem ChartIn.np {K : PySem.W.Frag} {C : Addr} {H : Hp} {p dx : Addr} {rv : V} {ll bb : Addr} {kd : Nat} {R : Rooms} {us : List V} {Ls : List (List (List (List Int)))} (c : ChartIn K C H p dx rv ll bb kd R us Ls) : p ≠ ll := by
  intro e
  have := c.hp
  rw [e, c.hl] at this
  cases this
theorem ChartIn.same {K : PySem.W.Frag} {C : Addr} {H H' : Hp} {p dx : Addr} {rv : V} {ll bb : Addr} {kd : Nat} {R : Rooms} {us : List V} {Ls : List (List (List (List Int)))} (c : ChartIn K C H p dx rv ll bb kd R us Ls) (s : Same H H') : ChartIn K C H' p dx rv ll bb kd R us Ls :=
  ⟨s _ _ c.hp, s _ _ c.hl, dpAll_same (rmv_to s) c.dl, dp_same (rmv_to s) c.dr, c.one, c.lv⟩
theorem ChartIn.len {K : PySem.W.Frag} {C : Addr} {H : Hp} {p dx : Addr} {rv : V} {ll bb : Addr} {kd : Nat} {R : Rooms} {us : List V} {Ls : List (List (List (List Int)))} (c : ChartIn K C H p dx rv ll bb kd R us Ls) : us.length = Ls.length := mapD_len c.dl
def spChLeast (K : PySem.W.Frag) (C : Addr) : Sp := fun vs H Q _ => ∃ (p dx : Addr) (rv : V) (ll bb : Addr) (kd : Nat) (R : Rooms) (us : List V) (Ls : List (List (List (List Int)))) (n : Nat),
  vs = [.ref p, .int (n : Int)] ∧ ChartIn K C H p dx rv ll bb kd R us Ls ∧ RmOk R ∧ FewP none R n ∧ n ≤ 1000 ∧ Ls.length ≤ 2000 ∧
  ∀ (v : V) (H' : Hp) (us' : List V) (Ls' : List (List (List (List Int)))) (M : List (List (List Int))), Kp ll H H' → ChartIn K C H' p dx rv ll bb kd R us' Ls' → Ls.length ≤ Ls'.length → Ls'.length ≤ max Ls.length (n + 1) → Dp K (rmv H' ll) v (lvD M) → RowOk R.length (PB none R n) M → Q v H'
def standD (r : Nat) (s : List Int) : PyData := .tuple [.int (r : Int), wayD s]
def spChLasts (K : PySem.W.Frag) (C : Addr) : Sp := fun vs H Q _ => ∃ (p dx : Addr) (rv : V) (ll bb : Addr) (kd : Nat) (R : Rooms) (us : List V) (Ls : List (List (List (List Int)))) (n r : Nat) (y : V) (s : List Int),
  vs = [.ref p, y, .int (n : Int)] ∧ ChartIn K C H p dx rv ll bb kd R us Ls ∧ RmOk R ∧ FewP none R n ∧ n ≤ 1000 ∧ Ls.length ≤ 2000 ∧ Dp K H y (standD r s) ∧ r < R.length ∧ 1 ≤ s.length ∧ s.length ≤ 4 ∧ (∀ z ∈ s, 0 ≤ z) ∧
  ∀ (b : Bool) (H' : Hp) (us' : List V) (Ls' : List (List (List (List Int)))), Kp ll H H' → ChartIn K C H' p dx rv ll bb kd R us' Ls' → Ls.length ≤ Ls'.length → Ls'.length ≤ max Ls.length (n + 1) → (b = true ↔ PB none R n r (four s)) → Q (.bl b) H'
def spChTold (K : PySem.W.Frag) (C : Addr) : Sp := fun vs H Q _ => ∃ (p dx : Addr) (rv : V) (ll bb : Addr) (kd : Nat) (y : V) (L : List (List (List Int))),
  vs = [.ref p, y] ∧ H p = some (.ins C dx (cf kd rv ll bb)) ∧ Dp K H y (lvD L) ∧ kd ≤ 4 ∧ 1 ≤ kd ∧ L.length ≤ 5000 ∧ (∀ l ∈ L, l.length ≤ 20000 ∧ ∀ t ∈ l, t.length = 4) ∧
  ∀ (q : Addr) (H' : Hp) (as : List Addr), Same H H' → H q = none → H' q = some (.lst (as.map V.ref)) → as.length = L.length → as.Nodup → q ∉ as → (∀ (i : Nat) (a : Addr) (l : List (List Int)), as[i]? = some a → L[i]? = some l → H a = none ∧ ∃ ps, H' a = some (.lst ps) ∧ DpAll K H' ps ((l.map fun x => x.take kd).map wayD)) → Q (.ref q) H'
theorem sIx_m2 (n : Nat) : HT.sIx n 0 (some (-2)) = n - 2 := by
  show (if (-2 : Int) < 0 then ((-2 : Int) + (n : Int)).toNat else min (-2 : Int).toNat n) = n - 2
  rw [if_pos (by decide)]
  omega
theorem cut_last2 {us : List V} : cutV us (some (-2)) none = us.drop (us.length - 2) := by
  unfold cutV
  rw [HT.sIx_none, sIx_m2, List.take_of_length_le (by rw [List.length_drop]; exact Nat.le_refl _)]
theorem dpAll_dropN {K : PySem.W.Frag} {H : Hp} : ∀ {vs : List V} {ds : List PyData} (n : Nat), DpAll K H vs ds → DpAll K H (vs.drop n) (ds.drop n)
  | _, _, 0, h => h
  | _, _, _ + 1, .nil => .nil
  | _, _, n + 1, .cons _ r => by
    rw [List.drop_succ_cons, List.drop_succ_cons]
    exact dpAll_dropN n r
section
variable {P : Program} {w : World} {K : PySem.W.Frag} {mg : Str → Option Value} {base : Heap}
theorem scChLeast : FnScope ["self", "n", "last"] ["self", "n"] (defScope sChLeast) := ⟨rfl, rfl, rfl, by decide +kernel, rfl, by decide +kernel, by decide +kernel⟩
theorem ok_chLeast {f fO C : Addr} {fd fdO : FuncData} {k : Nat} (F : Fun K "least" "Chart.least" sChLeast f fd) (T : ChTxt K C)
    (GO : FnOk P w K mg base CX0 (k + 5) fO fdO ["rooms", "before", "b"] (spOneMore K)) (kO : PySem.W.keepIn K (.ref fO) = true) (bO : Binds K fdO ["rooms", "before", "b"] []) (gO : mg "least_one_more" = some (.ref fO))
    (ml : mg "len" = none) : FnOk P w K mg base CX0 (k + 6) f fd ["self", "n"] (spChLeast K C) := by
  refine F.ok scChLeast (fun vs H Q E h => ?_) (fun cdv A outer s H vs Q E hr h => ?_)
  · obtain ⟨p, dx, rv, ll, bb, kd, R, us, Ls, n, rfl, _⟩ := h
    rfl
  · obtain ⟨p, dx, rv, ll, bb, kd, R, us, Ls, n, rfl, c, okR, fw, n1, lL, q⟩ := h
    refine ⟨_, pss_cons (ps_while PassesOwn.never (pt_cmpR op_le (pe_callB call_len_seq (by rfl) ml PySem.boot_len (pa_cons (pe_fld (pv 0) rfl) pa_nil)) (pv 1) (nomark _))
      (pss_cons (ps_set (i := 2) scChLeast.nd rfl (.inl rfl) (pe_ix ix_list (pe_fld (pv 0) rfl) (pe_un un_neg pe_int) (fun _ _ => rfl)))
      (pss_cons (ps_if (pt_cmpR (op_eqD hr.units) (pe_slice sl_list (pe_fld (pv 0) rfl) (po_some (pe_un un_neg pe_int)) po_none) (pe_lst (pa_cons (pv 2) (pa_cons (pv 2) pa_nil))) (nomark _)) (pss_one (ps_ret (pv 2))) pss_nil)
      (pss_one (ps_expr (pe_bm PySem.F.plainAttrs_list PySem.F.slot_list_append PySem.F.type_list_append mt_append (pe_fld (pv 0) rfl) (pa_cons (pe_call GO hr (by rfl) gO kO bO .nil pass0 (pa_cons (pe_fld (pv 0) rfl) (pa_cons (pv 2) (pa_cons pe_non pa_nil)))) pa_nil)))))))
      (pss_one (ps_ret (pe_ix ix_list (pe_fld (pv 0) rfl) (pv 1) (fun _ _ => rfl)))), ?_⟩
    refine ⟨fun t σ H1 => ∃ (y2 : Option V) (us1 : List V) (Ls1 : List (List (List (List Int)))), σ = [some (.ref p), some (.int (n : Int)), y2] ∧ Kp ll H H1 ∧ ChartIn K C H1 p dx rv ll bb kd R us1 Ls1 ∧ Ls.length ≤ Ls1.length ∧ Ls1.length ≤ max Ls.length (n + 1) ∧ t = n + 1 - Ls1.length,
      ⟨_, none, us, Ls, rfl, Kp.refl _ _, c, Nat.le_refl _, Nat.le_max_left _ _, rfl⟩, ?_⟩
    rintro t σ H1 ⟨y2, us1, Ls1, rfl, k1, c1, l1, l2, rfl⟩
    have lu := c1.len
    refine ⟨_, rfl, p, C, dx, _, _, rfl, c1.hp, T.cl, T.nL, cf_lists _ _ _ _, ll, us1, rfl, .inl (SqL.of c1.hl), _, rfl, _, (n : Int), rfl, rfl, _, rfl, ?_⟩
    by_cases cn : ¬ (us1.length : Int) ≤ (n : Int)
    · rw [decide_eq_false cn]
      refine ifF rfl ?_
      have nl : n < Ls1.length := by omega
      obtain ⟨vn, hvn, dvn⟩ := mapD_at c1.dl (List.getElem?_eq_getElem nl)
      refine ⟨_, rfl, p, C, dx, _, _, rfl, c1.hp, T.cl, T.nL, cf_lists _ _ _ _, _, rfl, ll, us1, (n : Int), vn, rfl, rfl, SqL.of c1.hl, atI_nat hvn, ?_⟩
      exact q vn H1 us1 Ls1 _ k1 c1 l1 l2 dvn (c1.lv n _ (List.getElem?_eq_getElem nl))
    have cn := Classical.not_not.mp cn
    rw [decide_eq_true cn]
    refine ifT rfl ⟨fun σ' H' => ∃ m', m' < n + 1 - Ls1.length ∧ ∃ (y2 : Option V) (us1 : List V) (Ls1 : List (List (List (List Int)))), σ' = [some (.ref p), some (.int (n : Int)), y2] ∧ Kp ll H H' ∧ ChartIn K C H' p dx rv ll bb kd R us1 Ls1 ∧ Ls.length ≤ Ls1.length ∧ Ls1.length ≤ max Ls.length (n + 1) ∧ m' = n + 1 - Ls1.length, fun _ _ z => z, ?_⟩
    -- the last one
    obtain ⟨Us, Lz, eLs⟩ : ∃ Us Lz, Ls1 = Us ++ [Lz] := ⟨Ls1.dropLast, Ls1.getLast (by intro z; have := c1.one; rw [z] at this; simp at this), (List.dropLast_concat_getLast _).symm⟩
    have lUs : Ls1.length = Us.length + 1 := by rw [eLs]; simp
    have tL : Ls1[Us.length]? = some Lz := by rw [eLs]; simp
    obtain ⟨vz, hvz, dvz⟩ := mapD_at c1.dl tL
    obtain ⟨ws, eus⟩ : ∃ ws, us1 = ws ++ [vz] := by
      refine ⟨us1.take Us.length, ?_⟩
      have e := take_snoc hvz
      rw [List.take_of_length_le (by omega)] at e
      exact e
    have atz : atI us1 (-1) = some vz := by
      rw [eus]
      exact atI_last _ _
    have rz := c1.lv _ _ tL
    refine ⟨_, rfl, p, C, dx, _, _, rfl, c1.hp, T.cl, T.nL, cf_lists _ _ _ _, 1, rfl, ll, us1, _, vz, rfl, rfl, SqL.of c1.hl, atz, ?_⟩
    have toL : Same (rmv H1 ll) H1 := rmv_same fun b o _ e => e
    have dz1 := dp_same toL dvz
    -- if self._lists[-2:] == [last, last]
    refine ⟨_, rfl, p, C, dx, _, _, rfl, c1.hp, T.cl, T.nL, cf_lists _ _ _ _, 2, rfl, _, rfl, ll, us1, rfl, SqL.of c1.hl, fun S nS => ?_⟩
    have sS := same_upd (o := .lst (cutV us1 (some (-2)) none)) nS
    refine ⟨_, rfl, _, rfl, by show 2 ≤ sizeLine; decide, fun S2 nS2 => ?_⟩
    have sS2 := same_upd (o := .lst [vz, vz]) nS2
    have s02 := sS.trans sS2
    have nS' : ll ≠ S := ne_of_none c1.hl nS
    have nS2' : ll ≠ S2 := ne_of_none (sS _ _ c1.hl) nS2
    have dS : Dp K (upd (upd H1 S (.lst (cutV us1 (some (-2)) none))) S2 (.lst [vz, vz])) (.ref S) (.list ((Ls1.drop (Ls1.length - 2)).map lvD)) := by
      refine .lst (SqL.of (sS2 _ _ upd_same)) ?_
      have e1 : us1.drop (Ls1.length - 2) = cutV us1 (some (-2)) none := by rw [cut_last2, lu]
      have z := dpAll_dropN (Ls1.length - 2) (dpAll_same (toL.trans s02) c1.dl)
      rw [e1] at z
      rw [List.map_drop]
      exact z
    have dz2 := dp_same s02 dz1
    have dS2 : Dp K (upd (upd H1 S (.lst (cutV us1 (some (-2)) none))) S2 (.lst [vz, vz])) (.ref S2) (.list ([Lz, Lz].map lvD)) := .lst (SqL.of upd_same) (.cons dz2 (.cons dz2 .nil))
    refine ⟨_, _, dS, dS2, lvs_shaped _, lvs_shaped _, _, rfl, ite2 (fun ee => ?_) fun _ => ?_⟩
    · have e := eqv_lvs ee
      have l2' : 2 ≤ Ls1.length := by
        have := congrArg List.length e
        rw [List.length_drop] at this
        simp only [List.length_cons, List.length_nil] at this
        omega
      have tL2 : Ls1[Us.length - 1]? = some Lz := by
        have h0 : (Ls1.drop (Ls1.length - 2))[0]? = some Lz := by rw [e]; rfl
        rw [List.getElem?_drop] at h0
        rw [← h0, show Us.length - 1 = Ls1.length - 2 + 0 by omega]
      have r1 := c1.lv _ _ tL2
      have r2 : RowOk R.length (PB none R (Us.length - 1 + 1)) Lz := by
        rw [show Us.length - 1 + 1 = Us.length by omega]
        exact rz
      have rn := RowOk.rest r1 r2 (n - (Us.length - 1))
      rw [show Us.length - 1 + (n - (Us.length - 1)) = n by omega] at rn
      exact ⟨_, rfl, q vz _ us1 Ls1 Lz (k1.same s02) (c1.same s02) l1 l2 (dp_same (rmv_to s02) dvz) rn⟩
    · -- self._lists.append(least_one_more(self._rooms, last, None))
      have c2 := c1.same s02
      have lUn : Us.length < n := by omega
      refine ⟨_, rfl, p, C, dx, _, _, rfl, c2.hp, T.cl, T.nL, cf_lists _ _ _ _, .inl ⟨rfl, _, SqL.of c2.hl⟩, ?_⟩
      refine ⟨_, rfl, p, C, dx, _, _, rfl, c2.hp, T.cl, T.nR, cf_rooms _ _ _ _, _, rfl, ?_⟩
      obtain ⟨m, fwm⟩ := fw Us.length lUn
      refine ⟨rv, vz, none, R, Lz, PB none R Us.length, m, ll, us1, rfl, c2.hl, c2.dr, dp_same (rmv_to s02) dvz, okR, rz, fwm, fun qn H3 M s3 nq dM rM => ?_⟩
      have c3 := c2.same s3
      have nql : qn ≠ ll := (ne_of_none c2.hl nq).symm
      refine ⟨ll, us1, _, rfl, rfl, c3.hl, small_line (by omega), ?_⟩
      refine ⟨n + 1 - (Ls1 ++ [M]).length, by rw [List.length_append, List.length_singleton]; omega, _, us1 ++ [.ref qn], Ls1 ++ [M], rfl, ?_, ⟨?_, upd_same, ?_, ?_, ?_, fun j L hj => ?_⟩, ?_, ?_, rfl⟩
      · exact (k1.same (s02.trans s3)).trans (kp_upd ll H3 _)
      · rw [upd_ne c3.np]
        exact c3.hp
      · rw [List.map_append]
        have rr : Same (rmv H3 ll) (rmv (upd H3 ll (.lst (us1 ++ [.ref qn]))) ll) := rmv_rmv fun b o n e => by rw [upd_ne n]; exact e
        exact dpAll_same rr (dpAll_app c3.dl (.cons dM .nil))
      · have rr : Same (rmv H3 ll) (rmv (upd H3 ll (.lst (us1 ++ [.ref qn]))) ll) := rmv_rmv fun b o n e => by rw [upd_ne n]; exact e
        exact dp_same rr c3.dr
      · rw [List.length_append]
        exact Nat.le_trans c1.one (Nat.le_add_right _ _)
      · by_cases hr : j < Ls1.length
        · rw [List.getElem?_append_left hr] at hj
          exact c1.lv j L hj
        · have e : j = Ls1.length := by
            have := (List.getElem?_eq_some_iff.mp hj).1
            rw [List.length_append, List.length_singleton] at this
            omega
          subst e
          rw [List.getElem?_append_right (Nat.le_refl _), Nat.sub_self] at hj
          cases hj
          rw [lUs]
          exact rM
      · rw [List.length_append]
        exact Nat.le_trans l1 (Nat.le_add_right _ _)
      · rw [List.length_append, List.length_singleton]
        omega
end
section
variable {P : Program} {w : World} {K : PySem.W.Frag} {mg : Str → Option Value} {base : Heap}
theorem scChLasts : FnScope ["self", "stand", "n", "room", "store", "there", "number"] ["self", "stand", "n"] (defScope sChLasts) := ⟨rfl, rfl, rfl, by decide +kernel, rfl, by decide +kernel, by decide +kernel⟩
theorem ok_chLasts {f fL fI fC C : Addr} {fd fdL fdI fdC : FuncData} {k : Nat} (F : Fun K "lasts" "Chart.lasts" sChLasts f fd) (T : ChTxt K C)
    (GL : FnOk P w K mg base CX0 (k + 6) fL fdL ["self", "n"] (spChLeast K C)) (mL : Meth K C "least" fL) (bL : Binds K fdL ["self", "n"] [])
    (GI : FnOk P w K mg base CX0 (k + 6) fI fdI ["numbers"] (spInFour K)) (kI : PySem.W.keepIn K (.ref fI) = true) (bI : Binds K fdI ["numbers"] []) (gI : mg "in_four" = some (.ref fI))
    (GC : FnOk P w K mg base CX0 (k + 6) fC fdC ["store", "stores"] (spCovOne K)) (kC : PySem.W.keepIn K (.ref fC) = true) (bC : Binds K fdC ["store", "stores"] []) (gC : mg "covers_one" = some (.ref fC))
    (ml : mg "len" = none) (mr : mg "range" = none) (mm : mg "min" = none) : FnOk P w K mg base CX0 (k + 7) f fd ["self", "stand", "n"] (spChLasts K C) := by
  refine F.ok scChLasts (fun vs H Q E h => ?_) (fun cdv A outer s0 H vs Q E hr h => ?_)
  · obtain ⟨p, dx, rv, ll, bb, kd, R, us, Ls, n, r, y, s, rfl, _⟩ := h
    rfl
  · obtain ⟨p, dx, rv, ll, bb, kd, R, us, Ls, n, r, y, s, rfl, c, okR, fw, n1, lL, dy, rR, s1, s4, sp0, q⟩ := h
    refine ⟨_, pss_cons (ps_asg (pv 1) (pg_tup (by rfl) (pgs_cons (pg_name (i := 3) scChLasts.nd rfl (.inl rfl)) (pgs_cons (pg_name (i := 4) scChLasts.nd rfl (.inl rfl)) pgs_nil))))
      (pss_cons (ps_set (i := 5) scChLasts.nd rfl (.inl rfl) (pe_call GI hr (by rfl) gI kI bI .nil pass0 (pa_cons (pv 4) pa_nil)))
      (pss_cons (ps_for PassesOwn.never rfl (pi_range2 (by rfl) mr (pa_cons (pe_callB (call_min2 rfl) (by rfl) mm (by decide +kernel) (pa_cons (pv 2) (pa_cons (pe_op op_sub (pe_callB call_len_seq (by rfl) ml PySem.boot_len (pa_cons (pe_fld (pv 0) rfl) pa_nil)) pe_int) pa_nil))) (pa_cons (pe_op op_add (pv 2) pe_int) pa_nil))) (pg_name (i := 6) scChLasts.nd rfl (.inl rfl))
        (pss_one (ps_if (pt_not (pt_val (pe_call GC hr (by rfl) gC kC bC .nil pass0 (pa_cons (pv 5) (pa_cons (pe_ix ix_list (pe_meth (pv 0) T.cl mL GL hr bL .nil pass0 (pa_cons (pv 6) pa_nil)) (pv 3) (fun _ _ => rfl)) pa_nil))))) (pss_one (ps_ret pe_bl)) pss_nil)))
      (pss_one (ps_ret pe_bl)))), ?_⟩
    cases dy with
    | @tup ya yvs _ hY yall =>
    cases yall with
    | @cons v1 _ _ _ d1 r1 =>
    cases r1 with
    | @cons v2 _ _ _ d2 r2 =>
    cases r2
    cases d1
    have lu := c.len
    have c1 := c.one
    refine ⟨_, rfl, ya, _, rfl, hY, rfl, _, _, rfl, _, _, rfl, rfl, ?_⟩
    refine ⟨_, rfl, v2, s, rfl, d2, s1, s4, fun tv H1 sm1 dT => ?_⟩
    have ok := four_ok s1 s4 sp0
    have cc := c.same sm1
    refine ⟨_, rfl, _, rfl, p, C, dx, _, _, rfl, cc.hp, T.cl, T.nL, cf_lists _ _ _ _, ll, us, rfl, .inl (SqL.of cc.hl), _, _, rfl, rfl, _, _, rfl, ?_⟩
    -- the least of both
    obtain ⟨lo, elo, lon⟩ : ∃ lo : Nat, (if (us.length : Int) - 1 < (n : Int) then (us.length : Int) - 1 else (n : Int)) = (lo : Int) ∧ lo ≤ n := by
      by_cases h : (us.length : Int) - 1 < (n : Int)
      · exact ⟨us.length - 1, by rw [if_pos h]; omega, by omega⟩
      · exact ⟨n, by rw [if_neg h], Nat.le_refl _⟩
    rw [elo]
    refine ⟨_, rfl, _, _, rfl, rfl, _, _, rfl, ⟨by omega, by omega, by omega, by omega⟩, ?_⟩
    rw [show ((n : Int) + 1 - (lo : Int)).toNat = n + 1 - lo by omega]
    refine for_range (lo := (lo : Int)) (n := n + 1 - lo) (fun j σ H2 => ∃ (y6 : Option V) (us2 : List V) (Ls2 : List (List (List (List Int)))), σ = [some (.ref p), some (.ref ya), some (.int (n : Int)), some (.int (r : Int)), some v2, some tv, y6] ∧ Kp ll H1 H2 ∧ ChartIn K C H2 p dx rv ll bb kd R us2 Ls2 ∧ Ls.length ≤ Ls2.length ∧ Ls2.length ≤ max Ls.length (n + 1) ∧ (j = 0 ∨ PB none R (lo + j - 1) r (four s)))
      ⟨none, us, Ls, rfl, Kp.refl _ _, cc, Nat.le_refl _, Nat.le_max_left _ _, .inl rfl⟩ ?_ ?_
    · rintro j σ H2 hj ⟨y6, us2, Ls2, rfl, k2, c2, l1, l2, pj⟩
      have tvD : Dp K H2 tv (wayD (four s)) := dp_kp k2 cc.hl dT (noL_way _)
      have le1 : lo + j ≤ n := by omega
      refine ⟨_, rfl, _, rfl, ?_⟩
      refine ⟨p, dx, _, rfl, c2.hp, cf_no _ _ _ _ (by decide +kernel) (by decide +kernel) (by decide +kernel) (by decide +kernel), _, rfl, ?_⟩
      refine ⟨p, dx, rv, ll, bb, kd, R, us2, Ls2, lo + j, by rw [Int.natCast_add]; rfl, c2, okR, fw.le le1, by omega, by omega, fun v H3 us3 Ls3 M k3 c3 l3 l4 dv rM => ?_⟩
      obtain ⟨l, hl, can⟩ := rM.at rR
      obtain ⟨va, vvs, rfl, hV0, vall⟩ := lst_of dv
      have toL : Same (rmv H3 ll) H3 := rmv_same fun b o _ e => e
      obtain ⟨lv, hlv, dlv⟩ := mapD_at vall hl
      have tvD3 : Dp K H3 tv (wayD (four s)) := dp_kp k3 c2.hl tvD (noL_way _)
      refine ⟨_, rfl, va, vvs, (r : Int), lv, rfl, rfl, toL.seq hV0, atI_nat hlv, ?_⟩
      refine ⟨tv, lv, four s, l, rfl, tvD3, dp_same toL dlv, ok4_len ok, fun t ht => ok4_len (can.ok t ht), fun H4 s4' => ?_⟩
      have up := (can.up _ ok).symm.trans anyLe_iff.symm
      refine ⟨_, rfl, ?_⟩
      have c4 := c3.same s4'
      have kk : Kp ll H H4 := (sm1.kp.trans (k2.trans k3)).same s4'
      have l5 : Ls3.length ≤ max Ls.length (n + 1) := by omega
      cases cv : anyLe (four s) l with
      | false =>
        rw [cv] at up
        refine ifT rfl (q false H4 us3 Ls3 kk c4 (by omega) l5 ⟨fun z => Bool.noConfusion z, fun z => ?_⟩)
        exact absurd (up.mp (z.le le1)) (by decide)
      | true =>
        rw [cv] at up
        refine ifF rfl ⟨_, us3, Ls3, rfl, (k2.trans k3).same s4', c4, by omega, l5, .inr ?_⟩
        rw [show lo + (j + 1) - 1 = lo + j by omega]
        exact up.mpr rfl
    · rintro σ H2 ⟨y6, us2, Ls2, rfl, k2, c2, l1, l2, pj⟩
      refine q true H2 us2 Ls2 (sm1.kp.trans k2) c2 l1 l2 ⟨fun _ => ?_, fun _ => rfl⟩
      rcases pj with z | z
      · omega
      · rw [show lo + (n + 1 - lo) - 1 = n by omega] at z
        exact z
end
section
variable {P : Program} {w : World} {K : PySem.W.Frag} {mg : Str → Option Value} {base : Heap}
theorem scChTold : FnScope ["self", "lists", "stores", "store"] ["self", "lists"] (defScope sChTold) := ⟨rfl, rfl, rfl, by decide +kernel, rfl, by decide +kernel, by decide +kernel⟩
theorem ok_chTold {f C : Addr} {fd : FuncData} {k : Nat} (F : Fun K "told" "Chart.told" sChTold f fd) (T : ChTxt K C) : FnOk P w K mg base CX0 (k + 1) f fd ["self", "lists"] (spChTold K C) := by
  refine F.ok scChTold (fun vs H Q E h => ?_) (fun cdv A outer s0 H vs Q E hr h => ?_)
  · obtain ⟨p, dx, rv, ll, bb, kd, y, L, rfl, _⟩ := h
    rfl
  · obtain ⟨p, dx, rv, ll, bb, kd, y, L, rfl, hp, dy, k4, k1, lL, okL, q⟩ := h
    refine ⟨_, pss_one (ps_ret (pe_lc (own := [("stores", 2)]) (g := gName 2) (tt := tYes) (te := tLc (iList K (tVar 2)) (gName 3) tYes (tSl (rSlA K) (tVar 3) tNoPart (tPart (tFld K (tVar 0) "_kinds"))) [3]) rfl scChTold.nd (pi_list (pv 1))
        (blkOk_by (N := ["self", "lists", "stores", "store"]) (sc := defScope sChTold) (by decide +kernel))
        (fun _ _ _ _ _ => by exact pg_name (i := 2) scChTold.nd rfl (.inl rfl)) (fun _ _ _ _ _ => pts_nil)
        (fun _ _ _ _ _ => by exact (by
          refine pe_lc (wi := iList K (tVar 2)) (own := [("store", 3)]) (g := gName 3) (tt := tYes) (te := tSl (rSlA K) (tVar 3) tNoPart (tPart (tFld K (tVar 0) "_kinds"))) ?_ ?_ ?_ ?_ ?_ ?_ ?_
          · rfl
          · exact scChTold.nd
          · exact pi_list (pv 2)
          · exact blkOk_by (N := ["self", "lists", "stores", "store"]) (sc := lcSc [(".0", .local), ("stores", .local), ("self", .cell)]) (by decide +kernel)
          · exact fun _ _ _ _ _ => by exact pg_name (i := 3) scChTold.nd rfl (.inl rfl)
          · exact fun _ _ _ _ _ => pts_nil
          · exact fun _ _ _ _ _ => by exact pe_slice (r := rSlA K) sl_tupA (pv 3) po_none (po_some (pe_fld (pv 0) rfl)))))), ?_⟩
    obtain ⟨ya, yvs, rfl, hY, yall⟩ := lst_of dy
    have ly := mapD_len yall
    refine ⟨_, rfl, ya, rfl, ⟨_, hY⟩, fun D nD => ?_⟩
    have sD := same_upd (o := .lst []) nD
    refine lc_list (K := K) (a := ya) (xs := yvs) (fun j H1 => Same H H1 ∧ ∃ as : List Addr, H1 D = some (.lst (as.map V.ref)) ∧ as.length = j ∧ as.Nodup ∧ D ∉ as ∧ ∀ (i : Nat) (a : Addr) (l : List (List Int)), as[i]? = some a → L[i]? = some l → H a = none ∧ ∃ ps, H1 a = some (.lst ps) ∧ DpAll K H1 ps ((l.map fun x => x.take kd).map wayD))
      ⟨sD, [], upd_same, rfl, List.nodup_nil, List.not_mem_nil, fun i a l h => nomatch h⟩ (fun j H1 _ ⟨s1, _⟩ => s1.seq hY) ?_ ?_
    · rintro j v H1 hj ⟨s1, as, hD, las, nd, nDa, all⟩
      obtain ⟨l, hl, dl⟩ := mapD_get yall hj
      have jl := (List.getElem?_eq_some_iff.mp hl).1
      obtain ⟨l20, l4⟩ := okL l (List.mem_of_getElem? hl)
      obtain ⟨la, lvs, rfl, hl0, lall⟩ := lst_of dl
      have ll := mapD_len lall
      refine ⟨rfl, ?_⟩
      refine ⟨_, rfl, la, rfl, ⟨_, s1.seq hl0⟩, fun G nG => ?_⟩
      have sG := same_upd (o := .lst []) nG
      have nGH := s1.free nG
      have nDG : D ≠ G := ne_of_none hD nG
      refine lc_list (K := K) (a := la) (xs := lvs) (fun t H3 => Same H1 H3 ∧ ∃ ps, H3 G = some (.lst ps) ∧ DpAll K H3 ps (((l.take t).map fun x => x.take kd).map wayD)) ⟨sG, [], upd_same, .nil⟩ (fun j H3 _ ⟨s3, _⟩ => s3.seq (s1.seq hl0)) ?_ ?_
      · rintro t v H3 ht ⟨s3, ps, hG, dps⟩
        obtain ⟨u, hu, du⟩ := sts_get lall ht
        obtain ⟨ta, rfl, hT⟩ := way_of du
        have u4 := l4 u (List.mem_of_getElem? hu)
        have lp := sts_len dps
        simp only [List.length_map, List.length_take] at lp
        have s13 := s1.trans s3
        refine ⟨rfl, ?_⟩
        have fin : ∀ (b : Addr) (H4 : Hp), Same H3 H4 → SqT K H4 b ((u.take kd).map V.int) → ∃ acc, H4 G = some (.lst acc) ∧ acc.length < sizeLine ∧ (Same H1 (upd H4 G (.lst (acc ++ [.ref b]))) ∧ ∃ ps, upd H4 G (.lst (acc ++ [.ref b])) G = some (.lst ps) ∧ DpAll K (upd H4 G (.lst (acc ++ [.ref b]))) ps (((l.take (t + 1)).map fun x => x.take kd).map wayD)) := fun b H4 s4 hb => by
          refine ⟨ps, s4 _ _ hG, small_line (by omega), fun b o e => ?_, ps ++ [.ref b], upd_same, ?_⟩
          · rw [upd_ne (ne_of_none e nG)]
            exact s4 _ _ (s3 _ _ e)
          · rw [take_snoc hu, List.map_append, List.map_append]
            exact dpAll_put (s4 _ _ hG) (dpAll_app (dpAll_same s4 dps) (.cons (of_way hb) .nil)) (noL_app _ [u.take kd])
        refine ⟨_, rfl, _, rfl, p, C, dx, _, _, rfl, s13 _ _ hp, T.cl, T.nK, cf_kinds _ _ _ _, ?_⟩
        refine ⟨kd, rfl, ta, _, rfl, s13.seqT hT, fun c => ?_, fun c p np => ?_⟩
        · refine fin ta H3 (Same.refl _) ?_
          have e : kd = 4 := by
            have c2 := c.2
            rw [show HT.sIx (u.map V.int).length (u.map V.int).length (some (kd : Int)) = min kd (u.map V.int).length from HT.sIx_nat _ _ kd, List.length_map, u4] at c2
            omega
          rw [e, List.take_of_length_le (by omega)]
          exact s13.seqT hT
        · refine fin p _ (same_upd np) ?_
          rw [cut_take (by omega)]
          exact SqT.of upd_same
      · rintro H3 ⟨s3, ps, hG, dps⟩
        rw [ll, List.take_length] at dps
        have hD3 := s3 _ _ hD
        have nGa : G ∉ as := fun h => by
          obtain ⟨i, hi⟩ := List.mem_iff_getElem?.mp h
          have il := (List.getElem?_eq_some_iff.mp hi).1
          obtain ⟨_, ps0, e0, _⟩ := all i G _ hi (List.getElem?_eq_getElem (by omega : i < L.length))
          rw [e0] at nG
          cases nG
        refine ⟨as.map V.ref, hD3, small_line (by rw [List.length_map]; omega), fun b o e => ?_, as ++ [G], by rw [upd_same, List.map_append]; rfl, by rw [List.length_append, las]; rfl, ?_, ?_, fun i a l' hi hl' => ?_⟩
        · rw [upd_ne (ne_of_none e nD)]
          exact s3 _ _ (s1 _ _ e)
        · refine List.nodup_append.mpr ⟨nd, by simp, fun a ha b hb => ?_⟩
          rw [List.mem_singleton.mp hb]
          exact fun z => nGa (z ▸ ha)
        · intro h
          rcases List.mem_append.mp h with h | h
          · exact nDa h
          · exact nDG (List.mem_singleton.mp h)
        · have nl : ∀ l : List (List Int), noLAll ((l.map fun x => x.take kd).map wayD) = true := fun l => noLAll_map noL_way _
          by_cases hr : i < as.length
          · rw [List.getElem?_append_left hr] at hi
            obtain ⟨n0, ps0, e0, d0⟩ := all i a l' hi hl'
            have nDa' : a ≠ D := fun z => nDa (z ▸ List.mem_of_getElem? hi)
            exact ⟨n0, ps0, by rw [upd_ne nDa']; exact s3 _ _ e0, dpAll_put hD3 (dpAll_same s3 d0) (nl l')⟩
          · have e : i = as.length := by
              have := (List.getElem?_eq_some_iff.mp hi).1
              rw [List.length_append, List.length_singleton] at this
              omega
            subst e
            rw [List.getElem?_append_right (Nat.le_refl _), Nat.sub_self] at hi
            cases hi
            rw [las, hl] at hl'
            cases hl'
            exact ⟨nGH, ps, by rw [upd_ne nDG.symm]; exact hG, dpAll_put hD3 dps (nl l)⟩
    · rintro H1 ⟨s1, as, hD, las, nd, nDa, all⟩
      exact q D H1 as s1 nD hD (by omega) nd nDa all
end
/-! ### a plan as it is handed in -/
def askT (a : PAsk) : PyData := .tuple (a.map pairP)
def roomT (r : List PAsk) : PyData := .tuple (r.map askT)
def planD (kd : Nat) (P : Rooms) : PyData := .tuple [.int (kd : Int), .tuple (P.map roomT)]
def ask4 (a : PAsk) : PAsk := a.map fun q => (four q.1, q.2)
def R4 (P : Rooms) : Rooms := P.map fun r => r.map ask4
structure PlOk (P : Rooms) (kd : Nat) : Prop where
  k1 : 1 ≤ kd
  k4 : kd ≤ 4
  one : 1 ≤ P.length
  few : P.length ≤ 100
  asks : ∀ l ∈ P, l.length ≤ 1000
  five : ∀ l ∈ P, ∀ a ∈ l, a.length ≤ 5
  pair : ∀ l ∈ P, ∀ a ∈ l, ∀ p ∈ a, p.1.length = kd ∧ p.2 < P.length
theorem PlOk.rooms {P : Rooms} {kd : Nat} (o : PlOk P kd) : RmOk (R4 P) := by
  have k4 := o.k4
  have few := o.few
  have e : (R4 P).length = P.length := List.length_map ..
  refine ⟨by omega, fun l hl => ?_, fun l hl a ha => ?_, fun l hl a ha p hp => ?_⟩
  · obtain ⟨l0, h0, rfl⟩ := List.mem_map.mp hl
    rw [List.length_map]
    exact o.asks l0 h0
  · obtain ⟨l0, h0, rfl⟩ := List.mem_map.mp hl
    obtain ⟨a0, h1, rfl⟩ := List.mem_map.mp ha
    unfold ask4
    rw [List.length_map]
    exact o.five l0 h0 a0 h1
  · obtain ⟨l0, h0, rfl⟩ := List.mem_map.mp hl
    obtain ⟨a0, h1, rfl⟩ := List.mem_map.mp ha
    obtain ⟨p0, h2, rfl⟩ := List.mem_map.mp hp
    obtain ⟨e1, e2⟩ := o.pair l0 h0 a0 h1 p0 h2
    exact ⟨four_len (by omega), by rw [e]; exact e2⟩
def zeroL (n : Nat) : List (List (List Int)) := List.replicate n [[0, 0, 0, 0]]
theorem zeroL_ok (R : Rooms) : RowOk R.length (PB none R 0) (zeroL R.length) := by
  refine ⟨List.length_replicate, fun r l hl => ?_⟩
  have e := List.eq_of_mem_replicate (List.mem_of_getElem? hl)
  rw [e]
  exact (canon_zero []).congr fun x hx => ⟨fun _ => True.intro, fun _ => True.intro⟩
def spChInit (K : PySem.W.Frag) (C : Addr) : Sp := fun vs H Q _ => ∃ (p dx : Addr) (y : V) (P : Rooms) (kd : Nat), vs = [.ref p, y] ∧ H p = some (.ins C dx []) ∧ Dp K H y (planD kd P) ∧ PlOk P kd ∧
  ∀ (H' : Hp) (rv : V) (ll bb : Addr) (us : List V), Kp p H H' → H ll = none → H bb = none → H' bb = some (.dK []) → ChartIn K C H' p dx rv ll bb kd (R4 P) us [zeroL P.length] → Q .non H'
section
variable {P : Program} {w : World} {K : PySem.W.Frag} {mg : Str → Option Value} {base : Heap}
theorem scChInit : FnScope ["self", "plan", "rooms", "room", "ask", "way", "to", "_"] ["self", "plan"] (defScope sChInit) := ⟨rfl, rfl, rfl, by decide +kernel, rfl, by decide +kernel, by decide +kernel⟩
theorem ok_chInit {f fI C an : Addr} {fd fdI : FuncData} {k : Nat} (F : Fun K "__init__" "Chart.__init__" sChInit f fd) (T : ChTxt K C)
    (GI : FnOk P w K mg base CX0 (k + 1) fI fdI ["numbers"] (spInFour K)) (kI : PySem.W.keepIn K (.ref fI) = true) (bI : Binds K fdI ["numbers"] []) (gI : mg "in_four" = some (.ref fI))
    (gN : mg "NOTHING" = some (.ref an)) (hN : ∀ H : Hp, Dp K H (.ref an) (wayD [0, 0, 0, 0])) : FnOk P w K mg base CX0 (k + 2) f fd ["self", "plan"] (spChInit K C) := by
  refine F.ok scChInit (fun vs H Q E h => ?_) (fun cdv A outer s0 H vs Q E hr h => ?_)
  · obtain ⟨p, dx, y, P, kd, rfl, _⟩ := h
    rfl
  · obtain ⟨p, dx, y, P, kd, rfl, hp, dy, o, q⟩ := h
    refine ⟨_, pss_cons (ps_asg (pv 1) (pg_tup (by rfl) (pgs_cons (pg_fld (pv 0)) (pgs_cons (pg_name (i := 2) scChInit.nd rfl (.inl rfl)) pgs_nil))))
      (pss_cons (ps_fld (pv 0) (pe_lc (own := [("room", 3)]) (g := gName 3) (tt := tYes) (te := tLc (iTup K (tVar 3)) (gName 4) tYes (tLc (iTup K (tVar 4)) (gTup K 2 (gCons (gName 5) (gCons (gName 6) gNil))) tYes (tTup (tCons (tCall (spInFour K) [] E0 (tCons (tVar 5) tNil)) (tCons (tVar 6) tNil))) [5, 6]) [4]) rfl scChInit.nd (pi_tup (pv 2))
          (blkOk_by (N := ["self", "plan", "rooms", "room", "ask", "way", "to", "_"]) (sc := defScope sChInit) (by decide +kernel))
          (fun _ _ _ _ _ => by exact pg_name (i := 3) scChInit.nd rfl (.inl rfl)) (fun _ _ _ _ _ => pts_nil)
          (fun _ _ _ _ _ => by exact (by
            refine pe_lc (wi := iTup K (tVar 3)) (own := [("ask", 4)]) (g := gName 4) (tt := tYes) (te := tLc (iTup K (tVar 4)) (gTup K 2 (gCons (gName 5) (gCons (gName 6) gNil))) tYes (tTup (tCons (tCall (spInFour K) [] E0 (tCons (tVar 5) tNil)) (tCons (tVar 6) tNil))) [5, 6]) ?_ ?_ ?_ ?_ ?_ ?_ ?_
            · rfl
            · exact scChInit.nd
            · exact pi_tup (pv 3)
            · exact blkOk_by (N := ["self", "plan", "rooms", "room", "ask", "way", "to", "_"]) (sc := lcSc [(".0", .local), ("room", .local)]) (by decide +kernel)
            · exact fun _ _ _ _ _ => by exact pg_name (i := 4) scChInit.nd rfl (.inl rfl)
            · exact fun _ _ _ _ _ => pts_nil
            · intro _ _ _ _ _
              refine pe_lc (wi := iTup K (tVar 4)) (own := [("way", 5), ("to", 6)]) (g := gTup K 2 (gCons (gName 5) (gCons (gName 6) gNil))) (tt := tYes) (te := tTup (tCons (tCall (spInFour K) [] E0 (tCons (tVar 5) tNil)) (tCons (tVar 6) tNil))) ?_ ?_ ?_ ?_ ?_ ?_ ?_
              · rfl
              · exact scChInit.nd
              · exact pi_tup (pv 4)
              · exact blkOk_by (N := ["self", "plan", "rooms", "room", "ask", "way", "to", "_"]) (sc := lcSc [(".0", .local), ("ask", .local)]) (by decide +kernel)
              · exact fun _ _ _ _ _ => by refine pg_tup rfl (pgs_cons ?_ (pgs_cons ?_ pgs_nil)); exact pg_name (i := 5) scChInit.nd rfl (.inl rfl); exact pg_name (i := 6) scChInit.nd rfl (.inl rfl)
              · exact fun _ _ _ _ _ => pts_nil
              · exact fun _ _ _ _ _ => by exact pe_tup (pa_cons (pe_call GI hr (by rfl) gI kI bI .nil pass0 (pa_cons (pv 5) pa_nil)) (pa_cons (pv 6) pa_nil))))) rfl)
      (pss_cons (ps_fld (pv 0) (pe_lst (pa_cons (pe_lc (own := [("_", 7)]) (g := gName 7) (tt := tYes) (te := tLst (tCons (tC (.ref an)) tNil)) rfl scChInit.nd (pi_tup (pv 2))
          (blkOk_by (N := ["self", "plan", "rooms", "room", "ask", "way", "to", "_"]) (sc := defScope sChInit) (by decide +kernel))
          (fun _ _ _ _ _ => by exact pg_name (i := 7) scChInit.nd rfl (.inl rfl)) (fun _ _ _ _ _ => pts_nil)
          (fun _ _ _ _ _ => by exact pe_lst (pa_cons (pe_glob (v := .ref an) (by rfl) gN rfl) pa_nil))) pa_nil)) rfl)
      (pss_one (ps_fld (pv 0) pe_dnewK rfl)))), ?_⟩
    have k1 := o.k1
    have k4 := o.k4
    cases dy with
    | @tup ya yvs _ hY yall =>
    cases yall with
    | @cons v1 _ _ _ d1 r1 =>
    cases r1 with
    | @cons v2 _ _ _ d2 r2 =>
    cases r2
    cases d1
    obtain ⟨ra, rvs, rfl, hR0, rall0⟩ := tup_of d2
    -- self._kinds, rooms = plan
    have kK := kp_upd p H (.ins C dx (putF "_kinds" (.int (kd : Int)) []))
    refine ⟨_, rfl, ya, _, rfl, hY, rfl, _, _, rfl, _, rfl, p, C, dx, [], rfl, hp, T.cl, T.nK, by show 0 < 1000; decide, _, _, rfl, rfl, ?_⟩
    have hR := kK.seqTI hp hR0
    have rall := dpAll_ki kK hp rall0
    have hp1 : (upd H p (.ins C dx (putF "_kinds" (.int (kd : Int)) []))) p = some (.ins C dx (putF "_kinds" (.int (kd : Int)) [])) := upd_same
    generalize (upd H p (.ins C dx (putF "_kinds" (.int (kd : Int)) []))) = H1 at hR rall hp1 kK ⊢
    clear hR0 rall0
    have lr := mapD_len rall
    have few := o.few
    -- self._rooms
    refine ⟨_, rfl, ra, rfl, ⟨_, hR⟩, fun D nD => ?_⟩
    have sD := same_upd (o := .lst []) nD
    refine lc_tup (K := K) (a := ra) (xs := rvs) (fun j H2 => Same H1 H2 ∧ ∃ ps, H2 D = some (.lst ps) ∧ DpAll K (rmv H2 D) ps ((R4 (P.take j)).map roomD)) ⟨sD, [], upd_same, .nil⟩ (fun j H2 _ ⟨s2, _⟩ => s2.seqT hR) ?_ ?_
    · rintro j v H2 hj ⟨s2, ps, hD, dps⟩
      obtain ⟨room, hroom, droom⟩ := mapD_get rall hj
      have mroom := List.mem_of_getElem? hroom
      have jl := (List.getElem?_eq_some_iff.mp hroom).1
      obtain ⟨qa, qvs, rfl, hQ, qall⟩ := tup_of droom
      have lq := mapD_len qall
      have lps := mapD_len dps
      unfold R4 at lps
      simp only [List.length_map, List.length_take] at lps
      have la := o.asks room mroom
      refine ⟨rfl, ?_⟩
      refine ⟨_, rfl, qa, rfl, ⟨_, s2.seqT hQ⟩, fun G nG => ?_⟩
      have sG := same_upd (o := .lst []) nG
      have nDG : D ≠ G := ne_of_none hD nG
      refine lc_tup (K := K) (a := qa) (xs := qvs) (fun t H3 => Same H2 H3 ∧ ∃ ps, H3 G = some (.lst ps) ∧ DpAll K (rmv (rmv H3 D) G) ps (((room.take t).map ask4).map paskD)) ⟨sG, [], upd_same, .nil⟩ (fun t H3 _ ⟨s3, _⟩ => s3.seqT (s2.seqT hQ)) ?_ ?_
      · rintro t v H3 ht ⟨s3, ps3, hG, dps3⟩
        obtain ⟨a, ha, da⟩ := mapD_get qall ht
        have ma := List.mem_of_getElem? ha
        have tl := (List.getElem?_eq_some_iff.mp ha).1
        have l5 := o.five room mroom a ma
        obtain ⟨aa, avs, rfl, hA, aall⟩ := tup_of da
        have lav := mapD_len aall
        have s23 := s2.trans s3
        have lp3 := mapD_len dps3
        simp only [List.length_map, List.length_take] at lp3
        refine ⟨rfl, ?_⟩
        refine ⟨_, rfl, aa, rfl, ⟨_, s23.seqT hA⟩, fun J nJ => ?_⟩
        have sJ := same_upd (o := .lst []) nJ
        have hD3 := s3 _ _ hD
        have nDJ : D ≠ J := ne_of_none hD3 nJ
        have nGJ : G ≠ J := ne_of_none hG nJ
        refine lc_tup (K := K) (a := aa) (xs := avs) (fun i H4 => Same H3 H4 ∧ ∃ ps, H4 J = some (.lst ps) ∧ DpAll K H4 ps ((ask4 (a.take i)).map pairP)) ⟨sJ, [], upd_same, .nil⟩ (fun i H4 _ ⟨s4, _⟩ => s4.seqT (s23.seqT hA)) ?_ ?_
        · rintro i v H4 hi ⟨s4, ps4, hJ, dps4⟩
          obtain ⟨pr, hpr, dpr⟩ := mapD_get aall hi
          obtain ⟨pa, px, rfl, hpT, dpx⟩ := pairP_of dpr
          obtain ⟨w4, pN⟩ := o.pair room mroom a ma pr (List.mem_of_getElem? hpr)
          have s24 := s23.trans s4
          have lp4 := mapD_len dps4
          unfold ask4 at lp4
          simp only [List.length_map, List.length_take] at lp4
          refine ⟨pa, _, rfl, s24.seqT hpT, rfl, _, _, rfl, _, _, rfl, rfl, rfl, ?_⟩
          refine ⟨_, rfl, px, pr.1, rfl, dp_same s24 dpx, by omega, by omega, fun wv H5 s5 dw => ?_⟩
          refine ⟨_, rfl, by show 2 ≤ sizeLine; decide, fun U nU => ?_⟩
          have sU := same_upd (o := .tup [wv, V.int (pr.2 : Int)]) nU
          have hJ5 := sU _ _ (s5 _ _ hJ)
          have dU := dp_tup nU (.cons dw (.cons (.int (pr.2 : Int)) .nil))
          refine ⟨ps4, hJ5, small_line (by omega), fun b ob e => ?_, ps4 ++ [.ref U], upd_same, ?_⟩
          · rw [upd_ne (ne_of_none e nJ)]
            exact sU _ _ (s5 _ _ (s4 _ _ e))
          · have e1 : ask4 (a.take (i + 1)) = ask4 (a.take i) ++ [(four pr.1, pr.2)] := by
              unfold ask4
              rw [take_snoc hpr, List.map_append]
              rfl
            rw [e1]
            exact dpAll_put hJ5 (dpAll_app1 (dpAll_same (s5.trans sU) dps4) (show Dp K _ _ (pairP (four pr.1, pr.2)) from dU)) (noLAll_map noL_pairP _)
        · rintro H4 ⟨s4, ps4, hJ, dps4⟩
          rw [lav, List.take_length] at dps4
          have hG4 := s4 _ _ hG
          have hD4 := s4 _ _ hD3
          refine ⟨ps3, hG4, small_line (by omega), fun b ob e => ?_, ps3 ++ [.ref J], upd_same, ?_⟩
          · rw [upd_ne (ne_of_none e nG)]
            exact s4 _ _ (s3 _ _ e)
          · have e1 : (room.take (t + 1)).map ask4 = (room.take t).map ask4 ++ [ask4 a] := by
              rw [take_snoc ha, List.map_append]
              rfl
            rw [e1]
            have rr : Same (rmv (rmv H3 D) G) (rmv (rmv (upd H4 G (.lst (ps3 ++ [.ref J]))) D) G) := rmv_rmv fun b ob n e => by
              obtain ⟨n2, e⟩ := rmv_some e
              rw [rmv_ne n2, upd_ne n]
              exact s4 _ _ e
            refine dpAll_app1 (dpAll_same rr dps3) ?_
            have kG : Kp G H4 (upd H4 G (.lst (ps3 ++ [.ref J]))) := kp_upd G H4 _
            have d1 : DpAll K (upd H4 G (.lst (ps3 ++ [.ref J]))) ps4 ((ask4 a).map pairP) := dpAll_put hG4 dps4 (noLAll_map noL_pairP _)
            have hD5 : (upd H4 G (.lst (ps3 ++ [.ref J]))) D = some (.lst ps) := by rw [upd_ne nDG]; exact hD4
            have d2 := dpAll_kp (rmv_kp _ D) hD5 d1 (noLAll_map noL_pairP _)
            have hG5 : (rmv (upd H4 G (.lst (ps3 ++ [.ref J]))) D) G = some (.lst (ps3 ++ [.ref J])) := by rw [rmv_ne nDG.symm]; exact upd_same
            have d3 := dpAll_kp (rmv_kp _ G) hG5 d2 (noLAll_map noL_pairP _)
            exact .lst (SqL.of (by rw [rmv_ne nGJ.symm, rmv_ne nDJ.symm, upd_ne nGJ.symm]; exact hJ)) d3
      · rintro H3 ⟨s3, ps3, hG, dps3⟩
        rw [lq, List.take_length] at dps3
        have hD3 := s3 _ _ hD
        refine ⟨ps, hD3, small_line (by omega), fun b ob e => ?_, ps ++ [.ref G], upd_same, ?_⟩
        · rw [upd_ne (ne_of_none e nD)]
          exact s3 _ _ (s2 _ _ e)
        · have e1 : R4 (P.take (j + 1)) = R4 (P.take j) ++ [room.map ask4] := by
            unfold R4
            rw [take_snoc hroom, List.map_append]
            rfl
          rw [e1]
          have rr : Same (rmv H2 D) (rmv (upd H3 D (.lst (ps ++ [.ref G]))) D) := rmv_rmv fun b ob n e => by rw [upd_ne n]; exact s3 _ _ e
          refine dpAll_app1 (dpAll_same rr dps) ?_
          have rr2 : Same (rmv (rmv H3 D) G) (rmv (upd H3 D (.lst (ps ++ [.ref G]))) D) := fun b ob e => by
            obtain ⟨n1, e⟩ := rmv_some e
            obtain ⟨n2, e⟩ := rmv_some e
            rw [rmv_ne n2, upd_ne n2]
            exact e
          exact .lst (SqL.of (by rw [rmv_ne nDG.symm, upd_ne nDG.symm]; exact hG)) (dpAll_same rr2 dps3)
    · rintro H2 ⟨s2, ps, hD, dps⟩
      rw [lr, List.take_length] at dps
      have dD : Dp K H2 (.ref D) (roomsD (R4 P)) := .lst (SqL.of hD) (dpAll_same (rmv_same fun b ob _ e => e) dps)
      have hp2 := s2 _ _ hp1
      refine ⟨_, rfl, p, C, dx, _, rfl, hp2, T.cl, T.nR, by show 1 < 1000; decide, ?_⟩
      have kR := kp_upd p H2 (.ins C dx (putF "_rooms" (.ref D) (putF "_kinds" (.int (kd : Int)) [])))
      have dD3 := dp_ki kR hp2 dD
      have hR3 := kR.seqTI hp2 (s2.seqT hR)
      have hp3 : (upd H2 p (.ins C dx (putF "_rooms" (.ref D) (putF "_kinds" (.int (kd : Int)) [])))) p = some (.ins C dx (putF "_rooms" (.ref D) (putF "_kinds" (.int (kd : Int)) []))) := upd_same
      have kk3 : Kp p H (upd H2 p (.ins C dx (putF "_rooms" (.ref D) (putF "_kinds" (.int (kd : Int)) [])))) := (kK.same s2).trans kR
      generalize (upd H2 p (.ins C dx (putF "_rooms" (.ref D) (putF "_kinds" (.int (kd : Int)) [])))) = H3 at dD3 hR3 hp3 kk3 ⊢
      -- self._lists
      refine ⟨_, rfl, ra, rfl, ⟨_, hR3⟩, fun G nG => ?_⟩
      have sG := same_upd (o := .lst []) nG
      refine lc_tup (K := K) (a := ra) (xs := rvs) (fun j H4 => Same H3 H4 ∧ ∃ ps, H4 G = some (.lst ps) ∧ DpAll K (rmv H4 G) ps ((zeroL j).map stsD)) ⟨sG, [], upd_same, .nil⟩ (fun j H4 _ ⟨s4, _⟩ => s4.seqT hR3) ?_ ?_
      · rintro j v H4 hj ⟨s4, ps4, hG, dps4⟩
        have lp4 := mapD_len dps4
        unfold zeroL at lp4
        rw [List.length_replicate] at lp4
        have jl := (List.getElem?_eq_some_iff.mp hj).1
        refine ⟨rfl, ?_⟩
        refine ⟨by show 1 ≤ sizeLine; decide, fun J nJ => ?_⟩
        have sJ := same_upd (o := .lst [V.ref an]) nJ
        have nGJ : G ≠ J := ne_of_none hG nJ
        refine ⟨ps4, sJ _ _ hG, small_line (by omega), fun b ob e => ?_, ps4 ++ [.ref J], upd_same, ?_⟩
        · rw [upd_ne (ne_of_none e nG)]
          exact sJ _ _ (s4 _ _ e)
        · have e1 : zeroL (j + 1) = zeroL j ++ [[[0, 0, 0, 0]]] := by
            unfold zeroL
            rw [List.replicate_succ']
          rw [e1]
          have rr : Same (rmv H4 G) (rmv (upd (upd H4 J (.lst [V.ref an])) G (.lst (ps4 ++ [.ref J]))) G) := rmv_rmv fun b ob n e => by rw [upd_ne n]; exact sJ _ _ e
          refine dpAll_app1 (dpAll_same rr dps4) ?_
          exact .lst (SqL.of (by rw [rmv_ne nGJ.symm, upd_ne nGJ.symm]; exact upd_same)) (.cons (hN _) .nil)
      · rintro H4 ⟨s4, ps4, hG, dps4⟩
        rw [lr] at dps4
        refine ⟨by show 1 ≤ sizeLine; decide, fun LL nLL => ?_⟩
        have sL := same_upd (o := .lst [V.ref G]) nLL
        have nGL : G ≠ LL := ne_of_none hG nLL
        have hp4 := s4 _ _ hp3
        have npL : p ≠ LL := ne_of_none hp4 nLL
        have hp5 : (upd H4 LL (.lst [V.ref G])) p = some (.ins C dx (putF "_rooms" (.ref D) (putF "_kinds" (.int (kd : Int)) []))) := by rw [upd_ne npL]; exact hp4
        refine ⟨_, rfl, p, C, dx, _, rfl, hp5, T.cl, T.nL, by show 2 < 1000; decide, ?_⟩
        intro bb nbb
        have npb : p ≠ bb := ne_of_none upd_same nbb
        have hLb : (upd (upd H4 LL (.lst [V.ref G])) p (.ins C dx (putF "_lists" (.ref LL) (putF "_rooms" (.ref D) (putF "_kinds" (.int (kd : Int)) []))))) LL = some (.lst [V.ref G]) := by rw [upd_ne npL.symm]; exact upd_same
        have nLb : LL ≠ bb := ne_of_none hLb nbb
        refine ⟨_, rfl, p, C, dx, _, rfl, by rw [upd_ne npb]; exact upd_same, T.cl, T.nB, by show 3 < 1000; decide, ?_⟩
        have nHL : H LL = none := (kk3.same s4).free nLL npL.symm
        have nb4 : H4 bb = none := by
          rw [upd_ne npb.symm, upd_ne nLb.symm] at nbb
          exact nbb
        have nHb : H bb = none := (kk3.same s4).free nb4 npb.symm
        -- all but p is as it was
        have kf : ∀ b ob, H4 b = some ob → b ≠ p → (upd (upd (upd (upd H4 LL (.lst [V.ref G])) p (.ins C dx (putF "_lists" (.ref LL) (putF "_rooms" (.ref D) (putF "_kinds" (.int (kd : Int)) []))))) bb (.dK [])) p (.ins C dx (putF "_boxes" (.ref bb) (putF "_lists" (.ref LL) (putF "_rooms" (.ref D) (putF "_kinds" (.int (kd : Int)) [])))))) b = some ob := fun b ob e n => by
          rw [upd_ne n, upd_ne (ne_of_none e nb4), upd_ne n, upd_ne (ne_of_none e nLL)]
          exact e
        have kf' : Kp p H4 (rmv (upd (upd (upd (upd H4 LL (.lst [V.ref G])) p (.ins C dx (putF "_lists" (.ref LL) (putF "_rooms" (.ref D) (putF "_kinds" (.int (kd : Int)) []))))) bb (.dK [])) p (.ins C dx (putF "_boxes" (.ref bb) (putF "_lists" (.ref LL) (putF "_rooms" (.ref D) (putF "_kinds" (.int (kd : Int)) [])))))) LL) := fun b ob e n => by
          rw [rmv_ne (ne_of_none e nLL)]
          exact kf b ob e n
        refine q _ (.ref D) LL bb [V.ref G] (fun b ob e n => kf b ob (s4 _ _ (kk3 _ _ e n)) n) nHL nHb ?_ ⟨upd_same, ?_, ?_, ?_, Nat.le_refl _, fun j L hj => ?_⟩
        · rw [upd_ne npb.symm]
          exact upd_same
        · rw [upd_ne npL.symm, upd_ne nLb]
          exact hLb
        · refine .cons ?_ .nil
          have dG : Dp K H4 (.ref G) (lvD (zeroL P.length)) := .lst (SqL.of hG) (dpAll_same (rmv_same fun b ob _ e => e) dps4)
          exact dp_ki kf' hp4 dG
        · exact dp_ki kf' hp4 (dp_same s4 dD3)
        · have e : (R4 P).length = P.length := List.length_map ..
          match j, hj with
          | 0, hj =>
            cases hj
            have := zeroL_ok (R4 P)
            rw [e] at this
            rw [e]
            exact this
end
/-! ### least, lasts -/
def sKindsOf : Stmt := topS 32
def spKindsOf (K : PySem.W.Frag) : Sp := fun vs H Q _ => ∃ (x : V) (h : Asks) (kd : Nat), vs = [x] ∧ Dp K H x (houseD h) ∧ HsOk h kd ∧ Q (.int kd) H
section
variable {P : Program} {w : World} {K : PySem.W.Frag} {mg : Str → Option Value} {base : Heap}
theorem scKindsOf : FnScope ["house"] ["house"] (defScope sKindsOf) := ⟨rfl, rfl, rfl, by decide +kernel, rfl, by decide +kernel, by decide +kernel⟩
theorem ok_kindsOf {f : Addr} {fd : FuncData} {k : Nat} (F : Fun K "kinds_of" "kinds_of" sKindsOf f fd) (ml : mg "len" = none) : FnOk P w K mg base CX0 (k + 1) f fd ["house"] (spKindsOf K) := by
  refine F.ok scKindsOf (fun vs H Q E h => ?_) (fun cdv A outer s H vs Q E hr h => ?_)
  · obtain ⟨x, h, kd, rfl, _⟩ := h
    rfl
  · obtain ⟨x, h, kd, rfl, hx, o, q⟩ := h
    refine ⟨_, pss_one (ps_ret (pe_callB call_len_seq (by rfl) ml PySem.boot_len (pa_cons (pe_ix ix_tup (pe_ix ix_tup (pv 0) pe_int (fun _ _ => rfl)) pe_int (fun _ _ => rfl)) pa_nil))), ?_⟩
    obtain ⟨a0, w0, h0, hw0⟩ := o.ne
    cases hx with
    | @tup ha asv _ hT hall =>
    obtain ⟨v, hv, dv⟩ := dpAll_getD (i := 0) (d := askD a0) hall (by rw [List.getElem?_map, h0]; rfl)
    cases dv with
    | @tup aa ws _ aT wall =>
    obtain ⟨u, hu, du⟩ := dpAll_getD (i := 0) (d := wayD w0) wall (by rw [List.getElem?_map, hw0]; rfl)
    obtain ⟨wa, rfl, wT⟩ := way_of du
    have e := o.len a0 (List.mem_of_getElem? h0) w0 (List.mem_of_getElem? hw0)
    refine ⟨_, rfl, ha, asv, 0, .ref aa, rfl, rfl, hT, atI_nat (j := 0) hv, aa, ws, 0, .ref wa, rfl, rfl, aT, atI_nat (j := 0) hu, wa, _, rfl, .inr wT, ?_⟩
    rw [List.length_map, e]
    exact q
end
/-! ### a house as the plan of one room -/
def sPlanOf : Stmt := topS 35
def planOf (h : Asks) : Rooms := [h.map fun a => a.map fun w => (w, 0)]
def oneR (A : Asks) : Rooms := [A.map fun a => a.map fun w => (w, 0)]
theorem r4_one (h : Asks) : R4 (planOf h) = oneR (asks4 h) := by
  unfold R4 planOf oneR asks4 ask4
  simp only [List.map_cons, List.map_nil, List.map_map]
  congr 1
  refine List.map_congr_left fun a _ => ?_
  show (a.map fun w => ((w, 0) : List Int × Nat)).map (fun q => (four q.1, q.2)) = (a.map four).map fun w => (w, 0)
  rw [List.map_map, List.map_map]
  rfl
theorem HsOk.plan {h : Asks} {kd : Nat} (o : HsOk h kd) : PlOk (planOf h) kd := by
  refine ⟨o.k1, o.k4, Nat.le_refl _, by show 1 ≤ 100; decide, fun l hl => ?_, fun l hl a ha => ?_, fun l hl a ha p hp => ?_⟩
  · rw [List.mem_singleton.mp hl, List.length_map]
    have := o.few
    omega
  · rw [List.mem_singleton.mp hl] at ha
    obtain ⟨a0, h0, rfl⟩ := List.mem_map.mp ha
    rw [List.length_map]
    exact o.five a0 h0
  · rw [List.mem_singleton.mp hl] at ha
    obtain ⟨a0, h0, rfl⟩ := List.mem_map.mp ha
    obtain ⟨w0, h1, rfl⟩ := List.mem_map.mp hp
    exact ⟨o.len a0 h0 w0 h1, by show 0 < 1; decide⟩
theorem ndb_one {B : Nat → List Int → Prop} {a : List (List Int)} {x : List Int} (hx : Ok4 x) (mono : ∀ y z, Ok4 y → B 0 y → le4 y z = true → B 0 z) : NdB none B (a.map fun w => (w, 0)) x ↔ ∃ w ∈ a, Ok4 (add4 x w) ∧ B 0 (add4 x w) := by
  constructor
  · rintro ⟨z, oz, lz, _, p, mp, o1, q⟩
    obtain ⟨w, mw, rfl⟩ := List.mem_map.mp mp
    obtain ⟨o2, l2⟩ := add4_le lz o1
    exact ⟨w, mw, o2, mono _ _ o1 q l2⟩
  · rintro ⟨w, mw, o1, q⟩
    exact ⟨x, hx, le4_refl hx, fun r e => (nomatch e), (w, 0), List.mem_map.mpr ⟨w, mw, rfl⟩, o1, q⟩
theorem roomAt_one (A : Asks) : roomAt (oneR A) 0 = A.map fun a => a.map fun w => (w, 0) := rfl
theorem pb_one {A : Asks} : ∀ {n : Nat} {x : List Int}, Ok4 x → (PB none (oneR A) n 0 x ↔ LN A n x)
  | 0, _, _ => Iff.rfl
  | n + 1, x, hx => by
    have mono : ∀ y z, Ok4 y → PB none (oneR A) n 0 y → le4 y z = true → PB none (oneR A) n 0 z := fun y z _ h l => PB.mono h l
    constructor
    · rintro ⟨_, h⟩ a ha
      obtain ⟨w, mw, o1, q⟩ := (ndb_one hx mono).mp (h (a.map fun w => (w, 0)) (by rw [roomAt_one]; exact List.mem_map.mpr ⟨a, ha, rfl⟩))
      exact ⟨w, mw, o1, (pb_one o1).mp q⟩
    · intro h
      refine ⟨(pb_one hx).mpr h.down, fun a ha => ?_⟩
      rw [roomAt_one] at ha
      obtain ⟨a0, h0, rfl⟩ := List.mem_map.mp ha
      obtain ⟨w, mw, o1, q⟩ := h a0 h0
      exact (ndb_one hx mono).mpr ⟨w, mw, o1, (pb_one o1).mpr q⟩
theorem nd_ln {A : Asks} {j : Nat} {a : List (List Int)} {x : List Int} (hx : Ok4 x) : NdB none (PB none (oneR A) j) (a.map fun w => (w, 0)) x ↔ Nd A j a x := by
  rw [ndb_one hx fun y z _ h l => PB.mono h l]
  exact ⟨fun ⟨w, mw, o1, q⟩ => ⟨w, mw, o1, (pb_one o1).mp q⟩, fun ⟨w, mw, o1, q⟩ => ⟨w, mw, o1, (pb_one o1).mpr q⟩⟩
theorem sub_map {α β : Type} {f : α → β} {l : List α} : ∀ {as : List β}, (∀ a ∈ as, a ∈ l.map f) → ∃ bs : List α, (∀ b ∈ bs, b ∈ l) ∧ as = bs.map f
  | [], _ => ⟨[], fun _ h => (nomatch h), rfl⟩
  | a :: as, h => by
    obtain ⟨b, hb, rfl⟩ := List.mem_map.mp (h a List.mem_cons_self)
    obtain ⟨bs, hbs, rfl⟩ := sub_map (f := f) (l := l) (as := as) fun a ha => h a (List.mem_cons_of_mem _ ha)
    refine ⟨b :: bs, fun c hc => ?_, rfl⟩
    rcases List.mem_cons.mp hc with rfl | hc
    · exact hb
    · exact hbs c hc
theorem Few.plan {A : Asks} {n m : Nat} (f : Few A n m) : FewP none (oneR A) n := fun j hj => ⟨m, by
  refine fewB_of f.fv (fun r hr as sub M c => ?_) f.sq (by have := f.fv; omega) (fun r hr a ha M c => ?_)
  · obtain rfl : r = 0 := by have : r < 1 := hr; omega
    rw [roomAt_one] at sub
    obtain ⟨bs, hbs, rfl⟩ := sub_map sub
    refine f.all j hj bs hbs M (c.congr fun x hx => ?_)
    rw [pb_one hx]
    refine and_congr Iff.rfl ⟨fun h b hb => (nd_ln hx).mp (h _ (List.mem_map.mpr ⟨b, hb, rfl⟩)), fun h a ha => ?_⟩
    obtain ⟨b, hb, rfl⟩ := List.mem_map.mp ha
    exact (nd_ln hx).mpr (h b hb)
  · obtain rfl : r = 0 := by have : r < 1 := hr; omega
    rw [roomAt_one] at ha
    obtain ⟨b, hb, rfl⟩ := List.mem_map.mp ha
    exact f.one j hj b hb M (c.congr fun x hx => nd_ln hx)⟩
/-- how long the lists are -/
theorem FewP.len {b : Option Int} {R : Rooms} {n : Nat} (f : FewP b R n) {L : List (List (List Int))} (o : RowOk R.length (PB b R n) L) : ∀ l ∈ L, l.length ≤ 4096 ∧ ∀ t ∈ l, t.length = 4 := fun l hl => by
  obtain ⟨r, hr⟩ := List.mem_iff_getElem?.mp hl
  have c := o.can r l hr
  have rR : r < R.length := by rw [← o.len]; exact (List.getElem?_eq_some_iff.mp hr).1
  refine ⟨?_, fun t ht => ok4_len (c.ok t ht)⟩
  match n, f, o, c with
  | 0, f, o, c =>
    rw [c.uniq ((canon_zero []).congr fun x hx => ⟨fun _ => True.intro, fun _ => True.intro⟩)]
    decide
  | n + 1, f, o, c =>
    obtain ⟨m, fm⟩ := f n (Nat.lt_succ_self n)
    have := fm.all r rR (roomAt R r) (fun a h => h) l c
    have := fm.fv
    omega
def spPlanOf (K : PySem.W.Frag) : Sp := fun vs H Q _ => ∃ (x : V) (h : Asks) (kd : Nat), vs = [x] ∧ Dp K H x (houseD h) ∧ HsOk h kd ∧ ∀ v H', Same H H' → Dp K H' v (planD kd (planOf h)) → Q v H'
section
variable {P : Program} {w : World} {K : PySem.W.Frag} {mg : Str → Option Value} {base : Heap}
theorem scPlanOf : FnScope ["house", "room", "ask", "way"] ["house"] (defScope sPlanOf) := ⟨rfl, rfl, rfl, by decide +kernel, rfl, by decide +kernel, by decide +kernel⟩
theorem ok_planOf {f fK : Addr} {fd fdK : FuncData} {k : Nat} (F : Fun K "plan_of" "plan_of" sPlanOf f fd)
    (GK : FnOk P w K mg base CX0 (k + 1) fK fdK ["house"] (spKindsOf K)) (kK : PySem.W.keepIn K (.ref fK) = true) (bK : Binds K fdK ["house"] []) (gK : mg "kinds_of" = some (.ref fK))
    (mt : mg "tuple" = none) : FnOk P w K mg base CX0 (k + 2) f fd ["house"] (spPlanOf K) := by
  refine F.ok scPlanOf (fun vs H Q E h => ?_) (fun cdv A outer s0 H vs Q E hr h => ?_)
  · obtain ⟨x, h, kd, rfl, _⟩ := h
    rfl
  · obtain ⟨x, h, kd, rfl, hx, o, q⟩ := h
    refine ⟨_, pss_cons (ps_set (i := 1) scPlanOf.nd rfl (.inl rfl) (pe_callTy call_tuple_of (by rfl) mt (by decide +kernel) (pa_cons
        (pe_lc (own := [("ask", 2)]) (g := gName 2) (tt := tYes) (te := tCB (rTupOf K) (tCons (tLc (iTup K (tVar 2)) (gName 3) tYes (tTup (tCons (tVar 3) (tCons (tC (.int 0)) tNil))) [3]) tNil)) rfl scPlanOf.nd (pi_tup (pv 0))
          (blkOk_by (N := ["house", "room", "ask", "way"]) (sc := defScope sPlanOf) (by decide +kernel))
          (fun _ _ _ _ _ => by exact pg_name (i := 2) scPlanOf.nd rfl (.inl rfl)) (fun _ _ _ _ _ => pts_nil)
          (fun _ _ _ _ _ => by exact (by
            refine pe_callTy call_tuple_of (by rfl) mt (by decide +kernel) (pa_cons ?_ pa_nil)
            refine pe_lc (wi := iTup K (tVar 2)) (own := [("way", 3)]) (g := gName 3) (tt := tYes) (te := tTup (tCons (tVar 3) (tCons (tC (.int 0)) tNil))) ?_ ?_ ?_ ?_ ?_ ?_ ?_
            · rfl
            · exact scPlanOf.nd
            · exact pi_tup (pv 2)
            · exact blkOk_by (N := ["house", "room", "ask", "way"]) (sc := lcSc [(".0", .local), ("ask", .local), ("tuple", .globalImplicit)]) (by decide +kernel)
            · exact fun _ _ _ _ _ => by exact pg_name (i := 3) scPlanOf.nd rfl (.inl rfl)
            · exact fun _ _ _ _ _ => pts_nil
            · exact fun _ _ _ _ _ => by exact pe_tup (pa_cons (pv 3) (pa_cons pe_int pa_nil))))) pa_nil)))
      (pss_one (ps_ret (pe_tup (pa_cons (pe_call GK hr (by rfl) gK kK bK .nil pass0 (pa_cons (pv 0) pa_nil)) (pa_cons (pe_tup (pa_cons (pv 1) pa_nil)) pa_nil))))), ?_⟩
    obtain ⟨ha, hvs, rfl, hH, hall⟩ := tup_of hx
    have lh := mapD_len hall
    have few := o.few
    refine ⟨_, rfl, ha, rfl, ⟨_, hH⟩, fun D nD => ?_⟩
    have sD := same_upd (o := .lst []) nD
    have noA : ∀ l : List PAsk, noLAll (l.map askT) = true := fun l => noLAll_map (fun a => by
      unfold askT
      simp only [noL]
      exact noLAll_map noL_pairP a) l
    refine lc_tup (K := K) (a := ha) (xs := hvs) (fun j H1 => Same H H1 ∧ ∃ ps, H1 D = some (.lst ps) ∧ DpAll K H1 ps (((h.take j).map fun a => a.map fun w => ((w, 0) : List Int × Nat)).map askT)) ⟨sD, [], upd_same, .nil⟩ (fun j H1 _ ⟨s1, _⟩ => s1.seqT hH) ?_ ?_
    · rintro j v H1 hj ⟨s1, ps, hD, dps⟩
      obtain ⟨a, ha0, da⟩ := mapD_get hall hj
      have ma := List.mem_of_getElem? ha0
      have jl := (List.getElem?_eq_some_iff.mp ha0).1
      have l5 := o.five a ma
      obtain ⟨aa, avs, rfl, hA, aall⟩ := tup_of da
      have la := mapD_len aall
      have lp := mapD_len dps
      simp only [List.length_map, List.length_take] at lp
      refine ⟨rfl, ?_⟩
      refine ⟨_, rfl, aa, rfl, ⟨_, s1.seqT hA⟩, fun G nG => ?_⟩
      have sG := same_upd (o := .lst []) nG
      refine lc_tup (K := K) (a := aa) (xs := avs) (fun i H2 => Same H1 H2 ∧ ∃ ps, H2 G = some (.lst ps) ∧ DpAll K H2 ps (((a.take i).map fun w => ((w, 0) : List Int × Nat)).map pairP)) ⟨sG, [], upd_same, .nil⟩ (fun i H2 _ ⟨s2, _⟩ => s2.seqT (s1.seqT hA)) ?_ ?_
      · rintro i v H2 hi ⟨s2, ps2, hG, dps2⟩
        obtain ⟨w0, hw0, dw⟩ := mapD_get aall hi
        have lp2 := mapD_len dps2
        simp only [List.length_map, List.length_take] at lp2
        refine ⟨rfl, ?_⟩
        refine ⟨_, rfl, by show 2 ≤ sizeLine; decide, fun U nU => ?_⟩
        have sU := same_upd (o := .tup [v, V.int 0]) nU
        have dU := dp_tup nU (.cons (dp_same (s1.trans s2) dw) (.cons (.int (((0 : Nat) : Int))) .nil))
        refine ⟨ps2, sU _ _ hG, small_line (by omega), fun b ob e => ?_, ps2 ++ [.ref U], upd_same, ?_⟩
        · rw [upd_ne (ne_of_none e nG)]
          exact sU _ _ (s2 _ _ e)
        · rw [take_snoc hw0, List.map_append]
          exact dpAll_put (sU _ _ hG) (dpAll_app1 (dpAll_same sU dps2) (show Dp K _ _ (pairP (w0, 0)) from dU)) (noLAll_map noL_pairP _)
      · rintro H2 ⟨s2, ps2, hG, dps2⟩
        rw [la, List.take_length] at dps2
        refine ⟨G, _, rfl, .inl ⟨SqL.of hG, fun R nR => ?_⟩⟩
        have sR := same_upd (o := .tup ps2) nR
        have dR := dp_tup nR dps2
        have hD2 := sR _ _ (s2 _ _ hD)
        refine ⟨ps, hD2, small_line (by omega), fun b ob e => ?_, ps ++ [.ref R], upd_same, ?_⟩
        · rw [upd_ne (ne_of_none e nD)]
          exact sR _ _ (s2 _ _ (s1 _ _ e))
        · rw [take_snoc ha0, List.map_append]
          exact dpAll_put hD2 (dpAll_app1 (dpAll_same (s2.trans sR) dps) (show Dp K _ _ (askT (a.map fun w => (w, 0))) from dR)) (noA _)
    · rintro H1 ⟨s1, ps, hD, dps⟩
      rw [lh, List.take_length] at dps
      refine ⟨D, _, rfl, .inl ⟨SqL.of hD, fun R nR => ?_⟩⟩
      have sR := same_upd (o := .tup ps) nR
      have dR := dp_tup nR dps
      refine ⟨_, rfl, _, h, kd, rfl, dp_same (s1.trans sR) (.tup hH hall), o, ?_⟩
      refine ⟨_, rfl, by show 1 ≤ sizeLine; decide, fun U nU => ?_⟩
      have sU := same_upd (o := .tup [V.ref R]) nU
      have dU := dp_tup nU (.cons dR .nil)
      refine ⟨by show 2 ≤ sizeLine; decide, fun W nW => ?_⟩
      have sW := same_upd (o := .tup [V.int (kd : Int), V.ref U]) nW
      have dW := dp_tup nW (.cons (.int (kd : Int)) (.cons dU .nil))
      exact q (.ref W) _ (((s1.trans sR).trans sU).trans sW) dW
end
def sLeast : Stmt := topS 42
def sLasts : Stmt := topS 41
def spLeast (K : PySem.W.Frag) : Sp := fun vs H Q _ => ∃ (x : V) (h : Asks) (kd n m : Nat), vs = [x, .int n] ∧ Dp K H x (houseD h) ∧ HsOk h kd ∧ n ≤ 1000 ∧ Few (asks4 h) n m ∧
  ∀ q H' ps M, Same H H' → H q = none → H' q = some (.lst ps) → DpAll K H' ps ((M.map fun x => x.take kd).map wayD) → Canon M (LN (asks4 h) n) → Q (.ref q) H'
def spLasts (K : PySem.W.Frag) : Sp := fun vs H Q _ => ∃ (x y : V) (h : Asks) (s : List Int) (kd n m : Nat), vs = [x, y, .int n] ∧ Dp K H x (houseD h) ∧ Dp K H y (wayD s) ∧ HsOk h kd ∧ 1 ≤ s.length ∧ s.length ≤ 4 ∧ (∀ z ∈ s, 0 ≤ z) ∧ n ≤ 1000 ∧ Few (asks4 h) n m ∧
  ∀ b H', Same H H' → (b = true ↔ LN (asks4 h) n (four s)) → Q (.bl b) H'
def spLeastP (K : PySem.W.Frag) : Sp := fun vs H Q _ => ∃ (x : V) (h : Asks) (kd n : Nat), vs = [x, .int n] ∧ Dp K H x (houseD h) ∧ HsOk h kd ∧ n ≤ 1000 ∧ FewP none (oneR (asks4 h)) n ∧
  ∀ q H' ps M, Same H H' → H q = none → H' q = some (.lst ps) → DpAll K H' ps ((M.map fun x => x.take kd).map wayD) → Canon M (LN (asks4 h) n) → Q (.ref q) H'
def spLastsP (K : PySem.W.Frag) : Sp := fun vs H Q _ => ∃ (x y : V) (h : Asks) (s : List Int) (kd n : Nat), vs = [x, y, .int n] ∧ Dp K H x (houseD h) ∧ Dp K H y (wayD s) ∧ HsOk h kd ∧ 1 ≤ s.length ∧ s.length ≤ 4 ∧ (∀ z ∈ s, 0 ≤ z) ∧ n ≤ 1000 ∧ FewP none (oneR (asks4 h)) n ∧
  ∀ b H', Same H H' → (b = true ↔ LN (asks4 h) n (four s)) → Q (.bl b) H'
/-! ### least, lasts by way of the chart -/
def sLeastThere : Stmt := topS 36
def sLastsThere : Stmt := topS 38
def spLeastThere (K : PySem.W.Frag) : Sp := fun vs H Q _ => ∃ (y : V) (P : Rooms) (kd n : Nat), vs = [y, .int (n : Int)] ∧ Dp K H y (planD kd P) ∧ PlOk P kd ∧ FewP none (R4 P) n ∧ n ≤ 1000 ∧
  ∀ (q : Addr) (H' : Hp) (as : List Addr) (L : List (List (List Int))), Same H H' → H q = none → H' q = some (.lst (as.map V.ref)) → as.length = L.length → as.Nodup → q ∉ as → RowOk P.length (PB none (R4 P) n) L →
    (∀ (i : Nat) (a : Addr) (l : List (List Int)), as[i]? = some a → L[i]? = some l → H a = none ∧ ∃ ps, H' a = some (.lst ps) ∧ DpAll K H' ps ((l.map fun x => x.take kd).map wayD)) → Q (.ref q) H'
def spLastsThere (K : PySem.W.Frag) : Sp := fun vs H Q _ => ∃ (y z : V) (P : Rooms) (s : List Int) (kd n r : Nat), vs = [y, z, .int (n : Int)] ∧ Dp K H y (planD kd P) ∧ PlOk P kd ∧ FewP none (R4 P) n ∧ n ≤ 1000 ∧ Dp K H z (standD r s) ∧ r < P.length ∧ 1 ≤ s.length ∧ s.length ≤ 4 ∧ (∀ z ∈ s, 0 ≤ z) ∧
  ∀ b H', Same H H' → (b = true ↔ PB none (R4 P) n r (four s)) → Q (.bl b) H'
/-- where the class and its methods stand -/
structure ChFns (P : Program) (w : World) (K : PySem.W.Frag) (mg : Str → Option Value) (base : Heap) (k : Nat) (C fi fl fs ft : Addr) (di dl ds dt : FuncData) : Prop where
  T : ChTxt K C
  M : Mk K C fi
  gC : mg "Chart" = some (.ref C)
  GI : FnOk P w K mg base CX0 (k + 2) fi di ["self", "plan"] (spChInit K C)
  bI : Binds K di ["self", "plan"] []
  GL : FnOk P w K mg base CX0 (k + 6) fl dl ["self", "n"] (spChLeast K C)
  mL : Meth K C "least" fl
  bL : Binds K dl ["self", "n"] []
  GS : FnOk P w K mg base CX0 (k + 7) fs ds ["self", "stand", "n"] (spChLasts K C)
  mS : Meth K C "lasts" fs
  bS : Binds K ds ["self", "stand", "n"] []
  GT : FnOk P w K mg base CX0 (k + 1) ft dt ["self", "lists"] (spChTold K C)
  mT : Meth K C "told" ft
  bT : Binds K dt ["self", "lists"] []
theorem same_ins {H : Hp} {x dx C : Addr} (nx : H x = none) (ndx : H dx = none) : Same H (upd (upd H dx (.own x)) x (.ins C dx [])) := fun b o e => by
  rw [upd_ne (ne_of_none e nx), upd_ne (ne_of_none e ndx)]
  exact e
theorem Kp.toSame {H H1 H2 : Hp} {p : Addr} (s : Same H H1) (n : H p = none) (k : Kp p H1 H2) : Same H H2 := fun b o e => k b o (s b o e) (ne_of_none e n)
section
variable {P : Program} {w : World} {K : PySem.W.Frag} {mg : Str → Option Value} {base : Heap}
theorem scLeastThere : FnScope ["plan", "n", "chart"] ["plan", "n"] (defScope sLeastThere) := ⟨rfl, rfl, rfl, by decide +kernel, rfl, by decide +kernel, by decide +kernel⟩
theorem ok_leastThere {f C fi fl fs ft : Addr} {fd di dl ds dt : FuncData} {k : Nat} (F : Fun K "least_there" "least_there" sLeastThere f fd) (c : ChFns P w K mg base k C fi fl fs ft di dl ds dt) : FnOk P w K mg base CX0 (k + 7) f fd ["plan", "n"] (spLeastThere K) := by
  refine F.ok scLeastThere (fun vs H Q E h => ?_) (fun cdv A outer s0 H vs Q E hr h => ?_)
  · obtain ⟨y, P, kd, n, rfl, _⟩ := h
    rfl
  · obtain ⟨y, P, kd, n, rfl, dy, o, fw, n1, q⟩ := h
    have h1 : Room (k + 1) _ := hr.mono (by omega)
    have h3 : Room (k + 3) _ := hr.mono (by omega)
    refine ⟨_, pss_cons (ps_set (i := 2) scLeastThere.nd rfl (.inl rfl) (pe_make c.M c.GI h3 rfl c.gC c.bI .nil pass0 (pa_cons (pv 0) pa_nil)))
      (pss_one (ps_ret (pe_meth (pv 2) c.T.cl c.mT c.GT h1 c.bT .nil pass0 (pa_cons (pe_meth (pv 2) c.T.cl c.mL c.GL hr c.bL .nil pass0 (pa_cons (pv 1) pa_nil)) pa_nil)))), ?_⟩
    refine ⟨_, rfl, fun x dx nx ndx nex => ?_⟩
    have s0 := same_ins (C := C) nx ndx
    refine ⟨x, dx, y, P, kd, rfl, upd_same, dp_same s0 dy, o, fun H1 rv ll bb us k1 nll nbb hbb cc => ⟨rfl, ?_⟩⟩
    have nll0 : H ll = none := s0.free nll
    have s1 : Same H H1 := k1.toSame s0 nx
    refine ⟨_, rfl, x, dx, _, rfl, cc.hp, cf_no _ _ _ _ (by decide +kernel) (by decide +kernel) (by decide +kernel) (by decide +kernel), ?_⟩
    refine ⟨_, rfl, x, dx, _, rfl, cc.hp, cf_no _ _ _ _ (by decide +kernel) (by decide +kernel) (by decide +kernel) (by decide +kernel), _, rfl, ?_⟩
    refine ⟨x, dx, rv, ll, bb, kd, R4 P, us, _, n, rfl, cc, o.rooms, fw, n1, by show 1 ≤ 2000; decide, fun v H2 us' Ls' M k2 c2 _ _ dM rM => ?_⟩
    have s2 : Same H H2 := k2.toSame s1 nll0
    have toL : Same (rmv H2 ll) H2 := rmv_same fun b o _ e => e
    have ln := fw.len rM
    have e : (R4 P).length = P.length := List.length_map ..
    refine ⟨x, dx, rv, ll, bb, kd, v, M, rfl, c2.hp, dp_same toL dM, o.k4, o.k1, by have := rM.len; have := o.few; omega, fun l hl => ⟨by have := (ln l hl).1; omega, (ln l hl).2⟩, fun qn H3 as s3 nq hq las nd nqa all => ?_⟩
    exact q qn H3 as M (s2.trans s3) (s2.free nq) hq las nd nqa (by rw [e] at rM; exact rM) fun i a l hi hl => ⟨s2.free (all i a l hi hl).1, (all i a l hi hl).2⟩
theorem scLastsThere : FnScope ["plan", "stand", "n"] ["plan", "stand", "n"] (defScope sLastsThere) := ⟨rfl, rfl, rfl, by decide +kernel, rfl, by decide +kernel, by decide +kernel⟩
theorem ok_lastsThere {f C fi fl fs ft : Addr} {fd di dl ds dt : FuncData} {k : Nat} (F : Fun K "lasts_there" "lasts_there" sLastsThere f fd) (c : ChFns P w K mg base k C fi fl fs ft di dl ds dt) : FnOk P w K mg base CX0 (k + 8) f fd ["plan", "stand", "n"] (spLastsThere K) := by
  refine F.ok scLastsThere (fun vs H Q E h => ?_) (fun cdv A outer s0 H vs Q E hr h => ?_)
  · obtain ⟨y, z, P, s, kd, n, r, rfl, _⟩ := h
    rfl
  · obtain ⟨y, z, P, s, kd, n, r, rfl, dy, o, fw, n1, dz, rP, t1, t4, t0, q⟩ := h
    have h3 : Room (k + 3) _ := hr.mono (by omega)
    refine ⟨_, pss_one (ps_ret (pe_meth (pe_make c.M c.GI h3 rfl c.gC c.bI .nil pass0 (pa_cons (pv 0) pa_nil)) c.T.cl c.mS c.GS hr c.bS .nil pass0 (pa_cons (pv 1) (pa_cons (pv 2) pa_nil)))), ?_⟩
    refine ⟨_, rfl, fun x dx nx ndx nex => ?_⟩
    have s0 := same_ins (C := C) nx ndx
    refine ⟨x, dx, y, P, kd, rfl, upd_same, dp_same s0 dy, o, fun H1 rv ll bb us k1 nll nbb hbb cc => ⟨rfl, ?_⟩⟩
    have nll0 : H ll = none := s0.free nll
    have s1 : Same H H1 := k1.toSame s0 nx
    have e : (R4 P).length = P.length := List.length_map ..
    refine ⟨x, dx, _, rfl, cc.hp, cf_no _ _ _ _ (by decide +kernel) (by decide +kernel) (by decide +kernel) (by decide +kernel), _, rfl, _, rfl, ?_⟩
    exact ⟨x, dx, rv, ll, bb, kd, R4 P, us, _, n, r, z, s, rfl, cc, o.rooms, fw, n1, by show 1 ≤ 2000; decide, dp_same s1 dz, by omega, t1, t4, t0, fun b H2 us' Ls' k2 _ _ _ iff => q b H2 (k2.toSame s1 nll0) iff⟩
theorem scLeast : FnScope ["house", "n"] ["house", "n"] (defScope sLeast) := ⟨rfl, rfl, rfl, by decide +kernel, rfl, by decide +kernel, by decide +kernel⟩
theorem ok_leastP {f fP fT : Addr} {fd fdP fdT : FuncData} {k : Nat} (F : Fun K "least" "least" sLeast f fd)
    (GP : FnOk P w K mg base CX0 (k + 2) fP fdP ["house"] (spPlanOf K)) (kP : PySem.W.keepIn K (.ref fP) = true) (bP : Binds K fdP ["house"] []) (gP : mg "plan_of" = some (.ref fP))
    (GT : FnOk P w K mg base CX0 (k + 7) fT fdT ["plan", "n"] (spLeastThere K)) (kT : PySem.W.keepIn K (.ref fT) = true) (bT : Binds K fdT ["plan", "n"] []) (gT : mg "least_there" = some (.ref fT)) : FnOk P w K mg base CX0 (k + 8) f fd ["house", "n"] (spLeastP K) := by
  refine F.ok scLeast (fun vs H Q E h => ?_) (fun cdv A outer s0 H vs Q E hr h => ?_)
  · obtain ⟨x, h, kd, n, rfl, _⟩ := h
    rfl
  · obtain ⟨x, h, kd, n, rfl, hx, o, n1, fw, q⟩ := h
    have h2 : Room (k + 2) _ := hr.mono (by omega)
    refine ⟨_, pss_one (ps_ret (pe_ix ix_list (pe_call GT hr (by rfl) gT kT bT .nil pass0 (pa_cons (pe_call GP h2 (by rfl) gP kP bP .nil pass0 (pa_cons (pv 0) pa_nil)) (pa_cons (pv 1) pa_nil))) pe_int (fun _ _ => rfl))), ?_⟩
    refine ⟨_, rfl, x, h, kd, rfl, hx, o, fun pv H1 s1 dp => ?_⟩
    refine ⟨_, rfl, pv, planOf h, kd, n, rfl, dp, o.plan, by rw [r4_one]; exact fw, n1, fun qn H2 as L s2 nq hq las nd nqa rL all => ?_⟩
    obtain ⟨l, hl, can⟩ := rL.at (show 0 < 1 by decide)
    obtain ⟨a, ha⟩ : ∃ a, as[0]? = some a := ⟨_, List.getElem?_eq_getElem (by rw [las]; exact (List.getElem?_eq_some_iff.mp hl).1)⟩
    obtain ⟨na, ps, hps, dps⟩ := all 0 a l ha hl
    refine ⟨qn, _, 0, .ref a, rfl, rfl, SqL.of hq, atI_nat (j := 0) (by rw [List.getElem?_map, ha]; rfl), ?_⟩
    refine q a H2 ps l (s1.trans s2) (s1.free na) hps dps (can.congr fun x hx => ?_)
    rw [r4_one]
    exact pb_one hx
theorem scLasts : FnScope ["house", "store", "n"] ["house", "store", "n"] (defScope sLasts) := ⟨rfl, rfl, rfl, by decide +kernel, rfl, by decide +kernel, by decide +kernel⟩
theorem ok_lastsP {f fP fT : Addr} {fd fdP fdT : FuncData} {k : Nat} (F : Fun K "lasts" "lasts" sLasts f fd)
    (GP : FnOk P w K mg base CX0 (k + 2) fP fdP ["house"] (spPlanOf K)) (kP : PySem.W.keepIn K (.ref fP) = true) (bP : Binds K fdP ["house"] []) (gP : mg "plan_of" = some (.ref fP))
    (GT : FnOk P w K mg base CX0 (k + 8) fT fdT ["plan", "stand", "n"] (spLastsThere K)) (kT : PySem.W.keepIn K (.ref fT) = true) (bT : Binds K fdT ["plan", "stand", "n"] []) (gT : mg "lasts_there" = some (.ref fT)) : FnOk P w K mg base CX0 (k + 9) f fd ["house", "store", "n"] (spLastsP K) := by
  refine F.ok scLasts (fun vs H Q E h => ?_) (fun cdv A outer s0 H vs Q E hr h => ?_)
  · obtain ⟨x, y, h, s, kd, n, rfl, _⟩ := h
    rfl
  · obtain ⟨x, y, h, s, kd, n, rfl, hx, hy, o, t1, t4, t0, n1, fw, q⟩ := h
    have h2 : Room (k + 2) _ := hr.mono (by omega)
    refine ⟨_, pss_one (ps_ret (pe_call GT hr (by rfl) gT kT bT .nil pass0 (pa_cons (pe_call GP h2 (by rfl) gP kP bP .nil pass0 (pa_cons (pv 0) pa_nil)) (pa_cons (pe_tup (pa_cons pe_int (pa_cons (pv 1) pa_nil))) (pa_cons (pv 2) pa_nil))))), ?_⟩
    refine ⟨_, rfl, x, h, kd, rfl, hx, o, fun pv H1 s1 dp => ?_⟩
    refine ⟨_, rfl, by show 2 ≤ sizeLine; decide, fun U nU => ?_⟩
    have sU := same_upd (o := .tup [V.int 0, y]) nU
    have dU := dp_tup nU (.cons (.int (((0 : Nat) : Int))) (.cons (dp_same s1 hy) .nil))
    refine ⟨_, rfl, pv, .ref U, planOf h, s, kd, n, 0, rfl, dp_same sU dp, o.plan, by rw [r4_one]; exact fw, n1, dU, by show 0 < 1; decide, t1, t4, t0, fun b H2 s2 iff => ?_⟩
    refine q b H2 ((s1.trans sU).trans s2) (iff.trans ?_)
    rw [r4_one]
    exact pb_one (four_ok t1 t4 t0)
theorem ok_least {f fP fT : Addr} {fd fdP fdT : FuncData} {k : Nat} (F : Fun K "least" "least" sLeast f fd)
    (GP : FnOk P w K mg base CX0 (k + 2) fP fdP ["house"] (spPlanOf K)) (kP : PySem.W.keepIn K (.ref fP) = true) (bP : Binds K fdP ["house"] []) (gP : mg "plan_of" = some (.ref fP))
    (GT : FnOk P w K mg base CX0 (k + 7) fT fdT ["plan", "n"] (spLeastThere K)) (kT : PySem.W.keepIn K (.ref fT) = true) (bT : Binds K fdT ["plan", "n"] []) (gT : mg "least_there" = some (.ref fT)) : FnOk P w K mg base CX0 (k + 8) f fd ["house", "n"] (spLeast K) :=
  (ok_leastP F GP kP bP gP GT kT bT gT).imp fun _ _ _ _ ⟨x, h, kd, n, _, e, hx, o, n1, fw, q⟩ => ⟨x, h, kd, n, e, hx, o, n1, fw.plan, q⟩
theorem ok_lasts {f fP fT : Addr} {fd fdP fdT : FuncData} {k : Nat} (F : Fun K "lasts" "lasts" sLasts f fd)
    (GP : FnOk P w K mg base CX0 (k + 2) fP fdP ["house"] (spPlanOf K)) (kP : PySem.W.keepIn K (.ref fP) = true) (bP : Binds K fdP ["house"] []) (gP : mg "plan_of" = some (.ref fP))
    (GT : FnOk P w K mg base CX0 (k + 8) fT fdT ["plan", "stand", "n"] (spLastsThere K)) (kT : PySem.W.keepIn K (.ref fT) = true) (bT : Binds K fdT ["plan", "stand", "n"] []) (gT : mg "lasts_there" = some (.ref fT)) : FnOk P w K mg base CX0 (k + 9) f fd ["house", "store", "n"] (spLasts K) :=
  (ok_lastsP F GP kP bP gP GT kT bT gT).imp fun _ _ _ _ ⟨x, y, h, s, kd, n, _, e, hx, hy, o, t1, t4, t0, n1, fw, q⟩ => ⟨x, y, h, s, kd, n, e, hx, hy, o, t1, t4, t0, n1, fw.plan, q⟩
end
/-! ### few enough in a box of three kinds, by what is joined (plain Lean) -/
/-- a join of s, below which none lies, that differs from s in one number alone -/
def Pm (N : List (List Int)) (s m : List Int) (i : Nat) : Prop := m ∈ N.map (join4 s) ∧ (∀ y ∈ N.map (join4 s), le4 y m = true → y = m) ∧ ∃ v, m = s.set i v
open Classical in
noncomputable def pickM (N : List (List Int)) (s : List Int) (i : Nat) : List Int := if h : ∃ m, Pm N s m i then choose h else s
theorem pick_is {N : List (List Int)} {s m : List Int} {i : Nat} (hs : s.length = 4) (i4 : i < 4) (h : Pm N s m i) : pickM N s i = m := by
  have hx : ∃ m, Pm N s m i := ⟨m, h⟩
  unfold pickM
  rw [dif_pos hx]
  obtain ⟨h1, h2, v, e⟩ := h
  obtain ⟨g1, g2, u, eu⟩ := Classical.choose_spec hx
  generalize Classical.choose hx = m' at g1 g2 eu
  obtain ⟨a, b, c, d, rfl⟩ := len4 hs
  have le : ∀ x y : Int, x ≤ y → le4 ([a, b, c, d].set i x) ([a, b, c, d].set i y) = true := fun x y l => by
    match i, i4 with
    | 0, _ => exact show le4 [x, b, c, d] [y, b, c, d] = true from le4_iff.mpr ⟨l, Int.le_refl _, Int.le_refl _, Int.le_refl _⟩
    | 1, _ => exact show le4 [a, x, c, d] [a, y, c, d] = true from le4_iff.mpr ⟨Int.le_refl _, l, Int.le_refl _, Int.le_refl _⟩
    | 2, _ => exact show le4 [a, b, x, d] [a, b, y, d] = true from le4_iff.mpr ⟨Int.le_refl _, Int.le_refl _, l, Int.le_refl _⟩
    | 3, _ => exact show le4 [a, b, c, x] [a, b, c, y] = true from le4_iff.mpr ⟨Int.le_refl _, Int.le_refl _, Int.le_refl _, l⟩
  by_cases z : u ≤ v
  · exact h2 m' g1 (by rw [eu, e]; exact le u v z)
  · exact (g2 m h1 (by rw [eu, e]; exact le v u (by omega))).symm
/-- what stands within t, nothing of the fourth kind -/
def In3 (t : Int) (x : List Int) : Prop := ∃ a b c : Int, x = [a, b, c, 0] ∧ (0 ≤ a ∧ a ≤ t) ∧ (0 ≤ b ∧ b ≤ t) ∧ (0 ≤ c ∧ c ≤ t)
theorem jb3 {A N : List (List Int)} {t : Int} (hA : ∀ s ∈ A, In3 t s) (hN : ∀ s ∈ N, In3 t s) (few : A.length * 4 + (3 * (t.toNat + 1) + 1) * N.length < 4096) : JB A N := by
  refine ⟨A ++ (A.flatMap fun s => [pickM N s 0, pickM N s 1, pickM N s 2]) ++ (N.flatMap fun n => (List.range (t.toNat + 1)).flatMap fun v : Nat => [n.set 0 (v : Int), n.set 1 (v : Int), n.set 2 (v : Int)]) ++ N, ?_, fun s hs => List.mem_append_left _ (List.mem_append_left _ (List.mem_append_left _ hs)), fun s hs m hm min => ?_⟩
  · have l1 : (A.flatMap fun s => [pickM N s 0, pickM N s 1, pickM N s 2]).length = A.length * 3 := boxflat_len (f := fun s => [pickM N s 0, pickM N s 1, pickM N s 2]) (q := 3) (fun _ => rfl) A
    have l2 : (N.flatMap fun n => (List.range (t.toNat + 1)).flatMap fun v : Nat => [n.set 0 (v : Int), n.set 1 (v : Int), n.set 2 (v : Int)]).length = N.length * ((t.toNat + 1) * 3) := boxflat_len (fun n => by rw [boxflat_len (q := 3) (fun _ => rfl), List.length_range]) N
    rw [List.length_append, List.length_append, List.length_append, l1, l2]
    have e : (3 * (t.toNat + 1) + 1) * N.length = N.length * ((t.toNat + 1) * 3) + N.length := by
      rw [Nat.add_mul, Nat.one_mul, Nat.mul_comm (3 * (t.toNat + 1)), Nat.mul_comm 3]
    omega
  · obtain ⟨n, hn, rfl⟩ := List.mem_map.mp hm
    obtain ⟨a, b, c, rfl, ha, hb, hc⟩ := hA s hs
    obtain ⟨e, f, g, rfl, he, hf, hg⟩ := hN n hn
    have ej : join4 [a, b, c, 0] [e, f, g, 0] = [max a e, max b f, max c g, 0] := rfl
    have one : ∀ i v, i < 3 → join4 [a, b, c, 0] [e, f, g, 0] = [a, b, c, 0].set i v → join4 [a, b, c, 0] [e, f, g, 0] ∈ A ++ (A.flatMap fun s => [pickM N s 0, pickM N s 1, pickM N s 2]) ++ (N.flatMap fun n => (List.range (t.toNat + 1)).flatMap fun v : Nat => [n.set 0 (v : Int), n.set 1 (v : Int), n.set 2 (v : Int)]) ++ N := fun i v i3 ev => by
      refine List.mem_append_left _ (List.mem_append_left _ (List.mem_append_right _ (List.mem_flatMap.mpr ⟨_, hs, ?_⟩)))
      have p := pick_is (i := i) (show ([a, b, c, 0] : List Int).length = 4 from rfl) (by omega) ⟨hm, min, v, ev⟩
      rw [← p]
      have : i = 0 ∨ i = 1 ∨ i = 2 := by omega
      rcases this with rfl | rfl | rfl <;> simp
    have two : ∀ i v, i < 3 → 0 ≤ v → v ≤ t → join4 [a, b, c, 0] [e, f, g, 0] = [e, f, g, 0].set i v → join4 [a, b, c, 0] [e, f, g, 0] ∈ A ++ (A.flatMap fun s => [pickM N s 0, pickM N s 1, pickM N s 2]) ++ (N.flatMap fun n => (List.range (t.toNat + 1)).flatMap fun v : Nat => [n.set 0 (v : Int), n.set 1 (v : Int), n.set 2 (v : Int)]) ++ N := fun i v i3 v0 vt ev => by
      refine List.mem_append_left _ (List.mem_append_right _ (List.mem_flatMap.mpr ⟨_, hn, List.mem_flatMap.mpr ⟨v.toNat, List.mem_range.mpr (by omega), ?_⟩⟩))
      rw [ev, Int.toNat_of_nonneg v0]
      have : i = 0 ∨ i = 1 ∨ i = 2 := by omega
      rcases this with rfl | rfl | rfl <;> simp
    by_cases z1 : e ≤ a
    · by_cases z2 : f ≤ b
      · by_cases z3 : g ≤ c
        · refine List.mem_append_left _ (List.mem_append_left _ (List.mem_append_left _ ?_))
          rw [ej, show max a e = a by omega, show max b f = b by omega, show max c g = c by omega]
          exact hs
        · exact one 2 g (by decide) (by rw [ej, show max a e = a by omega, show max b f = b by omega, show max c g = g by omega]; rfl)
      · by_cases z3 : g ≤ c
        · exact one 1 f (by decide) (by rw [ej, show max a e = a by omega, show max b f = f by omega, show max c g = c by omega]; rfl)
        · exact two 0 a (by decide) ha.1 ha.2 (by rw [ej, show max a e = a by omega, show max b f = f by omega, show max c g = g by omega]; rfl)
    · by_cases z2 : f ≤ b
      · by_cases z3 : g ≤ c
        · exact one 0 e (by decide) (by rw [ej, show max a e = e by omega, show max b f = b by omega, show max c g = c by omega]; rfl)
        · exact two 1 b (by decide) hb.1 hb.2 (by rw [ej, show max a e = e by omega, show max b f = b by omega, show max c g = g by omega]; rfl)
      · by_cases z3 : g ≤ c
        · exact two 2 c (by decide) hc.1 hc.2 (by rw [ej, show max a e = e by omega, show max b f = f by omega, show max c g = c by omega]; rfl)
        · refine List.mem_append_right _ ?_
          rw [ej, show max a e = e by omega, show max b f = f by omega, show max c g = g by omega]
          exact hn
theorem canon_nodup {M : List (List Int)} {U : List Int → Prop} (c : Canon M U) : M.Nodup := c.srt.imp fun {x y} l e => by
  rw [e, lex_irr] at l
  cases l
/-- the least from which an ask is met: no more than by all ways from all least ones -/
theorem nd_len {asks : Asks} {j : Nat} {B M : List (List Int)} (cB : Canon B (LN asks j)) {a : List (List Int)} (hw : ∀ w ∈ a, w.length = 4) (cM : Canon M (Nd asks j a)) : M.length ≤ a.length * B.length := by
  have ok : ∀ s ∈ a.flatMap fun w => B.map (need4 w), Ok4 s := fun s hs => by
    obtain ⟨w, hw', h⟩ := List.mem_flatMap.mp hs
    obtain ⟨b, hb, rfl⟩ := List.mem_map.mp h
    exact need4_ok (hw w hw') (cB.ok b hb)
  have c2 : Canon M (UpS (a.flatMap fun w => B.map (need4 w))) := cM.congr fun x hx => (needs_up cB hw hx).symm
  have := sub_len (canon_nodup cM) fun x hx => (canon_min c2 ok x hx).1
  rw [boxflat_len (q := B.length) fun w => List.length_map _] at this
  exact this
/-- a house of up to three kinds, few least ones at each level -/
theorem few3 {asks : Asks} {s t : Int} (W : Ways4 asks s s s 0) {n wy c : Nat} (h : s * n ≤ t) (h4 : ∀ a ∈ asks, ∀ w ∈ a, w.length = 4) (hw : ∀ a ∈ asks, a.length ≤ wy) (lv : ∀ j, j < n → ∃ B, Canon B (LN asks j) ∧ B.length ≤ c)
    (b1 : (t.toNat + 1) * (t.toNat + 1) * 5 < 4096) (b2 : (t.toNat + 1) * (t.toNat + 1) * (wy * c + 1) ≤ 100000) (b3 : (t.toNat + 1) * (t.toNat + 1) * 4 + (3 * (t.toNat + 1) + 1) * (wy * c) < 4096) : FewP none (oneR asks) n := fun j hj => by
  have s0 := W.p1
  have z1 : 0 ≤ s * (n : Int) := Int.mul_nonneg s0 (by omega)
  have u1 : s * ((j + 1 : Nat) : Int) ≤ s * n := Int.mul_le_mul_of_nonneg_left (by omega) s0
  have u0 : s * (j : Int) ≤ s * n := Int.mul_le_mul_of_nonneg_left (by omega) s0
  have ndc : ∀ a ∈ asks, ∀ x, Ok4 x → Nd asks j a x → Nd asks j a (clip4 [t, t, t, 0] x) := fun a ha x hx h => nd_clip W (ln_clip W j) ha hx (by omega) (by omega) (by omega) (by omega) h
  have lnc : ∀ x, Ok4 x → LN asks j x → LN asks j (clip4 [t, t, t, 0] x) := fun x hx h => ln_clip W j hx (by omega) (by omega) (by omega) (by omega) h
  have cl : ∀ bs : Asks, (∀ b ∈ bs, b ∈ asks) → ∀ x, Ok4 x → (LN asks j x ∧ ∀ a ∈ bs, Nd asks j a x) → (LN asks j (clip4 [t, t, t, 0] x) ∧ ∀ a ∈ bs, Nd asks j a (clip4 [t, t, t, 0] x)) := fun bs hbs x hx h => ⟨lnc x hx h.1, fun a ha => ndc a (hbs a ha) x hx (h.2 a ha)⟩
  have in3 : ∀ {M : List (List Int)} {U : List Int → Prop}, Canon M U → (∀ x, Ok4 x → U x → U (clip4 [t, t, t, 0] x)) → ∀ x ∈ M, In3 t x := fun c hc x hx => by
    obtain ⟨a, b, cc, d, rfl, p1, p2, p3, p4⟩ := canon_box c (by omega) (by omega) (by omega) (Int.le_refl 0) hc x hx
    exact ⟨a, b, cc, by rw [show d = 0 by omega], p1, p2, p3⟩
  obtain ⟨B, cB, lB⟩ := lv j hj
  have one : ∀ a ∈ asks, ∀ M, Canon M (Nd asks j a) → M.length ≤ wy * c := fun a ha M cM => Nat.le_trans (nd_len cB (h4 a ha) cM) (Nat.mul_le_mul (hw a ha) lB)
  have back : ∀ {as : List PAsk}, (∀ a ∈ as, a ∈ roomAt (oneR asks) 0) → ∀ {M : List (List Int)}, Canon M (fun x => PB none (oneR asks) j 0 x ∧ ∀ a ∈ as, NdB none (PB none (oneR asks) j) a x) → ∃ bs : Asks, (∀ b ∈ bs, b ∈ asks) ∧ Canon M (fun x => LN asks j x ∧ ∀ a ∈ bs, Nd asks j a x) := fun {as} sub {M} cM => by
    rw [roomAt_one] at sub
    obtain ⟨bs, hbs, rfl⟩ := sub_map sub
    refine ⟨bs, hbs, cM.congr fun x hx => ?_⟩
    rw [pb_one hx]
    refine and_congr Iff.rfl ⟨fun h b hb => (nd_ln hx).mp (h _ (List.mem_map.mpr ⟨b, hb, rfl⟩)), fun h a ha => ?_⟩
    obtain ⟨b, hb, rfl⟩ := List.mem_map.mp ha
    exact (nd_ln hx).mpr (h b hb)
  have backN : ∀ {a : PAsk}, a ∈ roomAt (oneR asks) 0 → ∀ {M : List (List Int)}, Canon M (NdB none (PB none (oneR asks) j) a) → ∃ b ∈ asks, Canon M (Nd asks j b) := fun {a} ha {M} cM => by
    rw [roomAt_one] at ha
    obtain ⟨b, hb, rfl⟩ := List.mem_map.mp ha
    exact ⟨b, hb, cM.congr fun x hx => nd_ln hx⟩
  refine ⟨(t.toNat + 1) * (t.toNat + 1), b1, fun r hr as sub M cM => ?_, wy * c, b2, ?_, fun r hr a ha M cM => ?_, fun r hr as sub a ha M N cM cN => ?_⟩
  · obtain rfl : r = 0 := by have : r < 1 := hr; omega
    obtain ⟨bs, hbs, cM⟩ := back sub cM
    exact canon_len cM (by omega) (by omega) (by omega) (cl bs hbs)
  · have : 1 * (wy * c + 1) ≤ (t.toNat + 1) * (t.toNat + 1) * (wy * c + 1) := Nat.mul_le_mul_right _ (Nat.mul_pos (Nat.succ_pos _) (Nat.succ_pos _))
    have : 1 * (wy * c) ≤ (3 * (t.toNat + 1) + 1) * (wy * c) := Nat.mul_le_mul_right _ (by omega)
    omega
  · obtain rfl : r = 0 := by have : r < 1 := hr; omega
    obtain ⟨b, hb, cM⟩ := backN ha cM
    exact one b hb M cM
  · obtain rfl : r = 0 := by have : r < 1 := hr; omega
    obtain ⟨bs, hbs, cM⟩ := back sub cM
    obtain ⟨b, hb, cN⟩ := backN ha cN
    have l1 := canon_len cM (by omega) (by omega) (by omega) (cl bs hbs)
    have l2 := one b hb N cN
    refine jb3 (t := t) (in3 cM (cl bs hbs)) (in3 cN (ndc b hb)) ?_
    have : (3 * (t.toNat + 1) + 1) * N.length ≤ (3 * (t.toNat + 1) + 1) * (wy * c) := Nat.mul_le_mul_left _ l2
    omega
/-! ### list comprehensions with more than two clauses -/
section
/-- one turn of a clause: its item, the store, its tests; u, what stands behind these -/
def turnOf (p : Pos) (tg : Expr) (ifs : List Expr) (u : Sem Fin → Sem Fin) (it : Value) (rest : Sem Fin) (env : Env) : Sem Fin := do
  standAt p
  match ← pyNext it with
  | none => pure (.done .next)
  | some v =>
    letOwnedTupleGo tg it v
    assign tg env v
    let mut held := true
    for t in ifs do
      if held then held ← isTrue t env (eval t env)
    if held then u rest else rest
abbrev TK := L2.St → Hp → (Hp → Prop) → Prop
theorem wipe_wipe (σ : L2.St) (vs : List Nat) : wipe (wipe σ vs) vs = wipe σ vs := by
  refine List.ext_getElem? fun i => ?_
  by_cases hi : i ∈ vs
  · by_cases hl : i < σ.length
    · have z : ∀ τ : L2.St, i < τ.length → (wipe τ vs)[i]? = some none := fun τ hτ => by
        have some_or : ∃ o, (wipe τ vs)[i]? = some o := ⟨_, List.getElem?_eq_getElem (by rw [wipe_length]; exact hτ)⟩
        obtain ⟨o, eo⟩ := some_or
        cases o with
        | none => exact eo
        | some v => exact absurd hi (wipe_some eo).2
      rw [z _ (by rw [wipe_length]; exact hl), z _ hl]
    · rw [List.getElem?_eq_none (by rw [wipe_length, wipe_length]; omega), List.getElem?_eq_none (by rw [wipe_length]; omega)]
  · rw [wipe_out hi]
theorem wipe_more {σ τ : L2.St} {vs ws : List Nat} (sub : ∀ i ∈ ws, i ∈ vs) (e : wipe τ ws = wipe σ ws) : wipe τ vs = wipe σ vs := by
  have hl : τ.length = σ.length := by
    have := congrArg List.length e
    rwa [wipe_length, wipe_length] at this
  refine List.ext_getElem? fun i => ?_
  by_cases hi : i ∈ vs
  · by_cases hb : i < σ.length
    · have z : ∀ ρ : L2.St, i < ρ.length → (wipe ρ vs)[i]? = some none := fun ρ hρ => by
        obtain ⟨o, eo⟩ : ∃ o, (wipe ρ vs)[i]? = some o := ⟨_, List.getElem?_eq_getElem (by rw [wipe_length]; exact hρ)⟩
        cases o with
        | none => exact eo
        | some v => exact absurd hi (wipe_some eo).2
      rw [z τ (by omega), z σ hb]
    · rw [List.getElem?_eq_none (by rw [wipe_length]; omega), List.getElem?_eq_none (by rw [wipe_length]; omega)]
  · have hw : i ∉ ws := fun h => hi (sub i h)
    rw [wipe_out hi, wipe_out hi]
    have same : (wipe τ ws)[i]? = (wipe σ ws)[i]? := by rw [e]
    rwa [wipe_out hw, wipe_out hw] at same
/-- what stands behind a clause's tests, run from any slots: N is reached, the slots of others as they were -/
structure SubOk (Y : Cx) (vs : List Nat) (u : Sem Fin → Sem Fin) (t : TK) : Prop where
  run : ∀ (pins : List (Addr × Obj)) (s : Shared) (σ : L2.St) (H : Hp) (N : Hp → Prop) (rest : Sem Fin) (Q : Fin → Shared → Prop) (E : Value → Shared → Prop), Inv Y pins σ H s → t σ H N →
    (∀ (s' : Shared) (σ' : L2.St) (H' : Hp), Inv Y pins σ' H' s' → wipe σ' vs = wipe σ vs → N H' → wpAny (model Y.prog Y.w) Y.A rest Q E s') → wpAny (model Y.prog Y.w) Y.A (u rest) Q E s
/-- a clause's loop: N is reached behind its last turn, the slots kept but for vs -/
def tClause (J : It) (vs : List Nat) (g : TG) (tt : TT) (t : TK) : TK := fun σ H N => ∃ W : Nat → Nat → Hp → Prop, (∃ m, W 0 m H) ∧ ∀ j k G, W j k G →
  (J.stop j G ∧ N G) ∨ (J.go j G ∧ ∃ Nx : Hp → Prop, (∀ G', Nx G' → ∃ k', k' < k ∧ W (j + 1) k' G') ∧ ∀ x G', J.yld j G x G' → g x (wipe σ vs) G' fun σ3 G3 => wipe σ3 vs = wipe σ vs ∧ tt σ3 G3 fun b G4 => if b = true then t σ3 G4 Nx else Nx G4)
theorem clause_run {Y : Cx} (hc : Y.calm = true) (hx : Y.xe = fun _ _ => False) {vs : List Nat} {elt : Expr} {gens : List Comprehension} {scope : Scope} {pos : Pos} {d : Nat} {it : Addr} {acc : Value} {p : Pos} {tg : Expr} {ifs : List Expr} {u : Sem Fin → Sem Fin} {g : TG} {tt : TT} {t : TK} {J : It} {fp : List Addr} {tn : Nat → Heap → Prop}
    (eqn : compTurn (.ListComp elt gens scope pos) d (.ref it) acc Y.env = turnOf p tg ifs u (.ref it) (again (.compLoop (.ListComp elt gens scope pos) d (.ref it) acc Y.env)) Y.env)
    (T : Turn Y.prog Y.w Y.K tg J fp it tn) (pg : PG Y tg g) (pt : PTs Y ifs tt) (sb : SubOk Y vs u t)
    {pins : List (Addr × Obj)} {σ : L2.St} {H : Hp} {s : Shared} {N : Hp → Prop} (I : Inv Y pins σ H s) (st : tn 0 s.heap) (fr : ∀ b ∈ fp, FpOk Y pins H b) (h : tClause J vs g tt t σ H N) {R : Result → Shared → Prop}
    (hR : ∀ s' H', Inv Y pins (wipe σ vs) H' s' → N H' → R (.ok .next) s') :
    codeAny (model Y.prog Y.w) Y.A (.compLoop (.ListComp elt gens scope pos) d (.ref it) acc Y.env) R s := by
  obtain ⟨W, ⟨m0, w0⟩, turn⟩ := h
  have own : ∀ {G : Hp}, (∀ b ∈ fp, G b = none) → ∀ b ∈ fp, FpOk Y pins G b := fun nn b hb => ⟨nn b hb, (fr b hb).2⟩
  have start : Inv Y pins (wipe σ vs) H s := I.weak (wipe_length _ _) fun i v z => (wipe_some z).1
  refine codeAny_loop rfl (fun n s' => ∃ j G, Inv Y pins (wipe σ vs) G s' ∧ tn j s'.heap ∧ (∀ b ∈ fp, G b = none) ∧ W j n G) ?_ m0 ⟨0, H, start, st, fun b hb => (fr b hb).1, w0⟩
  rintro n s1 ⟨j, G, I1, st1, n1, w1⟩
  show wpAny _ Y.A ((compTurn (.ListComp elt gens scope pos) d (.ref it) acc Y.env).onRaise (fun y => do noteFrame y Y.env; theTreesLotGoes y)) _ _ s1
  refine wpAny_noted ?_
  rw [eqn]
  unfold turnOf
  refine wpAny_bind (wpAny_standAt (wpAny_bind ?_))
  rcases turn j n G w1 with ⟨stop, fin⟩ | ⟨go, Nx, next, step⟩
  · refine thnF (T.done Y rfl rfl rfl hc j pins s1 _ G (fun _ _ => False) I1 (own n1) st1 stop) fun r s2 ⟨hr, I2⟩ => ?_
    subst hr
    exact wpAny_pure (hR s2 G I2 fin)
  · refine thnF (T.item Y rfl rfl rfl hc j pins s1 _ G (fun _ _ => False) I1 (own n1) st1 go) fun r s2 ⟨v, hr, h2⟩ => ?_
    subst hr
    refine wpAny_bind (thnF h2 fun _ s3 ⟨x, G3, I3, r3, y3, st3, n3⟩ => ?_)
    have I3p := I3.pinned (own n3) (T.obj _ _ st3)
    have stored := pg.run _ s3 _ G3 x v _ I3p r3 (step x G3 y3)
    rw [hx] at stored
    refine wpAny_bind (thnF stored fun _ s4 ⟨σ4, G4, I4, kept, tests⟩ => ?_)
    have asked := pt.run _ s4 σ4 G4 _ I4 tests
    rw [hx] at asked
    refine wpAny_bind (thnF asked fun b s5 ⟨G5, I5, q5⟩ => ?_)
    have over : ∀ (s' : Shared) (σ' : L2.St) (G' : Hp), Inv Y (pins ++ pinsAt fp s3.heap) σ' G' s' → wipe σ' vs = wipe σ vs → Nx G' → ∃ k, k < n ∧ ∃ j G, Inv Y pins (wipe σ vs) G s' ∧ tn j s'.heap ∧ (∀ b ∈ fp, G b = none) ∧ W j k G := fun s' σ' G' I' same nx => by
      obtain ⟨k, lt, w'⟩ := next G' nx
      have pinned : ∀ b ∈ fp, ∀ o, s3.heap.get? b = some o → s'.heap.get? b = some o ∧ G' b = none := fun b hb o z => by
        have q := I'.pin (b, o) (List.mem_append_right _ (List.mem_append_right _ (mem_pinsAt hb z)))
        exact ⟨q.1, q.2.1⟩
      refine ⟨k, lt, j + 1, G', I'.unpinned.weak (by rw [← same, wipe_length]) (fun i v z => ?_), T.keep _ _ _ st3 fun b hb o z => (pinned b hb o z).1, fun b hb => ?_, w'⟩
      · rw [← same] at z
        exact (wipe_some z).1
      · obtain ⟨o, z, _⟩ := T.obj _ _ st3 b hb
        exact (pinned b hb o z).2
    cases b with
    | false => exact wpAny_pure ⟨rfl, over s5 σ4 G5 I5 kept q5⟩
    | true =>
      refine sb.run _ s5 σ4 G5 Nx _ _ _ I5 q5 fun s6 σ6 G6 I6 same nx => ?_
      exact wpAny_pure ⟨rfl, over s6 σ6 G6 I6 (same.trans kept) nx⟩
/-- the last clause's inner part: the element, put behind the others -/
def tLast (te : TE) (D : Addr) : TK := fun σ H N => te σ H fun y H1 => ∃ xs, H1 D = some (.lst xs) ∧ xs.length < sizeLine ∧ N (upd H1 D (.lst (xs ++ [y])))
theorem sub_last {Y : Cx} (hx : Y.xe = fun _ _ => False) {vs : List Nat} {elt : Expr} {te : TE} {D : Addr} (pe : PE Y elt te) : SubOk Y vs (fun rest => (do let _ ← call (.builtin "list.append") [.ref D, ← eval elt Y.env]) >>= fun _ => rest) (tLast te D) := by
  refine ⟨fun pins s σ H N rest Q E I h k => ?_⟩
  have got := pe.run pins s σ H _ I h
  rw [hx] at got
  refine wpAny_bind (wpAny_bind (thnF got fun v s1 ⟨y, H1, I1, r1, xs, hD, lx, nx⟩ => wpAny_bind ?_))
  exact app_ok I1 hD lx r1 fun s2 I2 => wpAny_pure (k s2 σ _ I2 rfl nx)
/-- a clause's loop begun -/
theorem clause_start {P : Program} {w : World} {A : Around} {elt tg i1 : Expr} {ifs : List Expr} {gens : List Comprehension} {scope : Scope} {pos : Pos} {d : Nat} {it : Addr} {acc : Value} {env : Env} {R : Result → Shared → Prop} {s : Shared}
    (hcl : gens[d]? = some ⟨tg, i1, ifs, 0⟩) (loop : codeAny (model P w) A (.compLoop (.ListComp elt gens scope pos) d (.ref it) acc env) R s)
    (itself : ∀ (Q : Value → Shared → Prop) (E : Value → Shared → Prop), Q (.ref it) s → wpAny (model P w) A (pyIter (.ref it)) Q E s) :
    codeAny (model P w) A (.compStart (.ListComp elt gens scope pos) d (.ref it) acc env) R s := by
  refine codeAny_of_tree ?_
  show wpAny _ A ((compStart (.ListComp elt gens scope pos) d (.ref it) acc env).onRaise (fun y => do noteFrame y env; standAt theWindowsPlace)) _ _ s
  refine wpAny_notedAt ?_
  have cl : (clausesOf (.ListComp elt gens scope pos))[d]? = some ⟨tg, i1, ifs, 0⟩ := hcl
  unfold compStart
  rw [cl]
  show wpAny _ _ (ask >>= _) _ _ s
  refine wpAny_bind (wpAny_askSetting (wpAny_ite ?_))
  split
  · first
      | exact wpAny_pure ⟨rfl, loop⟩
      | exact wpAny_bind (wpAny_pure (wpAny_pure ⟨rfl, loop⟩))
  · refine wpAny_bind (wpAny_rule ?_)
    first
      | exact wpAny_bind (wpAny_standAt (wpAny_bind (itself _ _ (wpAny_pure ⟨rfl, loop⟩))))
      | (show wpAny _ _ (standAt _ >>= _) _ _ s; exact wpAny_bind (wpAny_standAt (wpAny_bind (itself _ _ (wpAny_pure ⟨rfl, loop⟩)))))
/-- one clause more within -/
def tNext (wi : TI) (vs : List Nat) (g : TG) (tt : TT) (t : TK) : TK := fun σ H N => wi σ H fun J H1 => tClause J vs g tt t σ H1 N
theorem sub_next {Y : Cx} (hc : Y.calm = true) (hx : Y.xe = fun _ _ => False) {vs vs1 : List Nat} (sub : ∀ i ∈ vs1, i ∈ vs) {elt tg i1 : Expr} {ifs : List Expr} {gens : List Comprehension} {scope : Scope} {pos p : Pos} {d : Nat} {acc : Value}
    {u : Sem Fin → Sem Fin} {wi : TI} {g : TG} {tt : TT} {t : TK} (hcl : gens[d]? = some ⟨tg, i1, ifs, 0⟩)
    (eqn : ∀ it : Addr, compTurn (.ListComp elt gens scope pos) d (.ref it) acc Y.env = turnOf p tg ifs u (.ref it) (again (.compLoop (.ListComp elt gens scope pos) d (.ref it) acc Y.env)) Y.env)
    (pi : PI Y tg i1 wi) (pg : PG Y tg g) (pt : PTs Y ifs tt) (sb : SubOk Y vs1 u t) (hs : ∀ y, foldedSetIterable i1 Y.env y = pure y) :
    SubOk Y vs (fun rest => do
      let y ← eval i1 Y.env
      standAt i1.pos
      let y ← foldedSetIterable i1 Y.env y
      let _ ← runOwn (.compStart (.ListComp elt gens scope pos) d (← holding [y] (pyIter y)) acc Y.env) Y.env
      rest) (tNext wi vs1 g tt t) := by
  refine ⟨fun pins s σ H N rest Q E I h k => ?_⟩
  have source := pi.run pins s σ H _ I h
  rw [hx] at source
  refine wpAny_bind (thnF source fun y s1 h1 => wpAny_bind (wpAny_standAt (wpAny_bind (wpAny_of_eq (hs y) (wpAny_bind (wpAny_holding (thnF h1 fun itv s2 h2 => ?_)))))))
  obtain ⟨it, fp, tn, J, H2, rfl, I2, T, st, fr, turns⟩ := h2
  refine wpAny_bind (wpAny_runOwn ?_)
  rw [Around.mark_none]
  refine clause_start hcl (clause_run hc hx (eqn it) T pg pt sb I2 st fr turns fun s' H' I' n => ?_) fun Q' E' q => T.self _ 0 _ _ _ st q
  exact k s' _ H' I' (wipe_more sub (wipe_wipe σ vs1)) n
theorem tClause_wiped {J : It} {vs : List Nat} {g : TG} {tt : TT} {t : TK} {σ : L2.St} {H : Hp} {N : Hp → Prop} (h : tClause J vs g tt t σ H N) : tClause J vs g tt t (wipe σ vs) H N := by
  unfold tClause at h ⊢
  rw [wipe_wipe]
  exact h
/-- the whole: the first clause's source, the new list at D, its turns -/
def tLcM (wi : TI) (g : TG) (tt : TT) (t : Addr → TK) (vs : List Nat) : TE := fun σ H Q => wi σ H fun J H1 => ∀ D, H1 D = none → tClause J vs g tt (t D) σ (upd H1 D (.lst [])) (Q (.ref D))
theorem pe_lcM {X : Cx} {elt tg iter : Expr} {ifs : List Expr} {rest : List Comprehension} {scope : Scope} {own : List (Str × Nat)} {pos : Pos} {wi : TI} {g : TG} {tt : TT} {t : Addr → TK} {u : Env → Addr → Sem Fin → Sem Fin}
    (hc : X.calm = true) (hN : X.N.Nodup) (hi : PI X tg iter wi) (ok : BlkOk X.N X.env.scope scope own)
    (eqn : ∀ (it D : Addr) (env : Env), compTurn (.ListComp elt (⟨tg, iter, ifs, 0⟩ :: rest) scope pos) 0 (.ref it) (.ref D) env = turnOf iter.pos tg ifs (u env D) (.ref it) (again (.compLoop (.ListComp elt (⟨tg, iter, ifs, 0⟩ :: rest) scope pos) 0 (.ref it) (.ref D) env)) env)
    (inner : ∀ (s : Shared) (H : Hp) (C : Addr) (cl : List (Str × Addr)) (fp : List Addr), PG (X.blk s H scope (compEnvC scope cl C X.env) fp) tg g ∧ PTs (X.blk s H scope (compEnvC scope cl C X.env) fp) ifs tt ∧
      ∀ D, SubOk (X.blk s H scope (compEnvC scope cl C X.env) fp) (own.map (·.2)) (u (compEnvC scope cl C X.env) D) (t D))
    (hs : ∀ y, foldedSetIterable iter X.env y = pure y := by intro _; rfl) : PE X (.ListComp elt (⟨tg, iter, ifs, 0⟩ :: rest) scope pos) (tLcM wi g tt t (own.map (·.2))) := by
  refine ⟨fun pins s σ H Q I h => ?_⟩
  rw [eval_ListComp]
  have known : ∀ n ∈ scope.names, n.2 = .free → ∃ c, X.env.cells.lookup n.1 = some c := fun n hn e => by
    rcases ok.free n hn e with a | a
    · exact I.ok.has _ (.inl a)
    · exact I.ok.has _ (.inr a)
  refine wpAny_comprehension_free (use := none) rfl hs (closure_ok known) ok.kind (fun n hn e => by rw [ok.uniq n hn, e]) (thn (hi.run pins s σ H _ I h) fun _ s1 h1 => thn h1 fun _ s2 h2 => ?_)
  obtain ⟨it, fp, tn, J, H2, rfl, I2, T, st2, fr2, turns⟩ := h2
  refine wpAny_newObj_type (newEnv_comp ?_) (by show 0 ≤ sizeLine; decide)
  generalize eD : s2.heap.objs.size = D
  have nD : H2 D = none := I2.hok.fresh (Nat.le_of_eq eD)
  have turnsD := tClause_wiped (turns D nD)
  -- behind the new list
  generalize e3 : ({ s2 with heap := s2.heap.push { cls := .type "list", data := .seq ([] : List Value).toArray } } : Shared) = s3
  have heap3 : s3.heap = s2.heap.push { cls := .type "list", data := .seq ([] : List Value).toArray } := by rw [← e3]
  have I3 : Inv X pins σ (upd H2 D (.lst [])) s3 := by
    subst e3
    refine I2.laid (t' := s2.toks) (fun b o z => Heap.get?_push_of_some _ z) (Nat.le_of_eq eD) ⟨Nat.zero_le _, [], 0, .nil, ?_⟩
    subst eD
    exact Heap.get?_push_size _ rfl
  have below : ∀ b ∈ fp, b < s2.heap.objs.size := fun b hb => (T.obj _ _ st2 b hb).elim fun _ z => Heap.lt_size z.1
  have fr3 : ∀ b ∈ fp, FpOk X pins (upd H2 D (.lst [])) b ∧ b < s3.heap.objs.size := fun b hb => by
    have lt := below b hb
    refine ⟨⟨?_, (fr2 b hb).2⟩, ?_⟩
    · rw [upd_ne (show b ≠ D by rw [← eD]; exact Nat.ne_of_lt lt)]
      exact (fr2 b hb).1
    · rw [heap3, Heap.size_push]
      exact Nat.lt_succ_of_lt lt
  have I4 := block_start I3 ok hN fr3
  obtain ⟨pg, pt, sub⟩ := inner s3 (upd H2 D (.lst [])) s3.heap.objs.size (cellsFrom (s3.heap.objs.size + 1) scope.names (cloFrom X.env.cells scope.names [])) fp
  show codeAny _ _ (.compStart (.ListComp elt (⟨tg, iter, ifs, 0⟩ :: rest) scope pos) 0 (.ref it) (.ref D) (compEnvC scope (cellsFrom (s3.heap.objs.size + 1) scope.names (cloFrom X.env.cells scope.names [])) s3.heap.objs.size X.env)) (compPost (model X.prog X.w) X.A X.xe none (fun v s' => EP X pins σ Q v s') (.ref D) s3.heap.objs.size) { s3 with heap := pushCells (s3.heap.push { cls := .type "dict", data := .dict #[] }) scope.names }
  generalize eC : compEnvC scope (cellsFrom (s3.heap.objs.size + 1) scope.names (cloFrom X.env.cells scope.names [])) s3.heap.objs.size X.env = ce at I4 pg pt sub ⊢
  have locC : ce.locals = s3.heap.objs.size := by subst eC; rfl
  have nofp : ∀ b ∈ fp, (upd H2 D (.lst [])) b = none := fun b hb => (fr3 b hb).1.1
  generalize eH : upd H2 D (.lst []) = H3 at I3 I4 pg pt sub turnsD fr3 nofp
  generalize e4 : ({ s3 with heap := pushCells (s3.heap.push { cls := .type "dict", data := .dict #[] }) scope.names } : Shared) = s4 at I4 ⊢
  have st4 : tn 0 s4.heap := by
    refine T.keep _ _ _ st2 fun b _ o z => ?_
    subst e4
    refine pushCells_keeps _ _ _ _ (Heap.get?_push_of_some _ ?_)
    rw [heap3]
    exact Heap.get?_push_of_some _ z
  have fr4 : ∀ b ∈ fp, FpOk (X.blk s3 H3 scope ce fp) [] H3 b := fun b hb =>
    ⟨nofp b hb, (I4.ok.exf b hb).1, I4.ok.exfs b hb, .inl hb, (I4.ok.exf b hb).2, fun p hp => absurd (show p ∈ ([] : List (Addr × Obj)) ++ [] from hp) List.not_mem_nil⟩
  refine clause_start rfl (clause_run (Y := X.blk s3 H3 scope ce fp) hc rfl (eqn it D ce) T pg pt (sub D) I4 st4 fr4 turnsD fun s5 H5 I5 n5 => ?_) fun Q' E' q => T.self _ 0 _ _ _ st4 q
  -- back in the def's own context
  have I6 : Inv X pins σ H5 s5 := I3.call' (ch := fp) I5.os I5.base I5.hok I5.bare fun b hb => ⟨(fr3 b hb).1.2.2.2.1, (fr3 b hb).1.2.1, (fr3 b hb).1.2.2.2.2.1, (fr3 b hb).1.2.2.2.2.2⟩
  have nC : H5 s3.heap.objs.size = none := by
    have z : H5 ce.locals = none := I5.free
    rwa [locC] at z
  obtain ⟨m, ns, _⟩ := I5.loc
  have ns : s5.heap.Ns ce.locals m := ns
  rw [locC] at ns
  refine ⟨m, ns, fun h' sb => ?_⟩
  obtain ⟨f0, f1, f2, f3, f4, f5⟩ := I3.fpOk (Nat.le_refl _) nC
  exact ⟨.ref D, H5, I6.turned (t' := s5.toks) (fun b o hb z => (sb.2 b hb).trans z) f0 f1 f3 f4 f5, rfl, n5⟩
/-- what a clause hands on to the next one -/
def uNext (elt : Expr) (gens : List Comprehension) (scope : Scope) (pos : Pos) (d : Nat) (i1 : Expr) : Env → Addr → Sem Fin → Sem Fin := fun env D rest => do
  let y ← eval i1 env
  standAt i1.pos
  let y ← foldedSetIterable i1 env y
  let _ ← runOwn (.compStart (.ListComp elt gens scope pos) d (← holding [y] (pyIter y)) (.ref D) env) env
  rest
def uLast (elt : Expr) : Env → Addr → Sem Fin → Sem Fin := fun env D rest => (do let _ ← call (.builtin "list.append") [.ref D, ← eval elt env]) >>= fun _ => rest
abbrev InBlk (X : Cx) (scope : Scope) (p : Cx → Prop) : Prop := ∀ (s : Shared) (H : Hp) (C : Addr) (cl : List (Str × Addr)) (fp : List Addr), p (X.blk s H scope (compEnvC scope cl C X.env) fp)
def tLc3 (wi : TI) (g : TG) (tt : TT) (wi1 : TI) (g1 : TG) (tt1 : TT) (wi2 : TI) (g2 : TG) (tt2 : TT) (te : TE) (vs vs1 vs2 : List Nat) : TE :=
  tLcM wi g tt (fun D => tNext wi1 vs1 g1 tt1 (tNext wi2 vs2 g2 tt2 (tLast te D))) vs
theorem pe_lc3 {X : Cx} {elt tg iter tg1 iter1 tg2 iter2 : Expr} {ifs ifs1 ifs2 : List Expr} {scope : Scope} {own : List (Str × Nat)} {vs1 vs2 : List Nat} {pos : Pos} {wi wi1 wi2 : TI} {g g1 g2 : TG} {tt tt1 tt2 : TT} {te : TE}
    (hc : X.calm = true) (hN : X.N.Nodup) (hi : PI X tg iter wi) (ok : BlkOk X.N X.env.scope scope own) (hv1 : ∀ i ∈ vs1, i ∈ own.map (·.2)) (hv2 : ∀ i ∈ vs2, i ∈ vs1)
    (hg : InBlk X scope fun Y => PG Y tg g) (ht : InBlk X scope fun Y => PTs Y ifs tt)
    (hi1 : InBlk X scope fun Y => PI Y tg1 iter1 wi1) (hg1 : InBlk X scope fun Y => PG Y tg1 g1) (ht1 : InBlk X scope fun Y => PTs Y ifs1 tt1)
    (hi2 : InBlk X scope fun Y => PI Y tg2 iter2 wi2) (hg2 : InBlk X scope fun Y => PG Y tg2 g2) (ht2 : InBlk X scope fun Y => PTs Y ifs2 tt2)
    (he : InBlk X scope fun Y => PE Y elt te)
    (hs : ∀ y, foldedSetIterable iter X.env y = pure y := by intro _; rfl) (hs1 : ∀ env y, foldedSetIterable iter1 env y = pure y := by intro _ _; rfl) (hs2 : ∀ env y, foldedSetIterable iter2 env y = pure y := by intro _ _; rfl) :
    PE X (.ListComp elt [⟨tg, iter, ifs, 0⟩, ⟨tg1, iter1, ifs1, 0⟩, ⟨tg2, iter2, ifs2, 0⟩] scope pos) (tLc3 wi g tt wi1 g1 tt1 wi2 g2 tt2 te (own.map (·.2)) vs1 vs2) := by
  refine pe_lcM (u := uNext elt [⟨tg, iter, ifs, 0⟩, ⟨tg1, iter1, ifs1, 0⟩, ⟨tg2, iter2, ifs2, 0⟩] scope pos 1 iter1) hc hN hi ok (fun _ _ _ => by rfl) (fun s H C cl fp => ⟨hg s H C cl fp, ht s H C cl fp, fun D => ?_⟩) hs
  refine sub_next (Y := X.blk s H scope (compEnvC scope cl C X.env) fp) (u := uNext elt [⟨tg, iter, ifs, 0⟩, ⟨tg1, iter1, ifs1, 0⟩, ⟨tg2, iter2, ifs2, 0⟩] scope pos 2 iter2 (compEnvC scope cl C X.env) D) hc rfl hv1 rfl (p := iter1.pos) (fun _ => by rfl) (hi1 s H C cl fp) (hg1 s H C cl fp) (ht1 s H C cl fp) ?_ (hs1 _)
  refine sub_next (Y := X.blk s H scope (compEnvC scope cl C X.env) fp) (u := uLast elt (compEnvC scope cl C X.env) D) hc rfl hv2 rfl (p := iter2.pos) (fun _ => by rfl) (hi2 s H C cl fp) (hg2 s H C cl fp) (ht2 s H C cl fp) ?_ (hs2 _)
  exact sub_last rfl (he s H C cl fp)
end
/-! ### min(xs, default=d), xs a list of ints -/
def minOr (d : Int) : List Int → Int
  | [] => d
  | n :: ns => ns.foldl min n
def tMinDef (K : PySem.W.Frag) (te td : TE) : TE := fun σ H Q => te σ H fun x H1 => td σ H1 fun y H2 => ∃ (a : Addr) (ns : List Int) (d : Int), x = .ref a ∧ y = .int d ∧ SqL K H2 a (ns.map V.int) ∧ Q (.int (minOr d ns)) H2
theorem ints_alike (ns : List Int) : PySem.W.AlikeAll (ns.map PyData.int) := by
  refine ⟨fun x hx y hy => ?_, fun x hx e => ?_⟩
  · obtain ⟨i, _, rfl⟩ := List.mem_map.mp hx
    obtain ⟨j, _, rfl⟩ := List.mem_map.mp hy
    simp [PySem.W.alike]
  · obtain ⟨i, _, rfl⟩ := List.mem_map.mp hx
    cases e
theorem pe_minDef {X : Cx} {k : Nat} {e d : Expr} {te td : TE} {p kpos pos : Pos} (hc : X.calm = true) (room : Room k X.A) (hg : Gl X "min") (hm : X.mg "min" = none) (ha : PE X e te) (hd : PE X d td)
    (hs : starEach [e] X.env = [(false, eval e X.env)] := by rfl) :
    PE X (.Call (.Name "min" p) [e] [⟨some (Str.ofString "default"), d, kpos⟩] pos) (tMinDef X.K te td) := by
  refine ⟨fun pins s σ H Q I h => ?_⟩
  refine wpAny_Call_Name_kw (ld_blt I hg hm (by decide +kernel : bootBuiltins "min" = some (.builtin "min")) ?_ (by decide) (by decide))
  have one : PA X [e] (tCons te tNil) := pa_cons ha pa_nil (by rw [hs]; rfl)
  refine PyProof.Rows.callWith_kw (thn (one.run pos pins s σ H (fun xs H1 => match xs with
    | [x] => td σ H1 fun y H2 => ∃ (a : Addr) (ns : List Int) (d : Int), x = .ref a ∧ y = .int d ∧ SqL X.K H2 a (ns.map V.int) ∧ Q (.int (minOr d ns)) H2
    | _ => False) I h) fun us s1 ⟨vs, H1, I1, r1, hq⟩ => ?_) (by rw [hs]; rfl) (by rw [hs]; rfl) (by rfl) (by rfl)
  match vs, hq with
  | [], hq => exact hq.elim
  | _ :: _ :: _, hq => exact hq.elim
  | [x], hq =>
    refine wpAny_evalAll_cons ?_
    show wpAny _ _ (do let v ← eval d X.env; standAt pos; pure v) _ _ s1
    refine wpAny_bind (thn (hd.run pins s1 σ H1 _ I1 hq) fun v s2 ⟨y, H2, I2, r2, a, ns, n, ex, ey, hl, q⟩ => wpAny_bind (wpAny_standAt (wpAny_pure (wpAny_evalAll_nil ?_))))
    subst ex
    subst ey
    rw [Vals.ref1 r1]
    obtain ⟨t, rfl⟩ : ∃ t, v = Value.int n t := r2
    show wpAny _ _ (call (.builtin "min") [.ref a] [(Str.ofString "default", .int n t)]) _ _ s2
    obtain ⟨its, rv, pl, _⟩ := I2.list hl
    obtain ⟨as, reads⟩ := ints_readsAll (h := s2.heap) rv
    have un := room.un
    have dp := depthAll_ints ns
    refine PySem.W.min_list_default (I2.ok.hd hc) pl.isList (by simpa using reads) (ints_alike ns) (by show X.A.units + 1 + _ < _; omega) (fun z h' tk keeps => ?_) fun y ys i v h' tk bs z hv rd keeps => ?_
    · have e : ns = [] := List.map_eq_nil_iff.mp z
      subst e
      exact ⟨.int n, H2, I2.kept keeps, ⟨t, rfl⟩, q⟩
    · match ns, z with
      | m :: ms, z =>
        obtain ⟨z1, z2⟩ := List.cons.inj (show PyData.int m :: ms.map PyData.int = y :: ys from z)
        subst z1
        subst z2
        rw [PySem.W.minD_ints] at rd
        cases rd with
        | int _ t => exact ⟨.int _, H2, I2.kept keeps, ⟨t, rfl⟩, q⟩
theorem minOr_le : ∀ (ns : List Int) (d b : Int), b ≤ minOr d ns ↔ (ns = [] ∧ b ≤ d) ∨ (ns ≠ [] ∧ ∀ n ∈ ns, b ≤ n)
  | [], d, b => ⟨fun h => .inl ⟨rfl, h⟩, fun h => h.elim (fun z => z.2) fun z => absurd rfl z.1⟩
  | n :: ns, d, b => by
    show b ≤ ns.foldl min n ↔ _
    rw [foldl_min_le]
    constructor
    · rintro ⟨h1, h2⟩
      refine .inr ⟨by simp, fun m hm => ?_⟩
      rcases List.mem_cons.mp hm with rfl | hm
      · exact h1
      · exact h2 m hm
    · rintro (⟨h, _⟩ | ⟨_, h⟩)
      · cases h
      · exact ⟨h n List.mem_cons_self, fun m hm => h m (List.mem_cons_of_mem _ hm)⟩
theorem foldl_min_mem : ∀ (ns : List Int) (n : Int), ns.foldl min n = n ∨ ns.foldl min n ∈ ns
  | [], n => .inl rfl
  | m :: r, n => by
    rw [List.foldl_cons]
    rcases foldl_min_mem r (min n m) with e | e
    · rw [e]
      by_cases h : n ≤ m
      · exact .inl (by omega)
      · exact .inr (by rw [show min n m = m by omega]; exact List.mem_cons_self)
    · exact .inr (List.mem_cons_of_mem _ e)
theorem minOr_mem {ns : List Int} {d : Int} (h : ns ≠ []) : minOr d ns ∈ ns := by
  cases ns with
  | nil => exact absurd rfl h
  | cons n ns =>
    rcases foldl_min_mem ns n with e | e
    · show ns.foldl min n ∈ n :: ns
      rw [e]
      exact List.mem_cons_self
    · exact List.mem_cons_of_mem _ e
/-! ### columns of a box -/
def sSides : Stmt := topS 13
def sColumns : Stmt := topS 14
def sHeights : Stmt := topS 15
/-- how many numbers of the kind i the box b has -/
def sd (kd b i : Nat) : Nat := if i < kd then b + 1 else 1
def spSides (K : PySem.W.Frag) : Sp := fun vs H Q _ => ∃ kd b : Nat, vs = [.int (kd : Int), .int (b : Int)] ∧ ∀ q H', Same H H' → H q = none → H' q = some (.lst [.int (sd kd b 1 : Nat), .int (sd kd b 2 : Nat), .int (sd kd b 3 : Nat)]) → Q (.ref q) H'
def colsL (w d f : Nat) : List (List Int) := (List.range w).flatMap fun x : Nat => (List.range d).flatMap fun y : Nat => (List.range f).map fun z : Nat => [(x : Int), (y : Int), (z : Int)]
def spColumns (K : PySem.W.Frag) : Sp := fun vs H Q _ => ∃ (a : Addr) (w d f : Nat), vs = [.ref a] ∧ SqL K H a [.int (w : Int), .int (d : Int), .int (f : Int)] ∧ w * (d * f) ≤ 50000 ∧ w ≤ 1000 ∧ d ≤ 1000 ∧ f ≤ 1000 ∧
  ∀ q H' ps, Same H H' → H q = none → H' q = some (.lst ps) → DpAll K H' ps ((colsL w d f).map wayD) → Q (.ref q) H'
def hNone : Int := 1000000
/-- the first numbers of the stores that a column may cover -/
def hgts (S : List (List Int)) (c : List Int) : List Int := match c with
  | [x, y, z] => S.filterMap fun s => match s with
    | [h, e, f, g] => if e ≤ x ∧ f ≤ y ∧ g ≤ z then some h else none
    | _ => none
  | _ => []
def hgt (S : List (List Int)) (c : List Int) : Int := minOr hNone (hgts S c)
def spHeights (K : PySem.W.Frag) : Sp := fun vs H Q _ => ∃ (x y : V) (S C : List (List Int)), vs = [x, y] ∧ Dp K H x (stsD S) ∧ Dp K H y (stsD C) ∧ (∀ s ∈ S, s.length = 4) ∧ (∀ c ∈ C, c.length = 3) ∧ S.length ≤ 50000 ∧ C.length ≤ 50000 ∧
  ∀ q H', Same H H' → H q = none → H' q = some (.lst ((C.map (hgt S)).map V.int)) → Q (.ref q) H'
theorem clause_by {J : It} {n : Nat} {G : Hp → Prop} {Y : Nat → Hp → V → Hp → Prop} (w : Walk J n G Y) {vs : List Nat} {g : TG} {tt : TT} {t : TK} {σ : L2.St} {H : Hp} {N : Hp → Prop} (Pv : Nat → Hp → Prop) (h0 : Pv 0 H) (hG : ∀ i H, i ≤ n → Pv i H → G H)
    (hs : ∀ i x H H', i < n → Pv i H → Y i H x H' → g x (wipe σ vs) H' fun σ3 H3 => wipe σ3 vs = wipe σ vs ∧ tt σ3 H3 fun b H4 => if b = true then t σ3 H4 (Pv (i + 1)) else Pv (i + 1) H4) (hd : ∀ H, Pv n H → N H) : tClause J vs g tt t σ H N :=
  walk_gen w (fun x H' Nx => g x (wipe σ vs) H' fun σ3 H3 => wipe σ3 vs = wipe σ vs ∧ tt σ3 H3 fun b H4 => if b = true then t σ3 H4 Nx else Nx H4) Pv h0 hG hs hd
theorem walk_rangeN {lo : Int} {n : Nat} : Walk (Itr lo n) n (fun _ => True) (YFn fun i => V.int (lo + i)) :=
  ⟨fun i H hi _ => hi, fun H _ => Nat.le_refl _, fun i H x H' _ _ y => y⟩
theorem range_snoc {α : Type} (f : Nat → List α) (n : Nat) : (List.range (n + 1)).flatMap f = (List.range n).flatMap f ++ f n := by
  rw [List.range_succ, List.flatMap_append, List.flatMap_cons, List.flatMap_nil, List.append_nil]
theorem colsL_len (w d f : Nat) : (colsL w d f).length = w * (d * f) := by
  unfold colsL
  rw [boxflat_len (q := d * f) fun x => by rw [boxflat_len (q := f) fun y => by rw [List.length_map, List.length_range], List.length_range], List.length_range]
section
variable {P : Program} {w : World} {K : PySem.W.Frag} {mg : Str → Option Value} {base : Heap}
theorem scSides : FnScope ["kinds", "b", "kind"] ["kinds", "b"] (defScope sSides) := ⟨rfl, rfl, rfl, by decide +kernel, rfl, by decide +kernel, by decide +kernel⟩
theorem ok_sides {f : Addr} {fd : FuncData} {k : Nat} {tk : Tok} (F : Fun K "sides_of" "sides_of" sSides f fd) (g4 : mg "FOUR" = some (.int 4 tk)) (mr : mg "range" = none) : FnOk P w K mg base CX0 (k + 1) f fd ["kinds", "b"] (spSides K) := by
  refine F.ok scSides (fun vs H Q E h => ?_) (fun cdv A outer s H vs Q E hr h => ?_)
  · obtain ⟨kd, b, rfl, _⟩ := h
    rfl
  · obtain ⟨kd, b, rfl, q⟩ := h
    refine ⟨_, pss_one (ps_ret (pe_lc (own := [("kind", 2)]) (g := gName 2) (tt := tYes) (te := tIf (tTest (tOp (rI0 fun i j => .bl (decide (i < j))) (tVar 2) (tVar 0))) (tOp (rI0 fun i j => .int (i + j)) (tVar 1) (tC (.int 1))) (tC (.int 1))) rfl scSides.nd (pi_range2 (by rfl) mr (pa_cons pe_int (pa_cons (pe_glob (v := .int 4) (by rfl) g4 ⟨_, rfl⟩) pa_nil)))
        (blkOk_by (N := ["kinds", "b", "kind"]) (sc := defScope sSides) (by decide +kernel))
        (fun _ _ _ _ _ => by exact pg_name (i := 2) scSides.nd rfl (.inl rfl)) (fun _ _ _ _ _ => pts_nil)
        (fun _ _ _ _ _ => by exact pe_ifExp (pt_cmpR op_lt (pv 2) (pv 0) (nomark _)) (pe_op op_add (pv 1) pe_int) pe_int))), ?_⟩
    refine ⟨1, 4, rfl, ⟨by omega, by omega, by omega, by omega⟩, fun D nD => ?_⟩
    have sD := same_upd (o := .lst []) nD
    refine lc_range (lo := 1) (n := 3) (fun i H1 => Same H H1 ∧ H1 D = some (.lst ((List.range i).map fun i => V.int ((sd kd b (i + 1) : Nat) : Int)))) ⟨sD, upd_same⟩ ?_ ?_
    · rintro i H1 hi ⟨s1, hD⟩
      refine ⟨rfl, ?_⟩
      have fin : ∀ v : Int, v = ((sd kd b (i + 1) : Nat) : Int) → ∃ acc, H1 D = some (.lst acc) ∧ acc.length < sizeLine ∧ (Same H (upd H1 D (.lst (acc ++ [V.int v]))) ∧ upd H1 D (.lst (acc ++ [V.int v])) D = some (.lst ((List.range (i + 1)).map fun i => V.int ((sd kd b (i + 1) : Nat) : Int)))) := fun v e => by
        refine ⟨_, hD, small_line (by rw [List.length_map, List.length_range]; omega), fun c o z => ?_, ?_⟩
        · rw [upd_ne (ne_of_none z nD)]
          exact s1 _ _ z
        · rw [upd_same, e, List.range_succ, List.map_append]
          rfl
      refine ⟨_, rfl, _, rfl, _, _, rfl, rfl, _, rfl, ite2 (fun c => ?_) fun c => ?_⟩
      · have c := of_decide_eq_true c
        refine ⟨_, rfl, _, _, rfl, rfl, fin _ ?_⟩
        unfold sd
        rw [if_pos (by omega)]
        omega
      · have c : ¬ ((1 : Int) + i < kd) := fun z => c (decide_eq_true z)
        refine fin _ ?_
        unfold sd
        rw [if_neg (by omega)]
        rfl
    · rintro H1 ⟨s1, hD⟩
      exact q D H1 s1 nD hD
theorem scColumns : FnScope ["sides", "wide", "deep", "far", "x", "y", "z"] ["sides"] (defScope sColumns) := ⟨rfl, rfl, rfl, by decide +kernel, rfl, by decide +kernel, by decide +kernel⟩
theorem ok_columns {f : Addr} {fd : FuncData} {k : Nat} (F : Fun K "columns_of" "columns_of" sColumns f fd) (mr : mg "range" = none) : FnOk P w K mg base CX0 (k + 1) f fd ["sides"] (spColumns K) := by
  refine F.ok scColumns (fun vs H Q E h => ?_) (fun cdv A outer s H vs Q E hr h => ?_)
  · obtain ⟨a, w, d, f, rfl, _⟩ := h
    rfl
  · obtain ⟨a, w, d, f, rfl, hL, few, w1, d1, f1, q⟩ := h
    refine ⟨_, pss_cons (ps_asg (pv 0) (pg_lst (by rfl) (pgs_cons (pg_name (i := 1) scColumns.nd rfl (.inl rfl)) (pgs_cons (pg_name (i := 2) scColumns.nd rfl (.inr rfl)) (pgs_cons (pg_name (i := 3) scColumns.nd rfl (.inr rfl)) pgs_nil)))))
      (pss_one (ps_ret (pe_lc3 (own := [("x", 4), ("y", 5), ("z", 6)]) (vs1 := [5, 6]) (vs2 := [6]) (g := gName 4) (g1 := gName 5) (g2 := gName 6) (tt := tYes) (tt1 := tYes) (tt2 := tYes)
          (wi1 := iRng1 (tCons (tVar 2) tNil)) (wi2 := iRng1 (tCons (tVar 3) tNil)) (te := tTup (tCons (tVar 4) (tCons (tVar 5) (tCons (tVar 6) tNil)))) rfl scColumns.nd (pi_range1 (by rfl) mr (pa_cons (pv 1) pa_nil))
          (blkOk_by (N := ["sides", "wide", "deep", "far", "x", "y", "z"]) (sc := defScope sColumns) (by decide +kernel)) (by decide) (by decide)
          (fun _ _ _ _ _ => by exact pg_name (i := 4) scColumns.nd rfl (.inl rfl)) (fun _ _ _ _ _ => pts_nil)
          (fun _ _ _ _ _ => by exact pi_range1 (by rfl) mr (pa_cons (pv 2) pa_nil)) (fun _ _ _ _ _ => by exact pg_name (i := 5) scColumns.nd rfl (.inl rfl)) (fun _ _ _ _ _ => pts_nil)
          (fun _ _ _ _ _ => by exact pi_range1 (by rfl) mr (pa_cons (pv 3) pa_nil)) (fun _ _ _ _ _ => by exact pg_name (i := 6) scColumns.nd rfl (.inl rfl)) (fun _ _ _ _ _ => pts_nil)
          (fun _ _ _ _ _ => by exact pe_tup (pa_cons (pv 4) (pa_cons (pv 5) (pa_cons (pv 6) pa_nil))))))), ?_⟩
    refine ⟨_, rfl, a, _, rfl, hL, rfl, _, _, rfl, _, _, rfl, _, _, rfl, rfl, ?_⟩
    refine ⟨_, rfl, w, rfl, by omega, by omega, fun D nD => ?_⟩
    have sD := same_upd (o := .lst []) nD
    have bound : ∀ {i j l : Nat}, i < w → j < d → l < f → i * (d * f) + (j * f + l) < w * (d * f) := fun {i j l} hi hj hl => by
      have h1 : (j + 1) * f ≤ d * f := Nat.mul_le_mul_right _ hj
      have h2 : (i + 1) * (d * f) ≤ w * (d * f) := Nat.mul_le_mul_right _ hi
      rw [Nat.succ_mul] at h1 h2
      omega
    rw [show ((w : Int)).toNat = w from Int.toNat_natCast w]
    refine clause_by walk_rangeN (fun i H1 => Same H H1 ∧ ∃ ps, H1 D = some (.lst ps) ∧ DpAll K H1 ps ((colsL i d f).map wayD)) ⟨sD, [], upd_same, by show DpAll K _ [] []; exact .nil⟩ (fun _ _ _ _ => True.intro) ?_ ?_
    · rintro i x H1 H1' hi ⟨s1, ps, hD, dps⟩ ⟨rfl, rfl⟩
      have ex : colsL (i + 1) d f = colsL i d f ++ (List.range d).flatMap fun y : Nat => (List.range f).map fun z : Nat => [(i : Int), (y : Int), (z : Int)] := range_snoc _ _
      refine ⟨rfl, ?_⟩
      refine ⟨_, rfl, d, rfl, by omega, by omega, ?_⟩
      rw [show ((d : Int)).toNat = d from Int.toNat_natCast d]
      refine clause_by walk_rangeN (fun j H2 => Same H H2 ∧ ∃ ps, H2 D = some (.lst ps) ∧ DpAll K H2 ps ((colsL i d f ++ (List.range j).flatMap fun y : Nat => (List.range f).map fun z : Nat => [(i : Int), (y : Int), (z : Int)]).map wayD)) ⟨s1, ps, hD, by rw [List.range_zero, List.flatMap_nil, List.append_nil]; exact dps⟩ (fun _ _ _ _ => True.intro) ?_ ?_
      · rintro j x H2 H2' hj ⟨s2, ps2, hD2, dps2⟩ ⟨rfl, rfl⟩
        have ey : (List.range (j + 1)).flatMap (fun y : Nat => (List.range f).map fun z : Nat => [(i : Int), (y : Int), (z : Int)]) = (List.range j).flatMap (fun y : Nat => (List.range f).map fun z : Nat => [(i : Int), (y : Int), (z : Int)]) ++ (List.range f).map fun z : Nat => [(i : Int), (j : Int), (z : Int)] := range_snoc _ _
        refine ⟨rfl, ?_⟩
        refine ⟨_, rfl, f, rfl, by omega, by omega, ?_⟩
        rw [show ((f : Int)).toNat = f from Int.toNat_natCast f]
        refine clause_by walk_rangeN (fun l H3 => Same H H3 ∧ ∃ ps, H3 D = some (.lst ps) ∧ DpAll K H3 ps ((colsL i d f ++ ((List.range j).flatMap (fun y : Nat => (List.range f).map fun z : Nat => [(i : Int), (y : Int), (z : Int)]) ++ (List.range l).map fun z : Nat => [(i : Int), (j : Int), (z : Int)])).map wayD)) ⟨s2, ps2, hD2, by rw [List.range_zero, List.map_nil, List.append_nil]; exact dps2⟩ (fun _ _ _ _ => True.intro) ?_ ?_
        · rintro l x H3 H3' hl ⟨s3, ps3, hD3, dps3⟩ ⟨rfl, rfl⟩
          have lp := mapD_len dps3
          have bd := bound hi hj hl
          have l1 := boxflat_len (q := f) (f := fun y : Nat => (List.range f).map fun z : Nat => [(i : Int), (y : Int), (z : Int)]) (fun y => by rw [List.length_map, List.length_range]) (List.range j)
          simp only [List.length_append, colsL_len, List.length_map, List.length_range] at lp l1
          refine ⟨rfl, ?_⟩
          refine ⟨_, rfl, _, rfl, _, rfl, by show 3 ≤ sizeLine; decide, fun U nU => ?_⟩
          have sU := same_upd (o := .tup [V.int (0 + (i : Int)), V.int (0 + (j : Int)), V.int (0 + (l : Int))]) nU
          have hDU := sU _ _ hD3
          refine ⟨ps3, hDU, small_line (by omega), fun c o z => ?_, ps3 ++ [.ref U], upd_same, ?_⟩
          · rw [upd_ne (ne_of_none z nD)]
            exact sU _ _ (s3 _ _ z)
          · have e3 : colsL i d f ++ ((List.range j).flatMap (fun y : Nat => (List.range f).map fun z : Nat => [(i : Int), (y : Int), (z : Int)]) ++ (List.range (l + 1)).map fun z : Nat => [(i : Int), (j : Int), (z : Int)]) =
                (colsL i d f ++ ((List.range j).flatMap (fun y : Nat => (List.range f).map fun z : Nat => [(i : Int), (y : Int), (z : Int)]) ++ (List.range l).map fun z : Nat => [(i : Int), (j : Int), (z : Int)])) ++ [[(i : Int), (j : Int), (l : Int)]] := by
              rw [List.range_succ, List.map_append, List.append_assoc, List.append_assoc]
              rfl
            rw [e3, List.map_append]
            have dU : Dp K (upd H3' U (.tup [V.int (0 + (i : Int)), V.int (0 + (j : Int)), V.int (0 + (l : Int))])) (.ref U) (wayD [(i : Int), (j : Int), (l : Int)]) := by
              refine of_way (SqT.of ?_)
              rw [upd_same, Int.zero_add, Int.zero_add, Int.zero_add]
              rfl
            exact dpAll_put hDU (dpAll_app (dpAll_same sU dps3) (.cons dU .nil)) (noL_app _ [[(i : Int), (j : Int), (l : Int)]])
        · rintro H3 ⟨s3, ps3, hD3, dps3⟩
          refine ⟨s3, ps3, hD3, ?_⟩
          rw [ey]
          exact dps3
      · rintro H2 ⟨s2, ps2, hD2, dps2⟩
        refine ⟨s2, ps2, hD2, ?_⟩
        rw [ex]
        exact dps2
    · rintro H1 ⟨s1, ps, hD, dps⟩
      exact q D H1 ps s1 nD hD dps
end
section
variable {P : Program} {w : World} {K : PySem.W.Frag} {mg : Str → Option Value} {base : Heap}
theorem hgts_snoc (S : List (List Int)) (x y z h e f g : Int) : hgts (S ++ [[h, e, f, g]]) [x, y, z] = hgts S [x, y, z] ++ (if e ≤ x ∧ f ≤ y ∧ g ≤ z then [h] else []) := by
  unfold hgts
  by_cases c : e ≤ x ∧ f ≤ y ∧ g ≤ z
  · simp only [List.filterMap_append, List.filterMap_cons, List.filterMap_nil, if_pos c]
  · simp only [List.filterMap_append, List.filterMap_cons, List.filterMap_nil, if_neg c]
theorem hgts_len (S : List (List Int)) (c : List Int) : (hgts S c).length ≤ S.length := by
  unfold hgts
  split
  · exact List.length_filterMap_le _ _
  · exact Nat.zero_le _
theorem three_of {l : List Int} (h : l.length = 3) : ∃ a b c, l = [a, b, c] := by
  match l, h with
  | [a, b, c], _ => exact ⟨a, b, c, rfl⟩
def tGe (i j : Nat) : TT := tTest (tOp (rI0 fun i j => .bl (decide (j ≤ i))) (tVar i) (tVar j))
theorem ge_vars {σ : L2.St} {H : Hp} {Q : Bool → Hp → Prop} {i j : Nat} {a e : Int} (h1 : σ[i]? = some (some (.int a))) (h2 : σ[j]? = some (some (.int e))) (q : Q (decide (e ≤ a)) H) : tGe i j σ H Q := ⟨_, h1, _, h2, a, e, rfl, rfl, _, rfl, q⟩
theorem scHeights : FnScope ["stores", "columns", "x", "y", "z", "height", "e", "f", "g"] ["stores", "columns"] (defScope sHeights) := ⟨rfl, rfl, rfl, by decide +kernel, rfl, by decide +kernel, by decide +kernel⟩
theorem ok_heights {f : Addr} {fd : FuncData} {k : Nat} {tk : Tok} (F : Fun K "heights_over" "heights_over" sHeights f fd) (gN : mg "NONE" = some (.int 1000000 tk)) (mm : mg "min" = none) : FnOk P w K mg base CX0 (k + 1) f fd ["stores", "columns"] (spHeights K) := by
  refine F.ok scHeights (fun vs H Q E h => ?_) (fun cdv A outer s0 H vs Q E hr h => ?_)
  · obtain ⟨x, y, S, C, rfl, _⟩ := h
    rfl
  · obtain ⟨x, y, S, C, rfl, hx, hy, s4, c3, lS, lC, q⟩ := h
    refine ⟨_, pss_one (ps_ret (pe_lc (own := [("x", 2), ("y", 3), ("z", 4)]) (g := gTup K 3 (gCons (gName 2) (gCons (gName 3) (gCons (gName 4) gNil)))) (tt := tYes)
        (te := tMinDef K (tLc (iList K (tVar 0)) (gTup K 4 (gCons (gName 5) (gCons (gName 6) (gCons (gName 7) (gCons (gName 8) gNil))))) (tAnd (tGe 2 6) (tAnd (tGe 3 7) (tGe 4 8))) (tVar 5) [5, 6, 7, 8]) (tC (.int 1000000))) rfl scHeights.nd (pi_list (pv 1))
        (blkOk_by (N := ["stores", "columns", "x", "y", "z", "height", "e", "f", "g"]) (sc := defScope sHeights) (by decide +kernel))
        (fun _ _ _ _ _ => by refine pg_tup rfl (pgs_cons ?_ (pgs_cons ?_ (pgs_cons ?_ pgs_nil))); exact pg_name (i := 2) scHeights.nd rfl (.inr rfl); exact pg_name (i := 3) scHeights.nd rfl (.inr rfl); exact pg_name (i := 4) scHeights.nd rfl (.inr rfl))
        (fun _ _ _ _ _ => pts_nil)
        (fun _ _ _ _ _ => by exact (by
          refine pe_minDef rfl hr (by rfl) mm ?_ (pe_glob (v := .int 1000000) (by rfl) gN ⟨_, rfl⟩)
          refine pe_lc (wi := iList K (tVar 0)) (own := [("height", 5), ("e", 6), ("f", 7), ("g", 8)]) (g := gTup K 4 (gCons (gName 5) (gCons (gName 6) (gCons (gName 7) (gCons (gName 8) gNil))))) (tt := tAnd (tGe 2 6) (tAnd (tGe 3 7) (tGe 4 8))) (te := tVar 5) ?_ ?_ ?_ ?_ ?_ ?_ ?_
          · rfl
          · exact scHeights.nd
          · exact pi_list (pv 0)
          · exact blkOk_by (N := ["stores", "columns", "x", "y", "z", "height", "e", "f", "g"]) (sc := lcSc [(".0", .local), ("x", .cell), ("y", .cell), ("z", .cell), ("min", .globalImplicit), ("NONE", .globalImplicit), ("stores", .cell)]) (by decide +kernel)
          · exact fun _ _ _ _ _ => by refine pg_tup rfl (pgs_cons ?_ (pgs_cons ?_ (pgs_cons ?_ (pgs_cons ?_ pgs_nil)))); exact pg_name (i := 5) scHeights.nd rfl (.inl rfl); exact pg_name (i := 6) scHeights.nd rfl (.inl rfl); exact pg_name (i := 7) scHeights.nd rfl (.inl rfl); exact pg_name (i := 8) scHeights.nd rfl (.inl rfl)
          · exact fun _ _ _ _ _ => by exact pts_one (PW.pt (pw_and (pt_cmpR op_ge (pv 2) (pv 6) (nomark _)) (pw_and (pt_cmpR op_ge (pv 3) (pv 7) (nomark _)) (pw_and1 (pt_cmpR op_ge (pv 4) (pv 8) (nomark _))))))
          · exact fun _ _ _ _ _ => by exact pv 5)))), ?_⟩
    obtain ⟨xa, xvs, rfl, hX, xall⟩ := sts_of hx
    obtain ⟨ya, yvs, rfl, hY, yall⟩ := sts_of hy
    have lx := sts_len xall
    have ly := sts_len yall
    refine ⟨_, rfl, ya, rfl, ⟨_, hY⟩, fun D nD => ?_⟩
    have sD := same_upd (o := .lst []) nD
    refine lc_list (K := K) (a := ya) (xs := yvs) (fun j H1 => Same H H1 ∧ H1 D = some (.lst (((C.take j).map (hgt S)).map V.int))) ⟨sD, upd_same⟩ (fun j H1 _ ⟨s1, _⟩ => s1.seq hY) ?_ ?_
    · rintro j v H1 hj ⟨s1, hD⟩
      obtain ⟨c, hc, dc⟩ := sts_get yall hj
      obtain ⟨ca, rfl, hT⟩ := way_of dc
      obtain ⟨x, y, z, rfl⟩ := three_of (c3 c (List.mem_of_getElem? hc))
      have jl := (List.getElem?_eq_some_iff.mp hc).1
      have e0 : wipe [some (V.ref xa), some (V.ref ya), none, none, none, none, none, none, none] [2, 3, 4] = [some (V.ref xa), some (V.ref ya), none, none, none, none, none, none, none] := rfl
      show gTup K 3 (gCons (gName 2) (gCons (gName 3) (gCons (gName 4) gNil))) (.ref ca) (wipe [some (V.ref xa), some (V.ref ya), none, none, none, none, none, none, none] [2, 3, 4]) H1 _
      rw [e0]
      refine ⟨ca, _, rfl, s1.seqT hT, rfl, V.int x, _, rfl, V.int y, _, rfl, V.int z, _, rfl, rfl, ?_⟩
      simp only [List.set_cons_succ, List.set_cons_zero]
      refine ⟨rfl, ?_⟩
      refine ⟨_, rfl, xa, rfl, ⟨_, s1.seq hX⟩, fun G nG => ?_⟩
      have sG := same_upd (o := .lst []) nG
      refine lc_list (K := K) (a := xa) (xs := xvs) (fun t H2 => Same H1 H2 ∧ H2 G = some (.lst ((hgts (S.take t) [x, y, z]).map V.int))) ⟨sG, upd_same⟩ (fun j H2 _ ⟨s2, _⟩ => s2.seq (s1.seq hX)) ?_ ?_
      · rintro t v H2 ht ⟨s2, hG⟩
        obtain ⟨st, hst, ds⟩ := sts_get xall ht
        obtain ⟨sa, rfl, hsT⟩ := way_of ds
        obtain ⟨h, e, f, g, rfl⟩ := four_of (s4 st (List.mem_of_getElem? hst))
        have ll := hgts_len (S.take t) [x, y, z]
        rw [List.length_take] at ll
        have s12 := s1.trans s2
        have e1 : wipe [some (V.ref xa), some (V.ref ya), some (V.int x), some (V.int y), some (V.int z), none, none, none, none] [5, 6, 7, 8] = [some (V.ref xa), some (V.ref ya), some (V.int x), some (V.int y), some (V.int z), none, none, none, none] := rfl
        show gTup K 4 (gCons (gName 5) (gCons (gName 6) (gCons (gName 7) (gCons (gName 8) gNil)))) (.ref sa) (wipe [some (V.ref xa), some (V.ref ya), some (V.int x), some (V.int y), some (V.int z), none, none, none, none] [5, 6, 7, 8]) H2 _
        rw [e1]
        refine ⟨sa, _, rfl, s12.seqT hsT, rfl, V.int h, _, rfl, V.int e, _, rfl, V.int f, _, rfl, V.int g, _, rfl, rfl, ?_⟩
        simp only [List.set_cons_succ, List.set_cons_zero]
        refine ⟨rfl, ?_⟩
        have step := hgts_snoc (S.take t) x y z h e f g
        have no : ¬ (e ≤ x ∧ f ≤ y ∧ g ≤ z) → Same H1 H2 ∧ H2 G = some (.lst ((hgts (S.take (t + 1)) [x, y, z]).map V.int)) := fun n => by
          rw [take_snoc hst, step, if_neg n, List.append_nil]
          exact ⟨s2, hG⟩
        refine ge_vars rfl rfl (ite2 (fun c1 => ?_) fun c1 => ?_)
        · refine ge_vars rfl rfl (ite2 (fun c2 => ?_) fun c2 => ?_)
          · refine ge_vars rfl rfl (ite2 (fun c3 => ?_) fun c3 => ?_)
            · have all : e ≤ x ∧ f ≤ y ∧ g ≤ z := ⟨of_decide_eq_true c1, of_decide_eq_true c2, of_decide_eq_true c3⟩
              refine ⟨_, rfl, _, hG, small_line (by rw [List.length_map]; omega), fun c o zz => ?_, ?_⟩
              · rw [upd_ne (ne_of_none zz nG)]
                exact s2 _ _ zz
              · rw [upd_same, take_snoc hst, step, if_pos all, List.map_append]
                rfl
            · exact no fun n => c3 (decide_eq_true n.2.2)
          · exact no fun n => c2 (decide_eq_true n.2.1)
        · exact no fun n => c1 (decide_eq_true n.1)
      · rintro H2 ⟨s2, hG⟩
        rw [lx, List.take_length] at hG
        refine ⟨G, _, 1000000, rfl, rfl, SqL.of hG, _, s2 _ _ hD, small_line (by rw [List.length_map, List.length_map, List.length_take]; omega), fun c o zz => ?_, ?_⟩
        · rw [upd_ne (ne_of_none zz nD)]
          exact s2 _ _ (s1 _ _ zz)
        · rw [upd_same, take_snoc hc, List.map_append, List.map_append]
          rfl
    · rintro H1 ⟨s1, hD⟩
      rw [ly, List.take_length] at hD
      exact q D H1 s1 nD hD
end
/-! ### zip of a tuple and a list -/
def ItzX (K : PySem.W.Frag) (a b : Addr) : It where
  go i H := ∃ (xs ys : List V) (x y : V), (SqT K H a xs ∧ xs[i]? = some x) ∧ (SqL K H b ys ∧ ys[i]? = some y)
  yld i H v H' := ∃ T x y, v = .ref T ∧ H T = none ∧ H' = upd H T (.tup [x, y]) ∧ (∀ xs, SqT K H a xs → xs[i]? = some x) ∧ ∀ ys, SqL K H b ys → ys[i]? = some y
  stop i H := ∃ xs ys : List V, (SqT K H a xs ∧ SqL K H b ys) ∧ i ≤ xs.length ∧ i ≤ ys.length ∧ (i = xs.length ∨ i = ys.length)
/-- the objects that a zip makes -/
def zxObjs (n l1 l2 : Addr) : List Obj := [{ cls := .type "tuple_iterator", data := .fields #[.ref l1, .int 0 0] }, { cls := .type "list_iterator", data := .fields #[.ref l2, .int 0 0] },
  { cls := .type "tuple", data := .seq #[.ref n, .ref (n + 1)] }, { cls := .type "tuple", data := .seq #[.none, .none] }, { cls := .type "zip", data := .fields #[.none, .bool false, .bool false, .ref (n + 2), .ref (n + 3)] }]
def zxHeap (h : Heap) (l1 l2 : Addr) : Heap := (zxObjs h.objs.size l1 l2).foldl (fun g o => g.push o) h
theorem push_all_size : ∀ (os : List Obj) (h : Heap), (os.foldl (fun g o => g.push o) h).objs.size = h.objs.size + os.length
  | [], _ => rfl
  | o :: os, h => by
    rw [List.foldl_cons, push_all_size os, Heap.size_push, List.length_cons]
    omega
theorem push_all_old : ∀ (os : List Obj) (h : Heap) (c : Addr) (u : Obj), h.get? c = some u → (os.foldl (fun g o => g.push o) h).get? c = some u
  | [], _, _, _, e => e
  | _ :: os, _, _, _, e => push_all_old os _ _ _ (Heap.get?_push_of_some _ e)
theorem push_all_new : ∀ (os : List Obj) (h : Heap) (i : Nat) (o : Obj), os[i]? = some o → o.isFreed = false → (os.foldl (fun g o => g.push o) h).get? (h.objs.size + i) = some o
  | [], _, _, _, e, _ => nomatch e
  | u :: os, h, 0, o, e, nf => by
    cases e
    exact push_all_old os _ _ _ (Heap.get?_push_size _ nf)
  | u :: os, h, i + 1, o, e, nf => by
    have q := push_all_new os (h.push u) i o (by simpa using e) nf
    rw [Heap.size_push] at q
    rw [List.foldl_cons, show h.objs.size + (i + 1) = h.objs.size + 1 + i by omega]
    exact q
theorem meets_zx (l1 l2 : Addr) (xs ys : Array Value) : Meets (Builtin.«zip.__new__» ⟨[.type "zip", .ref l1, .ref l2], []⟩)
    (fun _ R s => (s.heap.IsTuple l1 xs ∧ s.heap.IsList l2 ys) ∧ R (.ok (.ret (.ref (s.heap.objs.size + 4)))) { s with heap := zxHeap s.heap l1 l2 }) :=
  .of_wp fun prog w A R s h => by
    obtain ⟨hp, g, d, tk, os⟩ := s
    obtain ⟨⟨t1, t2⟩, h⟩ := h
    have known := sub_zip
    have T1 : Heap.IsTuple (Shared.heap ⟨hp, g, d, tk, os⟩) l1 xs := t1
    have T2 : Heap.IsList (Shared.heap ⟨hp.push { cls := .type "tuple_iterator", data := .fields #[.ref l1, .int 0 0] }, g, d, tk, os⟩) l2 ys := Heap.IsList.push t2 _
    wp_walk using wpAny_pyIter_tuple T1, wpAny_pyIter_list T2
    simp only [Heap.size_push]
    exact ⟨_, rfl, h⟩
theorem call_zx {prog : Program} {w : World} {A : Around} {E : Value → Shared → Prop} {s : Shared} {l1 l2 : Addr} {xs ys : Array Value} {Q : Value → Shared → Prop} (h1 : s.heap.IsTuple l1 xs) (h2 : s.heap.IsList l2 ys)
    (q : Q (.ref (s.heap.objs.size + 4)) { s with heap := zxHeap s.heap l1 l2 }) : wpAny (model prog w) A (call (.type "zip") [.ref l1, .ref l2]) Q E s := by
  refine callType_new F.called_zip (by decide) (F.typeCall_zip_2 _ _) (F.newCall_zip_2 _ _) (fun o => F.args_object_init_3 o _ _) F.entry_zip_new (meets_zx l1 l2 xs ys) ⟨⟨h1, h2⟩, ?_⟩
  have z : (zxHeap s.heap l1 l2).get? (s.heap.objs.size + 4) = some { cls := .type "zip", data := .fields #[.none, .bool false, .bool false, .ref (s.heap.objs.size + 2), .ref (s.heap.objs.size + 3)] } := push_all_new _ _ 4 _ rfl rfl
  exact ⟨⟨_, z, rfl⟩, q⟩
theorem turn_zx {P : Program} {w : World} {K : PySem.W.Frag} {elts : List Expr} {kk : Nat} {tpos : Pos} {a b z TI TO i1 i2 : Addr} (D : ZipSep2 z TI TO i1 i2 [i1, a] [i2, b]) (n1 : a ≠ i1) (n2 : b ≠ i2) :
    Turn P w K (.Tuple elts kk tpos) (ItzX K a b) [z, TI, TO, i1, i2] z (fun i h => IsZip h z TI TO .none ∧ IsTupOf2 h TI (.ref i1) (.ref i2) ∧ (∃ x y, IsTupOf2 h TO x y) ∧ h.IsTupleIter i1 a i ∧ h.IsListIter i2 b i) where
  mem := List.mem_cons_self
  obj := by
    rintro i h ⟨hz, hTI, ⟨x, y, hTO⟩, ⟨o1, e1, _, d1⟩, ⟨o2, e2, _, d2⟩⟩ c hc
    simp only [List.mem_cons, List.not_mem_nil, or_false] at hc
    rcases hc with rfl | rfl | rfl | rfl | rfl
    · exact ⟨_, hz, fun v q => nomatch q⟩
    · exact ⟨_, hTI, fun v q => nomatch q⟩
    · exact ⟨_, hTO, fun v q => nomatch q⟩
    · exact ⟨o1, e1, fun v q => by rw [d1] at q; cases q⟩
    · exact ⟨o2, e2, fun v q => by rw [d2] at q; cases q⟩
  keep := by
    rintro i h h' ⟨hz, hTI, ⟨x, y, hTO⟩, h1, h2⟩ k
    refine ⟨k z (by simp) _ hz, k TI (by simp) _ hTI, ⟨x, y, k TO (by simp) _ hTO⟩, h1.at fun o q => k i1 (by simp) o q, h2.at fun o q => k i2 (by simp) o q⟩
  item := by
    intro X eP ew eK hc i pins s σ H E I free st go
    subst eP ew eK
    obtain ⟨hz, hTI, ⟨x0, y0, hTO⟩, h1, h2⟩ := st
    obtain ⟨us, vs, x, y, ⟨hu, eu⟩, ⟨hv, ev⟩⟩ := go
    obtain ⟨its, ru, pu, _⟩ := I.tuple hu
    obtain ⟨its2, rv, pv, _⟩ := I.list hv
    have hh := I.ok.hd hc
    have il : i < its.toArray.size := by rw [List.size_toArray, ← ru.length]; exact (List.getElem?_eq_some_iff.mp eu).1
    have il2 : i < its2.toArray.size := by rw [List.size_toArray, ← rv.length]; exact (List.getElem?_eq_some_iff.mp ev).1
    have zl : z < s.heap.objs.size := Heap.lt_size hz
    refine wpAny_pyNext_zipD2_item D (draws_tuple (A := X.A.in1) hh i1 a n1 its.toArray) (Draws.list (A := X.A.in1) hh i2 b n2 its2.toArray) hz hTI hTO ⟨h1, pu⟩ ⟨h2, pv.isList⟩ il il2 fun x1 x2 h' tk e1 e2 z' TO' s1 s2 hT sz keep => ?_
    refine ⟨_, rfl, wpAny_letOwnedTupleGo_zip (s := { s with heap := h', toks := tk }) z' fun h'' z'' sb => ?_⟩
    obtain ⟨w1, hw1, r1⟩ := ru.get eu
    obtain ⟨w2, hw2, r2⟩ := rv.get ev
    have q1 : w1 = x1 := Option.some.inj (hw1.symm.trans (by simpa using e1))
    have q2 : w2 = x2 := Option.some.inj (hw2.symm.trans (by simpa using e2))
    subst q1
    subst q2
    have made : h''.get? s.heap.objs.size = some { cls := .type "tuple", data := .seq #[w1, w2] } := (sb.2 _ (Nat.ne_of_gt zl)).trans hT
    have new : ObjOk X.prog X.w (upd H s.heap.objs.size (.tup [x, y])) h'' s.heap.objs.size (.tup [x, y]) := ⟨by show 2 ≤ sizeLine; decide, [w1, w2], .cons r1 (.cons r2 .nil), ⟨_, made, rfl, _, rfl⟩⟩
    have I1 : Inv X pins σ (upd H s.heap.objs.size (.tup [x, y])) { s with heap := h'', toks := tk } := by
      refine I.turnedNew (t' := tk) (ch := [z, TI, TO, i1, i2]) (fun c o out e => ?_) free (Nat.le_refl _) new
      simp only [List.mem_cons, List.not_mem_nil, or_false, not_or] at out
      exact (sb.2 c out.1).trans (keep c o out.1 out.2.2.1 out.2.2.2.1 out.2.2.2.2 e)
    refine ⟨.ref s.heap.objs.size, _, I1, rfl, ⟨_, x, y, rfl, I.hok.fresh (Nat.le_refl _), rfl, fun l hl => by rw [I.tuple_inj hl hu]; exact eu, fun l hl => by rw [I.list_inj hl hv]; exact ev⟩, ⟨z'', ?_, ⟨w1, w2, ?_⟩, ?_, ?_⟩, fun c hcm => ?_⟩
    · exact (sb.2 _ D.TIz).trans (keep _ _ D.TIz D.TITO D.TIi1 D.TIi2 hTI)
    · exact (sb.2 _ D.TOz).trans TO'
    · exact s1.1.at fun o q => (sb.2 _ (Ne.symm D.zi1)).trans q
    · exact s2.1.at fun o q => (sb.2 _ (Ne.symm D.zi2)).trans q
    · have lt : c < s.heap.objs.size := by
        simp only [List.mem_cons, List.not_mem_nil, or_false] at hcm
        rcases hcm with rfl | rfl | rfl | rfl | rfl
        · exact zl
        · exact Heap.lt_size hTI
        · exact Heap.lt_size hTO
        · exact h1.elim fun _ e => Heap.lt_size e.1
        · exact h2.elim fun _ e => Heap.lt_size e.1
      rw [upd_ne (Nat.ne_of_lt lt)]
      exact (free c hcm).1
  done := by
    intro X eP ew eK hc i pins s σ H E I free st go
    subst eP ew eK
    obtain ⟨hz, hTI, ⟨x0, y0, hTO⟩, h1, h2⟩ := st
    obtain ⟨us, vs, ⟨hu, hv⟩, l1, l2, over⟩ := go
    obtain ⟨its, ru, pu, _⟩ := I.tuple hu
    obtain ⟨its2, rv, pv, _⟩ := I.list hv
    have hh := I.ok.hd hc
    have e1 : its.toArray.size = us.length := by rw [List.size_toArray, ru.length]
    have e2 : its2.toArray.size = vs.length := by rw [List.size_toArray, rv.length]
    refine wpAny_pyNext_zipD2_end D (draws_tuple (A := X.A.in1) hh i1 a n1 its.toArray) (Draws.list (A := X.A.in1) hh i2 b n2 its2.toArray) hz hTI hTO ⟨h1, pu⟩ ⟨h2, pv.isList⟩ (by rw [e1]; exact l1) (by rw [e2]; exact l2) (by rw [e1, e2]; exact over) fun h' tk keep => ⟨rfl, ?_⟩
    refine I.turnedL (t' := tk) (ch := [z, TI, TO, i1, i2]) (fun c o out e => ?_) free
    simp only [List.mem_cons, List.not_mem_nil, or_false, not_or] at out
    exact keep c o out.1 out.2.2.1 out.2.2.2.1 out.2.2.2.2 e
  self := fun A i s Q E st h => wpAny_pyIter_zip st.1 h
def iZx (K : PySem.W.Frag) (ta : TA) : TI := fun σ H R => ta σ H fun vs H1 => ∃ a b xs ys, vs = [.ref a, .ref b] ∧ (SqT K H1 a xs ∧ SqL K H1 b ys) ∧ R (ItzX K a b) H1
theorem nin2 {c x y : Nat} (h1 : c ≠ x) (h2 : c ≠ y) : c ∉ [x, y] := fun h => by
  rcases List.mem_cons.mp h with e | h
  · exact h1 e
  · exact h2 (List.mem_singleton.mp h)
theorem zx_sep {n a b : Nat} (la : a < n) (lb : b < n) : ZipSep2 (n + 4) (n + 2) (n + 3) n (n + 1) [n, a] [n + 1, b] where
  TIz := show n + 2 ≠ n + 4 by omega
  TOz := show n + 3 ≠ n + 4 by omega
  TITO := show n + 2 ≠ n + 3 by omega
  TIi1 := show n + 2 ≠ n by omega
  mem1 := List.mem_cons_self
  zf1 := nin2 (show n + 4 ≠ n by omega) (show n + 4 ≠ a by omega)
  Tf1 := nin2 (show n + 3 ≠ n by omega) (show n + 3 ≠ a by omega)
  TIi2 := show n + 2 ≠ n + 1 by omega
  mem2 := List.mem_cons_self
  zf2 := nin2 (show n + 4 ≠ n + 1 by omega) (show n + 4 ≠ b by omega)
  Tf2 := nin2 (show n + 3 ≠ n + 1 by omega) (show n + 3 ≠ b by omega)
  sep1_2 := nin2 (show n ≠ n + 1 by omega) (show n ≠ b by omega)
  sep2_1 := nin2 (show n + 1 ≠ n by omega) (show n + 1 ≠ a by omega)
theorem pi_zx {X : Cx} {e e2 : Expr} {ta : TA} {p pos tpos : Pos} {elts : List Expr} {kk : Nat} (hg : Gl X "zip") (hm : X.mg "zip" = none) (ha : PA X [e, e2] ta)
    (h1 : starEach [e, e2] X.env = (false, eval e X.env) :: starEach [e2] X.env := by rfl) (h2 : (backTo pos (starEach [e2] X.env)).any (·.1) = false := by rfl) :
    PI X (.Tuple elts kk tpos) (.Call (.Name "zip" p) [e, e2] [] pos) (iZx X.K ta) := by
  refine ⟨fun pins s σ H R I h => ?_⟩
  have args := ha.run pos pins s σ H _ I h
  refine Call_ (ld_blt I hg hm PyProof.Rows.boot_zip (PyProof.Rows.callWith_type1 (thn args fun us s1 ⟨vs, H1, I1, r1, a, b, xs, ys, ev, ⟨hu, hv⟩, q⟩ => ?_) h1 h2))
  subst ev
  cases r1 with
  | cons ru rr =>
  cases rr with
  | cons rv rr =>
    cases rr
    cases ru
    cases rv
    obtain ⟨its, _, pu, _⟩ := I1.tuple hu
    obtain ⟨its2, _, pv, _⟩ := I1.list hv
    have la : a < s1.heap.objs.size := (show s1.heap.IsTuple a its.toArray from pu).elim fun _ e => Heap.lt_size e.1
    have lb : b < s1.heap.objs.size := pv.lt
    refine call_zx (show s1.heap.IsTuple a its.toArray from pu) pv.isList ?_
    have at_ : ∀ (i : Nat) (o : Obj), (zxObjs s1.heap.objs.size a b)[i]? = some o → o.isFreed = false → (zxHeap s1.heap a b).get? (s1.heap.objs.size + i) = some o := fun i o e f => push_all_new _ _ i o e f
    have hz : IsZip (zxHeap s1.heap a b) (s1.heap.objs.size + 4) (s1.heap.objs.size + 2) (s1.heap.objs.size + 3) .none := at_ 4 _ rfl rfl
    have old : ∀ c o, s1.heap.get? c = some o → (zxHeap s1.heap a b).get? c = some o := fun c o e => push_all_old _ _ c o e
    have I2 : Inv X pins σ H1 { s1 with heap := zxHeap s1.heap a b } := I1.kept (t' := s1.toks) old
    refine wpAny_pyIter_zip (s := { s1 with heap := zxHeap s1.heap a b }) hz ?_
    have sep := zx_sep la lb
    refine ⟨s1.heap.objs.size + 4, [s1.heap.objs.size + 4, s1.heap.objs.size + 2, s1.heap.objs.size + 3, s1.heap.objs.size, s1.heap.objs.size + 1], _, _, H1, rfl, I2, turn_zx sep (Nat.ne_of_lt la) (Nat.ne_of_lt (Nat.lt_succ_of_lt lb)), ⟨hz, at_ 2 _ rfl rfl, ⟨_, _, at_ 3 _ rfl rfl⟩, ⟨_, at_ 0 _ rfl rfl, rfl, rfl⟩, ⟨_, at_ 1 _ rfl rfl, rfl, rfl⟩⟩, fun c hc => ?_, q⟩
    have ge : s1.heap.objs.size ≤ c := by
      simp only [List.mem_cons, List.not_mem_nil, or_false] at hc
      rcases hc with rfl | rfl | rfl | rfl | rfl
      · exact Nat.le_add_right _ 4
      · exact Nat.le_add_right _ 2
      · exact Nat.le_add_right _ 3
      · exact Nat.le_refl _
      · exact Nat.le_add_right _ 1
    exact I1.fpOk ge (I1.hok.fresh ge)
theorem walk_zx {K : PySem.W.Frag} {a b : Addr} {xs ys : List V} {n : Nat} (l1 : xs.length = n) (l2 : ys.length = n) : Walk (ItzX K a b) n (fun H => SqT K H a xs ∧ SqL K H b ys) (YPair (fun i => xs[i]?) (fun i => ys[i]?)) := by
  refine ⟨fun i H hi q => ?_, fun H q => ⟨xs, ys, q, by omega, by omega, .inl l1.symm⟩, fun i H v H' _ q y => ?_⟩
  · have h1 : i < xs.length := by omega
    have h2 : i < ys.length := by omega
    exact ⟨xs, ys, xs[i], ys[i], ⟨q.1, by simp [h1]⟩, ⟨q.2, by simp [h2]⟩⟩
  · obtain ⟨T, x, z, e1, e2, e3, e4, e5⟩ := y
    exact ⟨T, x, z, e1, e2, e3, e4 xs q.1, e5 ys q.2⟩
/-! ### where a way leads from each column -/
def sLedTo : Stmt := topS 19
def ledStep (acc : List Int) (w : Int) (s : Nat) : List Int := acc.flatMap fun c => (List.range s).map fun th : Nat => if c = -1 ∨ min ((s : Int) - 1) ((th : Int) + w) < 0 then -1 else c * s + min ((s : Int) - 1) ((th : Int) + w)
def ledL (w1 w2 w3 : Int) (s1 s2 s3 : Nat) : List Int := ledStep (ledStep (ledStep [0] w1 s1) w2 s2) w3 s3
def ledF (first : Nat) (L : List Int) : List Int := L.map fun c => if c = -1 then -1 else (first : Int) + c
theorem ledStep_len {acc : List Int} {w : Int} {s : Nat} : (ledStep acc w s).length = acc.length * s := boxflat_len (fun c => by rw [List.length_map, List.length_range]) acc
def SidesOk (s1 s2 s3 : Nat) : Prop := 1 ≤ s1 ∧ 1 ≤ s2 ∧ 1 ≤ s3 ∧ s1 ≤ 1000 ∧ s2 ≤ 1000 ∧ s3 ≤ 1000 ∧ s1 * (s2 * s3) ≤ 50000
def spLedTo (K : PySem.W.Frag) : Sp := fun vs H Q _ => ∃ (x : V) (a : Addr) (w0 w1 w2 w3 : Int) (s1 s2 s3 first : Nat), vs = [x, .ref a, .int (first : Int)] ∧ Dp K H x (wayD [w0, w1, w2, w3]) ∧ SqL K H a [.int (s1 : Int), .int (s2 : Int), .int (s3 : Int)] ∧ SidesOk s1 s2 s3 ∧
  ∀ q H', Same H H' → H q = none → H' q = some (.lst ((ledF first (ledL w1 w2 w3 s1 s2 s3)).map V.int)) → Q (.ref q) H'
abbrev rMinI : List V → Hp → VK → Prop := fun xs H Q => ∃ i j, xs = [.int i, .int j] ∧ Q (.int (if j < i then j else i)) H
/-- all numbers of a step are columns, or none -/
theorem ledStep_in {acc : List Int} {w : Int} {s n : Nat} (hs : 1 ≤ s) (h : ∀ c ∈ acc, -1 ≤ c ∧ c < n) : ∀ c ∈ ledStep acc w s, -1 ≤ c ∧ c < ((n * s : Nat) : Int) := fun c hc => by
  obtain ⟨d, hd, hc⟩ := List.mem_flatMap.mp hc
  obtain ⟨th, hth, rfl⟩ := List.mem_map.mp hc
  obtain ⟨d1, d2⟩ := h d hd
  have pos : (0 : Int) ≤ ((n * s : Nat) : Int) := by omega
  by_cases z : d = -1 ∨ min ((s : Int) - 1) ((th : Int) + w) < 0
  · rw [if_pos z]
    omega
  · rw [if_neg z]
    have z1 : ¬ d = -1 := fun e => z (.inl e)
    have z2 : ¬ min ((s : Int) - 1) ((th : Int) + w) < 0 := fun e => z (.inr e)
    have p1 : 0 ≤ d * (s : Int) := Int.mul_nonneg (by omega) (by omega)
    have p2 : d * (s : Int) ≤ ((n : Int) - 1) * s := Int.mul_le_mul_of_nonneg_right (by omega) (by omega)
    rw [Int.sub_mul, Int.one_mul] at p2
    rw [Int.natCast_mul]
    omega
section
variable {P : Program} {w : World} {K : PySem.W.Frag} {mg : Str → Option Value} {base : Heap}
theorem scLedTo : FnScope ["way", "sides", "first", "found", "change", "side", "reached", "there", "column"] ["way", "sides", "first"] (defScope sLedTo) := ⟨rfl, rfl, rfl, by decide +kernel, rfl, by decide +kernel, by decide +kernel⟩
theorem ok_ledTo {f : Addr} {fd : FuncData} {k : Nat} {tk : Tok} (F : Fun K "columns_led_to" "columns_led_to" sLedTo f fd) (gN : mg "NOWHERE" = some (.int (-1) tk)) (mz : mg "zip" = none) (mr : mg "range" = none) (mm : mg "min" = none) :
    FnOk P w K mg base CX0 (k + 1) f fd ["way", "sides", "first"] (spLedTo K) := by
  refine F.ok scLedTo (fun vs H Q E h => ?_) (fun cdv A outer s0 H vs Q E hr h => ?_)
  · obtain ⟨x, a, w0, w1, w2, w3, s1, s2, s3, first, rfl, _⟩ := h
    rfl
  · obtain ⟨x, a, w0, w1, w2, w3, s1, s2, s3, first, rfl, hx, ha, so, q⟩ := h
    refine ⟨_, pss_cons (ps_set (i := 3) scLedTo.nd rfl (.inl rfl) (pe_lst (pa_cons pe_int pa_nil)))
      (pss_cons (ps_for PassesOwn.never rfl (pi_zx (by rfl) mz (pa_cons (pe_slice (r := rSlA K) sl_tupA (pv 0) (po_some pe_int) po_none) (pa_cons (pv 1) pa_nil))) (pg_tup rfl (pgs_cons (pg_name (i := 4) scLedTo.nd rfl (.inr rfl)) (pgs_cons (pg_name (i := 5) scLedTo.nd rfl (.inr rfl)) pgs_nil)))
        (pss_cons (ps_set (i := 6) scLedTo.nd rfl (.inr rfl) (pe_lc (own := [("there", 7)]) (g := gName 7) (tt := tYes) (te := tCB rMinI (tCons (tOp (rI0 fun i j => .int (i - j)) (tVar 5) (tC (.int 1))) (tCons (tOp (rI0 fun i j => .int (i + j)) (tVar 7) (tVar 4)) tNil))) rfl scLedTo.nd (pi_range1 (by rfl) mr (pa_cons (pv 5) pa_nil))
            (blkOk_by (N := ["way", "sides", "first", "found", "change", "side", "reached", "there", "column"]) (sc := defScope sLedTo) (by decide +kernel))
            (fun _ _ _ _ _ => by exact pg_name (i := 7) scLedTo.nd rfl (.inl rfl)) (fun _ _ _ _ _ => pts_nil)
            (fun _ _ _ _ _ => by exact pe_callB (call_min2 rfl) (by rfl) mm (by decide +kernel) (pa_cons (pe_op op_sub (pv 5) pe_int) (pa_cons (pe_op op_add (pv 7) (pv 4)) pa_nil)))))
        (pss_one (ps_setLc2 (i := 3) (own := [("column", 8), ("there", 7)]) (vs1 := [7]) (g := gName 8) (tt := tYes) (g1 := gName 7) (tt1 := tYes) (wi1 := iList K (tVar 6))
            (te := tIf (tOr (tTest (tOp rEq (tVar 8) (tC (.int (-1))))) (tTest (tOp (rI0 fun i j => .bl (decide (i < j))) (tVar 7) (tC (.int 0))))) (tC (.int (-1))) (tOp (rI0 fun i j => .int (i + j)) (tOp (rI CMul fun i j => .int (i * j)) (tVar 8) (tVar 5)) (tVar 7)))
            rfl scLedTo.nd rfl rfl (sw_true rfl rfl rfl (by decide +kernel)) (pi_list (pv 3))
            (blkOk_by (N := ["way", "sides", "first", "found", "change", "side", "reached", "there", "column"]) (sc := defScope sLedTo) (by decide +kernel)) (by decide)
            (fun _ _ _ _ _ => by exact pg_name (i := 8) scLedTo.nd rfl (.inl rfl)) (fun _ _ _ _ _ => pts_nil)
            (fun _ _ _ _ _ => by exact pi_list (pv 6)) (fun _ _ _ _ _ => by exact pg_name (i := 7) scLedTo.nd rfl (.inl rfl)) (fun _ _ _ _ _ => pts_nil)
            (fun _ _ _ _ _ => by exact pe_ifExp (PW.pt (pw_or (pt_cmpR op_eq (pv 8) (pe_glob (v := .int (-1)) (by rfl) gN ⟨_, rfl⟩) (nomark _)) (pw_or1 (pt_cmpR op_lt (pv 7) pe_int (nomark _))))) (pe_glob (v := .int (-1)) (by rfl) gN ⟨_, rfl⟩) (pe_op op_add (pe_op op_mul (pv 8) (pv 5)) (pv 7)))))))
      (pss_one (ps_ret (pe_lc (own := [("column", 8)]) (g := gName 8) (tt := tYes) (te := tIf (tTest (tOp rEq (tVar 8) (tC (.int (-1))))) (tC (.int (-1))) (tOp (rI0 fun i j => .int (i + j)) (tVar 2) (tVar 8))) rfl scLedTo.nd (pi_list (pv 3))
            (blkOk_by (N := ["way", "sides", "first", "found", "change", "side", "reached", "there", "column"]) (sc := defScope sLedTo) (by decide +kernel))
            (fun _ _ _ _ _ => by exact pg_name (i := 8) scLedTo.nd rfl (.inl rfl)) (fun _ _ _ _ _ => pts_nil)
            (fun _ _ _ _ _ => by exact pe_ifExp (pt_cmpR op_eq (pv 8) (pe_glob (v := .int (-1)) (by rfl) gN ⟨_, rfl⟩) (nomark _)) (pe_glob (v := .int (-1)) (by rfl) gN ⟨_, rfl⟩) (pe_op op_add (pv 2) (pv 8))))))), ?_⟩
    obtain ⟨o1, o2, o3, u1, u2, u3, few⟩ := so
    obtain ⟨xa, rfl, hX⟩ := way_of hx
    refine ⟨by show 1 ≤ sizeLine; decide, fun F0 nF => ?_⟩
    have sF := same_upd (o := .lst [V.int 0]) nF
    refine ⟨_, rfl, _, rfl, xa, _, rfl, sF.seqT hX, fun c => ?_, fun c p np => ?_⟩
    · exact absurd (show HT.sIx 4 0 (some ((1 : Nat) : Int)) = 0 from c.1) (by rw [HT.sIx_nat]; decide)
    have sp := same_upd (o := .tup (cutV (List.map V.int [w0, w1, w2, w3]) (some 1) none)) np
    have hp : SqT K (upd (upd H F0 (.lst [V.int 0])) p (.tup (cutV (List.map V.int [w0, w1, w2, w3]) (some 1) none))) p [V.int w1, V.int w2, V.int w3] := SqT.of upd_same
    have sFp := sF.trans sp
    have hF0 := sp _ _ (upd_same (H := H) (a := F0) (o := .lst [V.int 0]))
    generalize hH1 : upd (upd H F0 (.lst [V.int 0])) p (.tup (cutV (List.map V.int [w0, w1, w2, w3]) (some 1) none)) = H1 at sp hp sFp hF0 ⊢
    refine ⟨_, rfl, p, a, _, _, rfl, ⟨hp, sFp.seq ha⟩, ?_⟩
    -- the three steps
    have ps_at : ∀ (j : Nat) (x1 x2 : V), [V.int w1, V.int w2, V.int w3][j]? = some x1 → [V.int (s1 : Int), V.int (s2 : Int), V.int (s3 : Int)][j]? = some x2 → ∃ (w : Int) (s : Nat), x1 = .int w ∧ x2 = .int (s : Int) ∧ [(w1, s1), (w2, s2), (w3, s3)][j]? = some (w, s) ∧ 1 ≤ s ∧ s ≤ 1000 := fun j x1 x2 h1 h2 => by
      match j, h1, h2 with
      | 0, h1, h2 => cases h1; cases h2; exact ⟨_, _, rfl, rfl, rfl, o1, u1⟩
      | 1, h1, h2 => cases h1; cases h2; exact ⟨_, _, rfl, rfl, rfl, o2, u2⟩
      | 2, h1, h2 => cases h1; cases h2; exact ⟨_, _, rfl, rfl, rfl, o3, u3⟩
    let acc : Nat → List Int := fun j => ([(w1, s1), (w2, s2), (w3, s3)].take j).foldl (fun c q => ledStep c q.1 q.2) [0]
    let sz : Nat → Nat := fun j => ([(w1, s1), (w2, s2), (w3, s3)].take j).foldl (fun n q => n * q.2) 1
    have acc_next : ∀ {j w s}, [(w1, s1), (w2, s2), (w3, s3)][j]? = some (w, s) → acc (j + 1) = ledStep (acc j) w s ∧ sz (j + 1) = sz j * s := fun {j w s} e => by
      show ([(w1, s1), (w2, s2), (w3, s3)].take (j + 1)).foldl _ _ = _ ∧ ([(w1, s1), (w2, s2), (w3, s3)].take (j + 1)).foldl _ _ = _
      rw [take_snoc e, List.foldl_append, List.foldl_append]
      exact ⟨rfl, rfl⟩
    have sz_few : ∀ j, j ≤ 3 → sz j ≤ 50000 := fun j hj => by
      have a1 : s1 ≤ s1 * (s2 * s3) := Nat.le_mul_of_pos_right _ (Nat.mul_pos o2 o3)
      have a2 : s1 * s2 ≤ s1 * (s2 * s3) := Nat.mul_le_mul_left _ (Nat.le_mul_of_pos_right _ o3)
      match j, hj with
      | 0, _ => show 1 ≤ 50000; decide
      | 1, _ => show 1 * s1 ≤ 50000; omega
      | 2, _ => show 1 * s1 * s2 ≤ 50000; rw [Nat.one_mul]; omega
      | 3, _ => show 1 * s1 * s2 * s3 ≤ 50000; rw [Nat.one_mul, Nat.mul_assoc]; exact few
    refine for_it (walk_zx (K := K) (a := p) (b := a) (xs := [V.int w1, V.int w2, V.int w3]) (ys := [V.int (s1 : Int), V.int (s2 : Int), V.int (s3 : Int)]) (n := 3) rfl rfl)
      (fun j σ H2 => ∃ (G : Addr) (y4 y5 y6 : Option V), σ = [some (.ref xa), some (.ref a), some (.int (first : Int)), some (.ref G), y4, y5, y6, none, none] ∧ Same H1 H2 ∧ H2 G = some (.lst ((acc j).map V.int)) ∧ (acc j).length = sz j ∧ ∀ c ∈ acc j, -1 ≤ c ∧ c < ((sz j : Nat) : Int))
      ⟨F0, none, none, none, rfl, Same.refl _, hF0, rfl, fun c hc => by rw [List.mem_singleton.mp hc]; exact ⟨by decide, show (0 : Int) < ((1 : Nat) : Int) by decide⟩⟩ (fun j σ H2 _ ⟨_, _, _, _, _, s2', _⟩ => ⟨s2'.seqT hp, (sFp.trans s2').seq ha⟩) ?_ ?_
    · rintro j v σ H2 H2' hj ⟨G, y4, y5, y6, rfl, sm, hG, la, ia⟩ ⟨T, x1, x2, rfl, nT, rfl, f1, f2⟩
      obtain ⟨w, s, rfl, rfl, e, os, us⟩ := ps_at j x1 x2 f1 f2
      obtain ⟨e1, e2⟩ := acc_next e
      have n1 := sz_few j (by omega)
      have n2 := sz_few (j + 1) (by omega)
      have sT := same_upd (o := .tup [V.int w, V.int (s : Int)]) nT
      have hG' := sT _ _ hG
      refine ⟨T, _, rfl, SqT.of upd_same, rfl, _, _, rfl, _, _, rfl, rfl, ?_⟩
      simp only [List.set_cons_succ, List.set_cons_zero]
      -- reached
      refine ⟨_, rfl, (s : Int), rfl, by omega, by omega, fun D nD => ?_⟩
      have sD := same_upd (o := .lst []) nD
      rw [show ((s : Int)).toNat = s from Int.toNat_natCast s]
      refine lc_range (lo := 0) (n := s) (fun i H3 => Same (upd H2 T (.tup [V.int w, V.int (s : Int)])) H3 ∧ H3 D = some (.lst (((List.range i).map fun th : Nat => min ((s : Int) - 1) ((th : Int) + w)).map V.int))) ⟨sD, upd_same⟩ ?_ ?_
      · rintro i H3 hi ⟨s3', hD⟩
        refine ⟨rfl, ?_⟩
        refine ⟨_, rfl, _, _, rfl, rfl, _, rfl, _, rfl, _, _, rfl, rfl, _, _, rfl, ?_⟩
        refine ⟨_, hD, small_line (by rw [List.length_map, List.length_map, List.length_range]; omega), fun c o z => ?_, ?_⟩
        · rw [upd_ne (ne_of_none z nD)]
          exact s3' _ _ z
        · have em : (if (0 + (i : Int)) + w < (s : Int) - 1 then (0 + (i : Int)) + w else (s : Int) - 1) = min ((s : Int) - 1) ((i : Int) + w) := by
            rw [Int.zero_add]
            split <;> omega
          rw [upd_same, em, List.range_succ, List.map_append, List.map_append]
          rfl
      rintro H3 ⟨s3', hD⟩
      -- found
      have hG3 := s3' _ _ hG'
      refine ⟨_, rfl, G, rfl, ⟨_, SqL.of hG3⟩, fun D2 nD2 => ?_⟩
      have sD2 := same_upd (o := .lst []) nD2
      have rch : ∀ (l : Nat) (v : V), (((List.range s).map fun th : Nat => min ((s : Int) - 1) ((th : Int) + w)).map V.int)[l]? = some v → l < s ∧ v = .int (min ((s : Int) - 1) ((l : Int) + w)) := fun l v hv => by
        rw [List.getElem?_map, List.getElem?_map] at hv
        obtain ⟨m, hm, rfl⟩ := Option.map_eq_some_iff.mp hv
        obtain ⟨n, hn, rfl⟩ := Option.map_eq_some_iff.mp hm
        have lt := (List.getElem?_eq_some_iff.mp hn).1
        rw [List.length_range] at lt
        rw [List.getElem?_range lt] at hn
        cases hn
        exact ⟨lt, rfl⟩
      let part : Int → Nat → List Int := fun c l => (List.range l).map fun th : Nat => if c = -1 ∨ min ((s : Int) - 1) ((th : Int) + w) < 0 then -1 else c * s + min ((s : Int) - 1) ((th : Int) + w)
      have lpart : ∀ c l, (part c l).length = l := fun c l => by
        show ((List.range l).map _).length = l
        rw [List.length_map, List.length_range]
      refine walk_gen (walk_list (K := K) (a := G) (xs := (acc j).map V.int)) _ (fun i H4 => Same H3 H4 ∧ H4 D2 = some (.lst ((ledStep ((acc j).take i) w s).map V.int))) ⟨sD2, upd_same⟩ (fun i H4 _ ⟨s4', _⟩ => SqL.of (s4' _ _ hG3)) ?_ ?_
      · rintro i v H4 H4' hi ⟨s4', hD4⟩ ⟨rfl, hv⟩
        obtain ⟨c, hc, rfl⟩ := ints_get hv
        obtain ⟨c1, c2⟩ := ia c (List.mem_of_getElem? hc)
        have il := (List.getElem?_eq_some_iff.mp hc).1
        have lf := ledStep_len (acc := (acc j).take i) (w := w) (s := s)
        rw [List.length_take, Nat.min_eq_left (by omega)] at lf
        have mul : (i + 1) * s ≤ sz j * s := Nat.mul_le_mul_right _ (by omega)
        rw [← e2, Nat.succ_mul] at mul
        refine ⟨rfl, ?_⟩
        refine ⟨_, rfl, D, rfl, ⟨_, SqL.of (s4' _ _ hD)⟩, ?_⟩
        refine walk_gen (walk_list (K := K) (a := D) (xs := ((List.range s).map fun th : Nat => min ((s : Int) - 1) ((th : Int) + w)).map V.int)) _ (fun l H5 => Same H3 H5 ∧ H5 D2 = some (.lst ((ledStep ((acc j).take i) w s ++ part c l).map V.int))) ⟨s4', by rw [show part c 0 = [] from rfl, List.append_nil]; exact hD4⟩ (fun l H5 _ ⟨s5', _⟩ => SqL.of (s5' _ _ hD)) ?_ ?_
        · rintro l v H5 H5' hl ⟨s5', hD5⟩ ⟨rfl, hv⟩
          obtain ⟨ls, rfl⟩ := rch l v hv
          have fin : ∀ z : Int, z = (if c = -1 ∨ min ((s : Int) - 1) ((l : Int) + w) < 0 then -1 else c * s + min ((s : Int) - 1) ((l : Int) + w)) → ∃ xs, H5' D2 = some (.lst xs) ∧ xs.length < sizeLine ∧ (Same H3 (upd H5' D2 (.lst (xs ++ [V.int z]))) ∧ upd H5' D2 (.lst (xs ++ [V.int z])) D2 = some (.lst ((ledStep ((acc j).take i) w s ++ part c (l + 1)).map V.int))) := fun z ez => by
            refine ⟨_, hD5, small_line (by rw [List.length_map, List.length_append, lf, lpart]; omega), fun c' o z' => ?_, ?_⟩
            · rw [upd_ne (ne_of_none z' nD2)]
              exact s5' _ _ z'
            · have ep : part c (l + 1) = part c l ++ [z] := by
                show (List.range (l + 1)).map _ = (List.range l).map _ ++ [z]
                rw [List.range_succ, List.map_append, ez]
                rfl
              rw [upd_same, ep, ← List.append_assoc, List.map_append (l₂ := [z])]
              rfl
          refine ⟨rfl, ?_⟩
          refine ⟨_, rfl, rfl, _, rfl, ?_⟩
          by_cases z1 : c = -1
          · rw [decide_eq_true (show V.int c = V.int (-1) by rw [z1])]
            exact ifT rfl (ifT rfl (fin (-1) (by rw [if_pos (.inl z1)])))
          · rw [decide_eq_false (show ¬ V.int c = V.int (-1) from fun z => z1 (V.int.inj z))]
            refine ifF rfl ?_
            refine ⟨_, rfl, _, _, rfl, rfl, _, rfl, ite2 (fun z2 => ?_) fun z2 => ?_⟩
            · exact fin (-1) (by rw [if_pos (.inr (of_decide_eq_true z2))])
            · have z3 : ¬ (c = -1 ∨ min ((s : Int) - 1) ((l : Int) + w) < 0) := fun z => z.elim z1 fun z => z2 (decide_eq_true z)
              refine ⟨_, rfl, _, rfl, c, (s : Int), rfl, rfl, .inl ⟨by omega, by omega⟩, _, rfl, _, _, rfl, rfl, fin _ (by rw [if_neg z3])⟩
        · rintro H5 ⟨s5', hD5⟩
          refine ⟨s5', ?_⟩
          rw [hD5, take_snoc hc, List.length_map, List.length_map, List.length_range]
          show _ = some (HO.lst ((((acc j).take i ++ [c]).flatMap _).map V.int))
          rw [List.flatMap_append, List.flatMap_cons, List.flatMap_nil, List.append_nil]
          rfl
      · rintro H4 ⟨s4', hD4⟩
        rw [List.length_map, List.take_length, ← e1] at hD4
        refine ⟨D2, _, _, _, rfl, (sm.trans sT).trans (s3'.trans s4'), hD4, ?_, ?_⟩
        · rw [e1, e2, ledStep_len, la]
        · rw [e1, e2]
          exact ledStep_in os ia
    · rintro σ H2 ⟨G, y4, y5, y6, rfl, sm, hG, la, ia⟩
      have n3 := sz_few 3 (Nat.le_refl _)
      refine ⟨_, rfl, G, rfl, ⟨_, SqL.of hG⟩, fun D nD => ?_⟩
      have sD := same_upd (o := .lst []) nD
      refine lc_list (K := K) (a := G) (xs := (acc 3).map V.int) (fun i H3 => Same H2 H3 ∧ H3 D = some (.lst ((ledF first ((acc 3).take i)).map V.int))) ⟨sD, upd_same⟩ (fun i H3 _ ⟨s3', _⟩ => SqL.of (s3' _ _ hG)) ?_ ?_
      · rintro i v H3 hv ⟨s3', hD⟩
        obtain ⟨c, hc, rfl⟩ := ints_get hv
        have il := (List.getElem?_eq_some_iff.mp hc).1
        have fin : ∀ z : Int, z = (if c = -1 then -1 else (first : Int) + c) → ∃ xs, H3 D = some (.lst xs) ∧ xs.length < sizeLine ∧ (Same H2 (upd H3 D (.lst (xs ++ [V.int z]))) ∧ upd H3 D (.lst (xs ++ [V.int z])) D = some (.lst ((ledF first ((acc 3).take (i + 1))).map V.int))) := fun z ez => by
          refine ⟨_, hD, small_line (by unfold ledF; rw [List.length_map, List.length_map, List.length_take]; omega), fun c' o z' => ?_, ?_⟩
          · rw [upd_ne (ne_of_none z' nD)]
            exact s3' _ _ z'
          · unfold ledF
            rw [upd_same, take_snoc hc, List.map_append, List.map_append, ez]
            rfl
        refine ⟨rfl, ?_⟩
        refine ⟨_, rfl, rfl, _, rfl, ?_⟩
        by_cases z1 : c = -1
        · rw [decide_eq_true (show V.int c = V.int (-1) by rw [z1])]
          exact ifT rfl (fin (-1) (by rw [if_pos z1]))
        · rw [decide_eq_false (show ¬ V.int c = V.int (-1) from fun z => z1 (V.int.inj z))]
          exact ifF rfl ⟨_, rfl, _, rfl, _, _, rfl, rfl, fin _ (by rw [if_neg z1])⟩
      · rintro H3 ⟨s3', hD⟩
        rw [List.length_map, List.take_length] at hD
        exact q D H3 ((sFp.trans sm).trans s3') ((sFp.trans sm).free nD) hD
end
/-! ### the least of some pairs of ints -/
def pairI (p : Int × Int) : PyData := .tuple [.int p.1, .int p.2]
theorem pairI_lt (p q : Int × Int) : (PySem.W.dataLt (pairI p) (pairI q) = true → p.1 ≤ q.1) ∧ (PySem.W.dataLt (pairI p) (pairI q) = false → q.1 ≤ p.1) := by
  have al : PySem.W.alike (.int p.1) (.int q.1) = true := by simp [PySem.W.alike]
  show (PySem.W.dataLt (.tuple [.int p.1, .int p.2]) (.tuple [.int q.1, .int q.2]) = true → _) ∧ (PySem.W.dataLt (.tuple [.int p.1, .int p.2]) (.tuple [.int q.1, .int q.2]) = false → _)
  rw [PySem.W.dataLt_tuple]
  by_cases e : p.1 = q.1
  · exact ⟨fun _ => by omega, fun _ => by omega⟩
  · have ne : PyData.eqv (.int p.1) (.int q.1) = false := by
      simp only [PyData.eqv]
      exact beq_eq_false_iff_ne.mpr e
    rw [PySem.W.dataLt_all_no al ne, PySem.W.dataLt_int]
    exact ⟨fun h => by have := of_decide_eq_true h; omega, fun h => by have := of_decide_eq_false h; omega⟩
theorem minD_pairs : ∀ (ps : List (Int × Int)) (p : Int × Int), ∃ q ∈ p :: ps, PySem.W.minD (pairI p) (ps.map pairI) = pairI q ∧ ∀ r ∈ p :: ps, q.1 ≤ r.1
  | [], p => ⟨p, List.mem_cons_self, rfl, fun r hr => by rw [List.mem_singleton.mp hr]; exact Int.le_refl _⟩
  | x :: ps, p => by
    obtain ⟨h1, h2⟩ := pairI_lt x p
    have step : PySem.W.minD (pairI p) ((x :: ps).map pairI) = PySem.W.minD (if PySem.W.dataLt (pairI x) (pairI p) then pairI x else pairI p) (ps.map pairI) := rfl
    rw [step]
    cases c : PySem.W.dataLt (pairI x) (pairI p) with
    | true =>
      rw [if_pos rfl]
      obtain ⟨q, mq, e, le⟩ := minD_pairs ps x
      refine ⟨q, List.mem_cons_of_mem _ mq, e, fun r hr => ?_⟩
      rcases List.mem_cons.mp hr with rfl | hr
      · have := le x List.mem_cons_self
        have := h1 c
        omega
      · exact le r hr
    | false =>
      rw [if_neg Bool.false_ne_true]
      obtain ⟨q, mq, e, le⟩ := minD_pairs ps p
      refine ⟨q, ?_, e, fun r hr => ?_⟩
      · rcases List.mem_cons.mp mq with rfl | mq
        · exact List.mem_cons_self
        · exact List.mem_cons_of_mem _ (List.mem_cons_of_mem _ mq)
      · rcases List.mem_cons.mp hr with rfl | hr
        · exact le r List.mem_cons_self
        · rcases List.mem_cons.mp hr with rfl | hr
          · have := le p List.mem_cons_self
            have := h2 c
            omega
          · exact le r (List.mem_cons_of_mem _ hr)
theorem pairI_inj {p q : Int × Int} (h : pairI p = pairI q) : p = q := by
  unfold pairI at h
  obtain ⟨h1, h2⟩ := List.cons.inj (PyData.tuple.inj h)
  obtain ⟨h2, _⟩ := List.cons.inj h2
  exact Prod.ext (PyData.int.inj h1) (PyData.int.inj h2)
theorem pairs_depth : ∀ ps : List (Int × Int), PyData.depthAll (ps.map pairI) ≤ 2 ∧ PyData.canLayAll0 (ps.map pairI) = true
  | [] => ⟨Nat.zero_le _, rfl⟩
  | p :: ps => by
    obtain ⟨h1, h2⟩ := pairs_depth ps
    refine ⟨?_, by simp [PyData.canLayAll0, PyData.canLay0, pairI, h2]⟩
    show max (PyData.depth (pairI p)) (PyData.depthAll (ps.map pairI)) ≤ 2
    have e : PyData.depth (pairI p) ≤ 2 := by simp [pairI, PyData.depth, PyData.depthAll]
    omega
def rMinP (K : PySem.W.Frag) : List V → Hp → VK → Prop := fun vs H Q => ∃ (l : Addr) (xs : List V) (ps : List (Int × Int)), vs = [V.ref l] ∧ SqL K H l xs ∧ DpAll K H xs (ps.map pairI) ∧ ps ≠ [] ∧
  ∀ (v : V) (p : Int × Int), Dp K H v (pairI p) → p ∈ ps → (∀ q ∈ ps, p.1 ≤ q.1) → Q v H
theorem cr_minP {X : Cx} {k : Nat} (hc : X.calm = true) (room : Room k X.A) : CallR X (.builtin "min") (rMinP X.K) := by
  intro pins s σ H vs us Q I r h
  obtain ⟨l, xs, ps, rfl, hL, hall, ne, q⟩ := h
  rw [Vals.ref1 r]
  obtain ⟨its, rv, pl, _⟩ := I.list hL
  obtain ⟨as, reads⟩ := Dp.readsAll I _ _ _ hall rv
  obtain ⟨p, ps', rfl⟩ : ∃ p ps', ps = p :: ps' := by
    cases ps with
    | nil => exact absurd rfl ne
    | cons p ps' => exact ⟨p, ps', rfl⟩
  have un := room.un
  obtain ⟨dp, cl⟩ := pairs_depth (p :: ps')
  have al : PySem.W.AlikeAll ((p :: ps').map pairI) := by
    refine ⟨fun x hx y hy => ?_, fun x hx e => ?_⟩
    · obtain ⟨a, _, rfl⟩ := List.mem_map.mp hx
      obtain ⟨b, _, rfl⟩ := List.mem_map.mp hy
      simp [PySem.W.alike, PySem.W.alikeAll, pairI]
    · obtain ⟨a, _, rfl⟩ := List.mem_map.mp hx
      cases e
  refine PySem.W.min_list_data (I.ok.hd hc) pl.isList (by simpa using reads) al (by show X.A.units + 1 + _ < _; have : PyData.depthAll (pairI p :: ps'.map pairI) ≤ 2 := dp; omega) fun i v h' tk bs hv rd keeps => ?_
  have hv' : its[i]? = some v := by simpa using hv
  obtain ⟨x, hx, rx⟩ : ∃ x, xs[i]? = some x ∧ RelV x v := by
    have il : i < xs.length := by rw [rv.length]; exact (List.getElem?_eq_some_iff.mp hv').1
    obtain ⟨u, hu, ru⟩ := rv.get (List.getElem?_eq_getElem il)
    rw [hv'] at hu
    cases hu
    exact ⟨_, List.getElem?_eq_getElem il, ru⟩
  obtain ⟨d, hd, dx⟩ := mapD_get hall hx
  obtain ⟨as2, rd2⟩ := Dp.reads I _ _ _ dx rx
  obtain ⟨z, mz, ez, le⟩ := minD_pairs ps' p
  rw [ez] at rd
  have e : pairI d = pairI z := ((PyProof.Rows.Reads.keeps keeps rd2).unique _ _ rd).1
  have e2 := pairI_inj e
  subst e2
  exact ⟨x, H, I.kept keeps, rx, q x d dx mz le⟩
/-! ### an ask at its place: its first support, and what it needs -/
def sSupport : Stmt := topS 20
def sLNeed : Stmt := topS 21
abbrev Meet := List (List Int × Int)
def mpD (p : List Int × Int) : PyData := .tuple [.list (p.1.map PyData.int), .int p.2]
abbrev mtD (m : Meet) : PyData := .list (m.map mpD)
/-- where its ways lead from the place, each with its change -/
def wt (m : Meet) (t : Nat) : List (Int × Int) := m.map fun p => (p.1.getD t 0, p.2)
/-- the height of a column: one from behind is the last one -/
def hv (hs : List Int) (c : Int) : Int := (atI hs c).getD 0
def WtOk (m : Meet) (t n : Nat) : Prop := ∀ p ∈ m, t < p.1.length ∧ -1 ≤ p.1.getD t 0 ∧ p.1.getD t 0 < n
theorem mp_of {K : PySem.W.Frag} {H : Hp} {v : V} {p : List Int × Int} (h : Dp K H v (mpD p)) : ∃ a l, v = .ref a ∧ SqT K H a [.ref l, .int p.2] ∧ SqL K H l (p.1.map V.int) := by
  cases h with
  | @tup a vs _ hT hall =>
    cases hall with
    | @cons v1 _ _ _ d1 r1 =>
    cases r1 with
    | @cons v2 _ _ _ d2 r2 =>
    cases r2
    cases d2
    cases d1 with
    | @lst l us _ hL all =>
      obtain rfl := ints_of_dp all
      exact ⟨a, l, rfl, hT, hL⟩
theorem noL_pairI (p : Int × Int) : noL (pairI p) = true := by
  unfold pairI
  simp only [noL, noLAll, Bool.and_true]
theorem ixN_map {α β : Type} {f : α → β} {xs : List α} {i : Int} : ixN (xs.map f).length i = ixN xs.length i := by rw [List.length_map]
theorem ixN_in {n : Nat} {c : Int} (h1 : 1 ≤ n) (h2 : -1 ≤ c) (h3 : c < n) : ∃ j, ixN n c = some j ∧ j < n ∧ (c = -1 → j = n - 1) ∧ (0 ≤ c → (j : Int) = c) := by
  unfold ixN
  by_cases z : 0 ≤ c
  · rw [if_pos z, if_pos h3]
    exact ⟨_, rfl, by omega, by omega, fun _ => by omega⟩
  · rw [if_neg z, if_pos (by omega)]
    exact ⟨_, rfl, by omega, by omega, fun h => absurd h z⟩
theorem hv_at {hs : List Int} {c : Int} (h1 : 1 ≤ hs.length) (h2 : -1 ≤ c) (h3 : c < hs.length) : atI (hs.map V.int) c = some (.int (hv hs c)) := by
  obtain ⟨j, e, lt, _⟩ := ixN_in h1 h2 h3
  unfold hv atI
  rw [ixN_map, e]
  simp only [Option.bind_some]
  rw [List.getElem?_map, List.getElem?_eq_getElem lt]
  rfl
theorem wt_at {m : Meet} {t n : Nat} (o : WtOk m t n) {p : List Int × Int} (h : p ∈ m) : atI (p.1.map V.int) ((t : Nat) : Int) = some (.int (p.1.getD t 0)) := by
  obtain ⟨lt, _⟩ := o p h
  refine atI_nat ?_
  rw [List.getElem?_map, List.getElem?_eq_getElem lt, List.getD_eq_getElem?_getD, List.getElem?_eq_getElem lt]
  rfl
theorem wt_in {m : Meet} {t : Nat} {p : List Int × Int} (h : p ∈ m) : (p.1.getD t 0, p.2) ∈ wt m t := List.mem_map.mpr ⟨p, h, rfl⟩
def spSupport (K : PySem.W.Frag) : Sp := fun vs H Q _ => ∃ (l ha : Addr) (t : Nat) (h : Int) (m : Meet) (hs : List Int), vs = [.ref l, .int (t : Int), .ref ha, .int h] ∧ Dp K H (.ref l) (mtD m) ∧ SqL K H ha (hs.map V.int) ∧ 1 ≤ hs.length ∧ WtOk m t hs.length ∧
  ∀ r, (r = none → ∀ q ∈ wt m t, h < hv hs q.1 - q.2) → (∀ c, r = some c → ∃ q ∈ wt m t, q.1 = c ∧ hv hs q.1 - q.2 ≤ h) → Q (boxV r) H
def spLNeed (K : PySem.W.Frag) : Sp := fun vs H Q _ => ∃ (l ha : Addr) (t : Nat) (m : Meet) (hs : List Int), vs = [.ref l, .int (t : Int), .ref ha] ∧ Dp K H (.ref l) (mtD m) ∧ SqL K H ha (hs.map V.int) ∧ 1 ≤ hs.length ∧ WtOk m t hs.length ∧ m ≠ [] ∧ m.length ≤ 1000 ∧
  ∀ a H' q, Same H H' → q ∈ wt m t → (∀ r ∈ wt m t, hv hs q.1 - q.2 ≤ hv hs r.1 - r.2) → SqT K H' a [.int (hv hs q.1 - q.2), .int q.1] → Q (.ref a) H'
section
variable {P : Program} {w : World} {K : PySem.W.Frag} {mg : Str → Option Value} {base : Heap}
theorem scSupport : FnScope ["ask", "at", "heights", "height", "led_to", "change"] ["ask", "at", "heights", "height"] (defScope sSupport) := ⟨rfl, rfl, rfl, by decide +kernel, rfl, by decide +kernel, by decide +kernel⟩
theorem ok_support {f : Addr} {fd : FuncData} {k : Nat} (F : Fun K "first_support" "first_support" sSupport f fd) : FnOk P w K mg base CX0 (k + 1) f fd ["ask", "at", "heights", "height"] (spSupport K) := by
  refine F.ok scSupport (fun vs H Q E h => ?_) (fun cdv A outer s0 H vs Q E hr h => ?_)
  · obtain ⟨l, ha, t, h, m, hs, rfl, _⟩ := h
    rfl
  · obtain ⟨l, ha, t, h, m, hs, rfl, hl, hH, h1, o, q⟩ := h
    refine ⟨_, pss_cons (ps_for PassesOwn.never rfl (pi_list (pv 0)) (pg_tup rfl (pgs_cons (pg_name (i := 4) scSupport.nd rfl (.inl rfl)) (pgs_cons (pg_name (i := 5) scSupport.nd rfl (.inl rfl)) pgs_nil)))
        (pss_one (ps_if (pt_cmpR op_le (pe_op op_sub (pe_ix ix_list (pv 2) (pe_ix ix_list (pv 4) (pv 1) (fun _ _ => rfl)) (fun _ _ => rfl)) (pv 5)) (pv 3) (nomark _)) (pss_one (ps_ret (pe_ix ix_list (pv 4) (pv 1) (fun _ _ => rfl)))) pss_nil)))
      (pss_one (ps_ret pe_non)), ?_⟩
    obtain ⟨_, vs, e, hL, hall⟩ := lst_of hl
    cases e
    have lv := mapD_len hall
    refine ⟨_, rfl, l, rfl, ⟨_, hL⟩, ?_⟩
    refine for_list (K := K) (a := l) (xs := vs) (fun j σ H1 => ∃ y4 y5 : Option V, σ = [some (.ref l), some (.int (t : Int)), some (.ref ha), some (.int h), y4, y5] ∧ H1 = H ∧ ∀ q ∈ wt (m.take j) t, h < hv hs q.1 - q.2)
      ⟨none, none, rfl, rfl, fun q hq => (nomatch hq)⟩ (fun j σ H1 _ ⟨_, _, _, e, _⟩ => by rw [e]; exact hL) ?_ ?_
    · rintro j v σ H1 hj ⟨y4, y5, rfl, rfl, no⟩
      obtain ⟨p, hp, dp⟩ := mapD_get hall hj
      have mp := List.mem_of_getElem? hp
      obtain ⟨a, b, rfl, hT, hB⟩ := mp_of dp
      obtain ⟨_, c1, c2⟩ := o p mp
      refine ⟨a, _, rfl, hT, rfl, _, _, rfl, _, _, rfl, rfl, ?_⟩
      simp only [List.set_cons_succ, List.set_cons_zero]
      have ix : ∀ {Q : VK}, Q (.int (p.1.getD t 0)) H1 → rIxL K (.ref b) (.int (t : Int)) H1 Q := fun z => ⟨b, _, _, _, rfl, rfl, hB, wt_at o mp, z⟩
      refine ⟨_, rfl, _, rfl, _, rfl, ix ?_⟩
      refine ⟨ha, _, _, _, rfl, rfl, hH, hv_at h1 c1 c2, _, rfl, _, _, rfl, rfl, _, rfl, _, _, rfl, rfl, _, rfl, ite2 (fun c => ?_) fun c => ?_⟩
      · have c := of_decide_eq_true c
        refine ⟨_, rfl, _, rfl, ix ?_⟩
        exact q (some (p.1.getD t 0)) (fun e => nomatch e) fun c' e => by
          cases e
          exact ⟨_, wt_in mp, rfl, c⟩
      · refine ⟨_, _, rfl, rfl, fun q hq => ?_⟩
        unfold wt at hq
        rw [take_snoc hp, List.map_append] at hq
        rcases List.mem_append.mp hq with hq | hq
        · exact no q hq
        · rw [List.mem_singleton.mp hq]
          exact Int.not_le.mp fun z => c (decide_eq_true z)
    · rintro σ H1 ⟨y4, y5, rfl, rfl, no⟩
      rw [lv, List.take_length] at no
      exact q none (fun _ => no) (fun c e => nomatch e)
theorem scLNeed : FnScope ["ask", "at", "heights", "led_to", "change"] ["ask", "at", "heights"] (defScope sLNeed) := ⟨rfl, rfl, rfl, by decide +kernel, rfl, by decide +kernel, by decide +kernel⟩
theorem ok_lneed {f : Addr} {fd : FuncData} {k : Nat} (F : Fun K "least_need" "least_need" sLNeed f fd) (mm : mg "min" = none) : FnOk P w K mg base CX0 (k + 1) f fd ["ask", "at", "heights"] (spLNeed K) := by
  refine F.ok scLNeed (fun vs H Q E h => ?_) (fun cdv A outer s0 H vs Q E hr h => ?_)
  · obtain ⟨l, ha, t, m, hs, rfl, _⟩ := h
    rfl
  · obtain ⟨l, ha, t, m, hs, rfl, hl, hH, h1, o, ne, few, q⟩ := h
    refine ⟨_, pss_one (ps_ret (pe_callB (cr_minP rfl hr) (by rfl) mm (by decide +kernel) (pa_cons
      (pe_lc (own := [("led_to", 3), ("change", 4)]) (g := gTup K 2 (gCons (gName 3) (gCons (gName 4) gNil))) (tt := tYes) (te := tTup (tCons (tOp (rI0 fun i j => .int (i - j)) (tOp (rIxL K) (tVar 2) (tOp (rIxL K) (tVar 3) (tVar 1))) (tVar 4)) (tCons (tOp (rIxL K) (tVar 3) (tVar 1)) tNil))) rfl scLNeed.nd (pi_list (pv 0))
        (blkOk_by (N := ["ask", "at", "heights", "led_to", "change"]) (sc := defScope sLNeed) (by decide +kernel))
        (fun _ _ _ _ _ => by refine pg_tup rfl (pgs_cons ?_ (pgs_cons ?_ pgs_nil)); exact pg_name (i := 3) scLNeed.nd rfl (.inl rfl); exact pg_name (i := 4) scLNeed.nd rfl (.inl rfl))
        (fun _ _ _ _ _ => pts_nil)
        (fun _ _ _ _ _ => by exact pe_tup (pa_cons (pe_op op_sub (pe_ix ix_list (pv 2) (pe_ix ix_list (pv 3) (pv 1) (fun _ _ => rfl)) (fun _ _ => rfl)) (pv 4)) (pa_cons (pe_ix ix_list (pv 3) (pv 1) (fun _ _ => rfl)) pa_nil)))) pa_nil))), ?_⟩
    obtain ⟨_, vs, e, hL, hall⟩ := lst_of hl
    cases e
    have lv := mapD_len hall
    let ns : Nat → List (Int × Int) := fun j => (wt (m.take j) t).map fun q => (hv hs q.1 - q.2, q.1)
    have ns_len : ∀ j, (ns j).length ≤ m.length := fun j => by
      show ((wt (m.take j) t).map _).length ≤ _
      unfold wt
      rw [List.length_map, List.length_map, List.length_take]
      exact Nat.min_le_right _ _
    refine ⟨_, rfl, l, rfl, ⟨_, hL⟩, fun D nD => ?_⟩
    have sD := same_upd (o := .lst []) nD
    refine lc_list (K := K) (a := l) (xs := vs) (fun j H1 => Same H H1 ∧ ∃ ps, H1 D = some (.lst ps) ∧ DpAll K H1 ps ((ns j).map pairI)) ⟨sD, [], upd_same, .nil⟩ (fun j H1 _ ⟨s1, _⟩ => s1.seq hL) ?_ ?_
    · rintro j v H1 hj ⟨s1, ps, hD, dps⟩
      obtain ⟨p, hp, dp⟩ := mapD_get hall hj
      have mp := List.mem_of_getElem? hp
      obtain ⟨a, b, rfl, hT, hB⟩ := mp_of dp
      obtain ⟨_, c1, c2⟩ := o p mp
      have lp := mapD_len dps
      have ln := ns_len j
      have ix : ∀ {Q : VK}, Q (.int (p.1.getD t 0)) H1 → rIxL K (.ref b) (.int (t : Int)) H1 Q := fun z => ⟨b, _, _, _, rfl, rfl, s1.seq hB, wt_at o mp, z⟩
      have e0 : wipe [some (V.ref l), some (V.int (t : Int)), some (V.ref ha), none, none] [3, 4] = [some (V.ref l), some (V.int (t : Int)), some (V.ref ha), none, none] := rfl
      show gTup K 2 (gCons (gName 3) (gCons (gName 4) gNil)) (.ref a) (wipe [some (V.ref l), some (V.int (t : Int)), some (V.ref ha), none, none] [3, 4]) H1 _
      rw [e0]
      refine ⟨a, _, rfl, s1.seqT hT, rfl, _, _, rfl, _, _, rfl, rfl, ?_⟩
      simp only [List.set_cons_succ, List.set_cons_zero]
      refine ⟨rfl, ?_⟩
      refine ⟨_, rfl, _, rfl, _, rfl, ix ?_⟩
      refine ⟨ha, _, _, _, rfl, rfl, s1.seq hH, hv_at h1 c1 c2, _, rfl, _, _, rfl, rfl, _, rfl, _, rfl, ix ?_⟩
      refine ⟨by show 2 ≤ sizeLine; decide, fun U nU => ?_⟩
      have sU := same_upd (o := .tup [V.int (hv hs (p.1.getD t 0) - p.2), V.int (p.1.getD t 0)]) nU
      have dU : Dp K (upd H1 U (.tup [V.int (hv hs (p.1.getD t 0) - p.2), V.int (p.1.getD t 0)])) (.ref U) (pairI (hv hs (p.1.getD t 0) - p.2, p.1.getD t 0)) := .tup (SqT.of upd_same) (.cons (.int _) (.cons (.int _) .nil))
      have hD2 := sU _ _ hD
      refine ⟨ps, hD2, small_line (by omega), fun c o2 z => ?_, ps ++ [.ref U], upd_same, ?_⟩
      · rw [upd_ne (ne_of_none z nD)]
        exact sU _ _ (s1 _ _ z)
      · have ep : ns (j + 1) = ns j ++ [(hv hs (p.1.getD t 0) - p.2, p.1.getD t 0)] := by
          show (wt (m.take (j + 1)) t).map _ = (wt (m.take j) t).map _ ++ _
          unfold wt
          rw [take_snoc hp, List.map_append, List.map_append]
          rfl
        rw [ep]
        exact dpAll_put hD2 (dpAll_app1 (dpAll_same sU dps) dU) (noLAll_map noL_pairI _)
    · rintro H1 ⟨s1, ps, hD, dps⟩
      rw [lv] at dps
      refine ⟨D, ps, ns m.length, rfl, SqL.of hD, dps, ?_, fun v p0 dv mp0 le => ?_⟩
      · intro z
        have := congrArg List.length z
        show False
        have e : (ns m.length).length = m.length := by
          show ((wt (m.take m.length) t).map _).length = _
          unfold wt
          rw [List.length_map, List.length_map, List.take_length]
        rw [e] at this
        exact ne (List.eq_nil_of_length_eq_zero this)
      · have en : ns m.length = (wt m t).map fun q => (hv hs q.1 - q.2, q.1) := by
          show (wt (m.take m.length) t).map _ = _
          rw [List.take_length]
        rw [en] at mp0 le
        obtain ⟨q0, hq0, rfl⟩ := List.mem_map.mp mp0
        cases dv with
        | @tup a vs2 _ hT hall2 =>
          obtain rfl := ints_of_dp (ns := [hv hs q0.1 - q0.2, q0.1]) hall2
          exact q a H1 q0 s1 hq0 (fun r hr => le _ (List.mem_map.mpr ⟨r, hr, rfl⟩)) hT
end
/-! ### heights that grow until each ask is met (plain Lean) -/
structure Item where
  m : Meet
  t : Nat
  c : Nat
def cx (n : Nat) (c : Int) : Nat := if c = -1 then n - 1 else c.toNat
theorem ixN_cx {n : Nat} {c : Int} (h1 : 1 ≤ n) (h2 : -1 ≤ c) (h3 : c < n) : ixN n c = some (cx n c) ∧ cx n c < n := by
  obtain ⟨j, e, lt, l1, l2⟩ := ixN_in h1 h2 h3
  have ej : cx n c = j := by
    unfold cx
    by_cases z : c = -1
    · rw [if_pos z, l1 z]
    · rw [if_neg z]
      have := l2 (by omega)
      omega
  rw [ej]
  exact ⟨e, lt⟩
theorem cx_nat {n j : Nat} : cx n (j : Int) = j := by
  unfold cx
  rw [if_neg (by omega)]
  omega
theorem hv_cx {hs : List Int} {c : Int} (h1 : 1 ≤ hs.length) (h2 : -1 ≤ c) (h3 : c < hs.length) : hv hs c = hs.getD (cx hs.length c) 0 := by
  obtain ⟨e, lt⟩ := ixN_cx h1 h2 h3
  unfold hv atI
  rw [e, Option.bind_some, List.getD_eq_getElem?_getD]
theorem getD_set_eq {α : Type} {xs : List α} {i : Nat} {v d : α} (h : i < xs.length) : (xs.set i v).getD i d = v := by
  rw [List.getD_eq_getElem?_getD, List.getElem?_set_self h, Option.getD_some]
theorem getD_set_ne {α : Type} {xs : List α} {i j : Nat} {v d : α} (h : i ≠ j) : (xs.set i v).getD j d = xs.getD j d := by
  rw [List.getD_eq_getElem?_getD, List.getElem?_set_ne h, ← List.getD_eq_getElem?_getD]
theorem sum_set {α : Type} (f : α → Nat) (d : α) : ∀ (xs : List α) (i : Nat) (v : α), i < xs.length → ((xs.set i v).map f).sum + f (xs.getD i d) = (xs.map f).sum + f v
  | [], _, _, h => absurd h (Nat.not_lt_zero _)
  | x :: xs, 0, v, _ => by
    show (f v + (xs.map f).sum) + f x = (f x + (xs.map f).sum) + f v
    omega
  | x :: xs, i + 1, v, h => by
    have := sum_set f d xs i v (Nat.lt_of_succ_lt_succ h)
    show (f x + ((xs.set i v).map f).sum) + f (xs.getD i d) = (f x + (xs.map f).sum) + f v
    omega
structure HOk (b : Int) (n : Nat) (hs : List Int) : Prop where
  len : hs.length = n
  pos : 1 ≤ n
  top : hs.getD (n - 1) 0 = hNone
  rng : ∀ i, i < n → (0 ≤ hs.getD i 0 ∧ hs.getD i 0 ≤ b) ∨ hs.getD i 0 = hNone
structure ItOk (n : Nat) (it : Item) : Prop where
  w : WtOk it.m it.t n
  c : it.c + 1 < n
  ne : it.m ≠ []
  few : it.m.length ≤ 1000
theorem wt_ok {m : Meet} {t n : Nat} (o : WtOk m t n) : ∀ q ∈ wt m t, -1 ≤ q.1 ∧ q.1 < n := fun q hq => by
  obtain ⟨p, mp, rfl⟩ := List.mem_map.mp hq
  exact (o p mp).2
def LeL (xs ys : List Int) : Prop := ∀ i : Nat, xs.getD i 0 ≤ ys.getD i 0
def Met (hs : List Int) (it : Item) : Prop := ∃ q ∈ wt it.m it.t, hv hs q.1 - q.2 ≤ hs.getD it.c 0
/-- each ask is met from each column of which something lasts -/
def Sol (items : List Item) (T : List Int) : Prop := ∀ it ∈ items, T.getD it.c 0 < hNone → Met T it
def mu (b : Int) (hs : List Int) : Nat := (hs.map fun h => (b + 1 - h).toNat).sum
def cnt (Ls : List (List Item)) : Nat := (Ls.map List.length).sum
def Cov (n : Nat) (items : List Item) (hs : List Int) (Ls : List (List Item)) (grown : List Int) (Rest : List Item) : Prop := ∀ it ∈ items, hs.getD it.c 0 = hNone ∨
  (∃ q ∈ wt it.m it.t, hv hs q.1 - q.2 ≤ hs.getD it.c 0 ∧ it ∈ Ls.getD (cx n q.1) []) ∨ (∃ g ∈ grown, it ∈ Ls.getD (cx n g) []) ∨ it ∈ Rest
structure SInv (b : Int) (n M : Nat) (items : List Item) (hs0 hs : List Int) (Ls : List (List Item)) (grown : List Int) (Rest : List Item) : Prop where
  ok : HOk b n hs
  len : Ls.length = n
  sub : ∀ l ∈ Ls, ∀ it ∈ l, it ∈ items
  subR : ∀ it ∈ Rest, it ∈ items
  gr : ∀ g ∈ grown, -1 ≤ g ∧ g < n
  cov : Cov n items hs Ls grown Rest
  snd : ∀ T, HOk b n T → LeL hs0 T → Sol items T → LeL hs T
  up : LeL hs0 hs
  few : cnt Ls + Rest.length ≤ M
  iok : ∀ it ∈ items, ItOk n it
section
variable {b : Int} {n M : Nat} {items : List Item} {hs0 hs : List Int} {Ls : List (List Item)} {grown : List Int} {Rest : List Item}
theorem getD_mem {α : Type} {xs : List α} {i : Nat} {d : α} (h : i < xs.length) : xs.getD i d ∈ xs := by
  rw [List.getD_eq_getElem?_getD, List.getElem?_eq_getElem h, Option.getD_some]
  exact List.getElem_mem h
/-- the asks that lean on a column that has grown are taken -/
theorem SInv.take {g : Int} (s : SInv b n M items hs0 hs Ls (g :: grown) Rest) : SInv b n M items hs0 hs (Ls.set (cx n g) []) grown (Rest ++ Ls.getD (cx n g) []) := by
  obtain ⟨g1, g2⟩ := s.gr g List.mem_cons_self
  obtain ⟨_, lt⟩ := ixN_cx s.ok.pos g1 g2
  have lt' : cx n g < Ls.length := by rw [s.len]; exact lt
  refine ⟨s.ok, by rw [List.length_set]; exact s.len, fun l hl it hit => ?_, fun it hit => ?_, fun g hg => s.gr g (List.mem_cons_of_mem _ hg), fun it hit => ?_, s.snd, s.up, ?_, s.iok⟩
  · rcases List.mem_or_eq_of_mem_set hl with hl | rfl
    · exact s.sub l hl it hit
    · cases hit
  · rcases List.mem_append.mp hit with h | h
    · exact s.subR it h
    · exact s.sub _ (getD_mem lt') it h
  · have mv : ∀ i, it ∈ Ls.getD i [] → it ∈ (Ls.set (cx n g) []).getD i [] ∨ it ∈ Rest ++ Ls.getD (cx n g) [] := fun i h => by
      by_cases e : cx n g = i
      · exact .inr (List.mem_append_right _ (by rw [e]; exact h))
      · exact .inl (by rw [getD_set_ne e]; exact h)
    rcases s.cov it hit with h | ⟨q, hq, l, h⟩ | ⟨g', hg, h⟩ | h
    · exact .inl h
    · rcases mv _ h with h | h
      · exact .inr (.inl ⟨q, hq, l, h⟩)
      · exact .inr (.inr (.inr h))
    · rcases List.mem_cons.mp hg with rfl | hg
      · exact .inr (.inr (.inr (List.mem_append_right _ h)))
      · rcases mv _ h with h | h
        · exact .inr (.inr (.inl ⟨g', hg, h⟩))
        · exact .inr (.inr (.inr h))
    · exact .inr (.inr (.inr (List.mem_append_left _ h)))
  · have e := sum_set List.length [] Ls (cx n g) [] lt'
    have f := s.few
    unfold cnt at f ⊢
    rw [List.length_append]
    simp only [List.length_nil] at e
    omega
/-- more leans on a column -/
theorem mem_put {i j : Nat} {it x : Item} (lt : i < Ls.length) (h : x ∈ Ls.getD j []) : x ∈ (Ls.set i (Ls.getD i [] ++ [it])).getD j [] := by
  by_cases e : i = j
  · subst e
    rw [getD_set_eq lt]
    exact List.mem_append_left _ h
  · rw [getD_set_ne e]
    exact h
theorem SInv.over {it : Item} (s : SInv b n M items hs0 hs Ls grown (it :: Rest)) (h : ¬ hs.getD it.c 0 < hNone) (lb : b < hNone) (iok : ItOk n it) : SInv b n M items hs0 hs Ls grown Rest := by
  refine ⟨s.ok, s.len, s.sub, fun x hx => s.subR x (List.mem_cons_of_mem _ hx), s.gr, fun x hx => ?_, s.snd, s.up, ?_, s.iok⟩
  · rcases s.cov x hx with h1 | h1 | h1 | h1
    · exact .inl h1
    · exact .inr (.inl h1)
    · exact .inr (.inr (.inl h1))
    · rcases List.mem_cons.mp h1 with rfl | h1
      · refine .inl ?_
        have ic := iok.c
        rcases s.ok.rng x.c (by omega) with ⟨_, z⟩ | z
        · omega
        · exact z
      · exact .inr (.inr (.inr h1))
  · have := s.few
    rw [List.length_cons] at this
    omega
theorem SInv.lean {it : Item} {q : Int × Int} (s : SInv b n M items hs0 hs Ls grown (it :: Rest)) (iok : ItOk n it) (hq : q ∈ wt it.m it.t) (le : hv hs q.1 - q.2 ≤ hs.getD it.c 0) :
    SInv b n M items hs0 hs (Ls.set (cx n q.1) (Ls.getD (cx n q.1) [] ++ [it])) grown Rest := by
  obtain ⟨q1, q2⟩ := wt_ok iok.w q hq
  obtain ⟨_, lt⟩ := ixN_cx s.ok.pos q1 q2
  have lt' : cx n q.1 < Ls.length := by rw [s.len]; exact lt
  refine ⟨s.ok, by rw [List.length_set]; exact s.len, fun l hl x hx => ?_, fun x hx => s.subR x (List.mem_cons_of_mem _ hx), s.gr, fun x hx => ?_, s.snd, s.up, ?_, s.iok⟩
  · rcases List.mem_or_eq_of_mem_set hl with hl | rfl
    · exact s.sub l hl x hx
    · rcases List.mem_append.mp hx with h | h
      · exact s.sub _ (getD_mem lt') x h
      · rw [List.mem_singleton.mp h]
        exact s.subR it List.mem_cons_self
  · rcases s.cov x hx with h1 | ⟨p, hp, l, h1⟩ | ⟨g, hg, h1⟩ | h1
    · exact .inl h1
    · exact .inr (.inl ⟨p, hp, l, mem_put lt' h1⟩)
    · exact .inr (.inr (.inl ⟨g, hg, mem_put lt' h1⟩))
    · rcases List.mem_cons.mp h1 with rfl | h1
      · refine .inr (.inl ⟨q, hq, le, ?_⟩)
        rw [getD_set_eq lt']
        exact List.mem_append_right _ List.mem_cons_self
      · exact .inr (.inr (.inr h1))
  · have e := sum_set List.length [] Ls (cx n q.1) (Ls.getD (cx n q.1) [] ++ [it]) lt'
    have f := s.few
    unfold cnt at f ⊢
    rw [List.length_append, List.length_singleton] at e
    rw [List.length_cons] at f
    omega
theorem SInv.raise {it : Item} {q : Int × Int} (s : SInv b n M items hs0 hs Ls grown (it :: Rest)) (b0 : 0 ≤ b) (lb : b < hNone) (iok : ItOk n it) (lo : hs.getD it.c 0 < hNone) (hq : q ∈ wt it.m it.t) (no : ∀ r ∈ wt it.m it.t, hs.getD it.c 0 < hv hs r.1 - r.2)
    (least : ∀ r ∈ wt it.m it.t, hv hs q.1 - q.2 ≤ hv hs r.1 - r.2) {v : Int} (ev : v = if hv hs q.1 - q.2 ≤ b then hv hs q.1 - q.2 else hNone) :
    SInv b n M items hs0 (hs.set it.c v) (Ls.set (cx n q.1) (Ls.getD (cx n q.1) [] ++ [it])) (grown ++ [(it.c : Int)]) Rest ∧ mu b (hs.set it.c v) < mu b hs := by
  obtain ⟨q1, q2⟩ := wt_ok iok.w q hq
  obtain ⟨_, lt⟩ := ixN_cx s.ok.pos q1 q2
  have lt' : cx n q.1 < Ls.length := by rw [s.len]; exact lt
  have ic := iok.c
  have ln := s.ok.len
  have ilt : it.c < hs.length := by omega
  obtain ⟨h0, hb⟩ : 0 ≤ hs.getD it.c 0 ∧ hs.getD it.c 0 ≤ b := by
    rcases s.ok.rng it.c (by omega) with z | z
    · exact z
    · omega
  have nq := no q hq
  have vlt : hs.getD it.c 0 < v := by
    rw [ev]
    split
    · exact nq
    · exact lo
  have vr : (0 ≤ v ∧ v ≤ b) ∨ v = hNone := by
    rw [ev]
    split
    · exact .inl ⟨by omega, by assumption⟩
    · exact .inr rfl
  have up : ∀ i, hs.getD i 0 ≤ (hs.set it.c v).getD i 0 := fun i => by
    by_cases e : it.c = i
    · subst e
      rw [getD_set_eq ilt]
      omega
    · rw [getD_set_ne e]
      exact Int.le_refl _
  have hvs : ∀ c : Int, -1 ≤ c → c < n → hv (hs.set it.c v) c = (hs.set it.c v).getD (cx n c) 0 ∧ hv hs c = hs.getD (cx n c) 0 := fun c c1 c2 => by
    have l1 : (hs.set it.c v).length = n := by rw [List.length_set]; exact ln
    refine ⟨?_, ?_⟩
    · rw [hv_cx (by rw [l1]; exact s.ok.pos) c1 (by rw [l1]; exact c2), l1]
    · rw [hv_cx (by rw [ln]; exact s.ok.pos) c1 (by rw [ln]; exact c2), ln]
  refine ⟨⟨⟨by rw [List.length_set]; exact ln, s.ok.pos, ?_, fun i hi => ?_⟩, by rw [List.length_set]; exact s.len, fun l hl x hx => ?_, fun x hx => s.subR x (List.mem_cons_of_mem _ hx), fun g hg => ?_, fun x hx => ?_, fun T hT l0 sT => ?_, fun i => Int.le_trans (s.up i) (up i), ?_, s.iok⟩, ?_⟩
  · rw [getD_set_ne (by omega)]
    exact s.ok.top
  · by_cases e : it.c = i
    · subst e
      rw [getD_set_eq ilt]
      exact vr
    · rw [getD_set_ne e]
      exact s.ok.rng i hi
  · rcases List.mem_or_eq_of_mem_set hl with hl | rfl
    · exact s.sub l hl x hx
    · rcases List.mem_append.mp hx with h | h
      · exact s.sub _ (getD_mem lt') x h
      · rw [List.mem_singleton.mp h]
        exact s.subR it List.mem_cons_self
  · rcases List.mem_append.mp hg with h | h
    · exact s.gr g h
    · rw [List.mem_singleton.mp h]
      omega
  · -- an ask that was met is met, or leans on what has grown
    have still : ∀ (p : Int × Int), p ∈ wt x.m x.t → hv hs p.1 - p.2 ≤ hs.getD x.c 0 → x ∈ Ls.getD (cx n p.1) [] → (-1 ≤ p.1 ∧ p.1 < n) → (∃ q' ∈ wt x.m x.t, hv (hs.set it.c v) q'.1 - q'.2 ≤ (hs.set it.c v).getD x.c 0 ∧ x ∈ (Ls.set (cx n q.1) (Ls.getD (cx n q.1) [] ++ [it])).getD (cx n q'.1) []) ∨
        (∃ g ∈ grown ++ [(it.c : Int)], x ∈ (Ls.set (cx n q.1) (Ls.getD (cx n q.1) [] ++ [it])).getD (cx n g) []) := fun p hp l h pr => by
      by_cases e : it.c = cx n p.1
      · refine .inr ⟨(it.c : Int), List.mem_append_right _ List.mem_cons_self, ?_⟩
        rw [cx_nat, e]
        exact mem_put lt' h
      · refine .inl ⟨p, hp, ?_, mem_put lt' h⟩
        obtain ⟨a1, a2⟩ := hvs p.1 pr.1 pr.2
        rw [a1, getD_set_ne e, ← a2]
        exact Int.le_trans l (up _)
    rcases s.cov x hx with h1 | ⟨p, hp, l, h1⟩ | ⟨g, hg, h1⟩ | h1
    · refine .inl ?_
      by_cases e : it.c = x.c
      · rw [← e] at h1
        omega
      · rw [getD_set_ne e]
        exact h1
    · by_cases pr : -1 ≤ p.1 ∧ p.1 < n
      · rcases still p hp l h1 pr with z | z
        · exact .inr (.inl z)
        · exact .inr (.inr (.inl z))
      · exact absurd (wt_ok (s.iok x hx).w p hp) pr
    · exact .inr (.inr (.inl ⟨g, List.mem_append_left _ hg, mem_put lt' h1⟩))
    · rcases List.mem_cons.mp h1 with rfl | h1
      · by_cases small : hv hs q.1 - q.2 ≤ b
        · rw [if_pos small] at ev
          have xin : x ∈ (Ls.set (cx n q.1) (Ls.getD (cx n q.1) [] ++ [x])).getD (cx n q.1) [] := by
            rw [getD_set_eq lt']
            exact List.mem_append_right _ List.mem_cons_self
          by_cases e : x.c = cx n q.1
          · refine .inr (.inr (.inl ⟨(x.c : Int), List.mem_append_right _ List.mem_cons_self, ?_⟩))
            rw [cx_nat, e]
            exact xin
          · refine .inr (.inl ⟨q, hq, ?_, xin⟩)
            obtain ⟨a1, a2⟩ := hvs q.1 q1 q2
            rw [a1, getD_set_ne e, ← a2, getD_set_eq ilt, ev]
            exact Int.le_refl _
        · refine .inl ?_
          rw [getD_set_eq ilt, ev, if_neg small]
      · exact .inr (.inr (.inr h1))
  · -- no more than any that meets all asks
    have lT := s.snd T hT l0 sT
    intro i
    by_cases e : it.c = i
    · subst e
      rw [getD_set_eq ilt]
      rcases hT.rng it.c (by omega) with ⟨t0, tb⟩ | z
      · obtain ⟨r, hr, le⟩ := sT it (s.subR it List.mem_cons_self) (by omega)
        obtain ⟨r1, r2⟩ := wt_ok iok.w r hr
        have a1 := (hvs r.1 r1 r2).2
        have a2 : hv T r.1 = T.getD (cx n r.1) 0 := by rw [hv_cx (by rw [hT.len]; exact hT.pos) r1 (by rw [hT.len]; exact r2), hT.len]
        have a3 := lT (cx n r.1)
        have a4 := least r hr
        rw [ev, if_pos (by omega)]
        omega
      · rw [z]
        rcases vr with z | z <;> omega
    · rw [getD_set_ne e]
      exact lT i
  · have e := sum_set List.length [] Ls (cx n q.1) (Ls.getD (cx n q.1) [] ++ [it]) lt'
    have f := s.few
    unfold cnt at f ⊢
    rw [List.length_append, List.length_singleton] at e
    rw [List.length_cons] at f
    omega
  · have e := sum_set (fun h : Int => (b + 1 - h).toNat) 0 hs it.c v ilt
    unfold mu
    omega
end
section
variable {b : Int} {n M : Nat} {items : List Item} {hs0 hs : List Int} {Ls : List (List Item)}
/-- nothing grew any more: each ask is met -/
theorem SInv.done (s : SInv b n M items hs0 hs Ls [] []) : Sol items hs := fun it hit lo => by
  rcases s.cov it hit with h | ⟨q, hq, l, _⟩ | ⟨g, hg, _⟩ | h
  · omega
  · exact ⟨q, hq, l⟩
  · cases hg
  · cases h
theorem sum_rep {α : Type} (f : α → Nat) (a : α) (e : f a = 0) : ∀ k : Nat, ((List.replicate k a).map f).sum = 0
  | 0 => rfl
  | k + 1 => by
    rw [List.replicate_succ, List.map_cons, List.sum_cons, e, sum_rep f a e k]
theorem SInv.start (ok : HOk b n hs) (iok : ∀ it ∈ items, ItOk n it) (few : items.length ≤ M) : SInv b n M items hs hs ((List.replicate n []).set (n - 1) items) [-1] [] := by
  have n1 := ok.pos
  have lt : n - 1 < (List.replicate n ([] : List Item)).length := by rw [List.length_replicate]; omega
  refine ⟨ok, by rw [List.length_set, List.length_replicate], fun l hl it hit => ?_, fun it h => (nomatch h), fun g hg => ?_, fun it hit => ?_, fun T _ l _ => l, fun i => Int.le_refl _, ?_, iok⟩
  · rcases List.mem_or_eq_of_mem_set hl with hl | rfl
    · rw [(List.mem_replicate.mp hl).2] at hit
      cases hit
    · exact hit
  · rw [List.mem_singleton.mp hg]
    omega
  · refine .inr (.inr (.inl ⟨-1, List.mem_cons_self, ?_⟩))
    rw [show cx n (-1) = n - 1 from if_pos rfl, getD_set_eq lt]
    exact hit
  · have e := sum_set List.length [] (List.replicate n ([] : List Item)) (n - 1) items lt
    rw [sum_rep List.length [] rfl] at e
    unfold cnt
    simp only [List.length_nil]
    omega
end
/-! ### the heap while heights grow -/
def ItAt (K : PySem.W.Frag) (H0 H : Hp) (v : V) (it : Item) : Prop := ∃ a l, v = .ref a ∧ SqT K H a [.ref l, .int (it.t : Int), .int (it.c : Int)] ∧ Dp K H0 (.ref l) (mtD it.m)
inductive ItAll (K : PySem.W.Frag) (H0 H : Hp) : List V → List Item → Prop
  | nil : ItAll K H0 H [] []
  | cons {v : V} {vs : List V} {it : Item} {its : List Item} : ItAt K H0 H v it → ItAll K H0 H vs its → ItAll K H0 H (v :: vs) (it :: its)
/-- tuples stay -/
def Tk (K : PySem.W.Frag) (H H' : Hp) : Prop := ∀ a xs, SqT K H a xs → SqT K H' a xs
section
variable {K : PySem.W.Frag} {H0 H H' : Hp}
theorem Tk.of_same (s : Same H H') : Tk K H H' := fun _ _ h => s.seqT h
theorem Tk.of_kp {p : Addr} {l : List V} (k : Kp p H H') (h : H p = some (.lst l)) : Tk K H H' := fun _ _ z => k.seqT h z
theorem ItAt.tk {v : V} {it : Item} (t : Tk K H H') (h : ItAt K H0 H v it) : ItAt K H0 H' v it :=
  let ⟨a, l, e, s, d⟩ := h
  ⟨a, l, e, t _ _ s, d⟩
theorem ItAll.tk (t : Tk K H H') : ∀ {vs : List V} {its : List Item}, ItAll K H0 H vs its → ItAll K H0 H' vs its
  | _, _, .nil => .nil
  | _, _, .cons h r => .cons (h.tk t) (r.tk t)
theorem ItAll.app : ∀ {vs ws : List V} {its jts : List Item}, ItAll K H0 H vs its → ItAll K H0 H ws jts → ItAll K H0 H (vs ++ ws) (its ++ jts)
  | _, _, _, _, .nil, h => h
  | _, _, _, _, .cons h r, z => .cons h (r.app z)
theorem ItAll.len : ∀ {vs : List V} {its : List Item}, ItAll K H0 H vs its → vs.length = its.length
  | _, _, .nil => rfl
  | _, _, .cons _ r => by rw [List.length_cons, List.length_cons, r.len]
theorem ItAll.get : ∀ {vs : List V} {its : List Item} {j : Nat} {v : V}, ItAll K H0 H vs its → vs[j]? = some v → ∃ it, its[j]? = some it ∧ ItAt K H0 H v it
  | _, _, 0, _, .cons h _, e => by
    cases e
    exact ⟨_, rfl, h⟩
  | _, _, _ + 1, _, .cons _ r, e => r.get e
end
structure HS (K : PySem.W.Frag) (H0 : Hp) (ha G : Addr) (n : Nat) (H : Hp) (hs : List Int) (As : List Addr) (Ls : List (List Item)) : Prop where
  s0 : Same H0 H
  hh : H ha = some (.lst (hs.map V.int))
  nh : H0 ha = none
  hG : H G = some (.lst (As.map V.ref))
  nG : H0 G = none
  ne : ha ≠ G
  la : As.length = n
  lL : Ls.length = n
  ls : ∀ (i : Nat) (a : Addr), As[i]? = some a → H0 a = none ∧ a ≠ ha ∧ a ≠ G ∧ ∃ vs, H a = some (.lst vs) ∧ ItAll K H0 H vs (Ls.getD i [])
  inj : ∀ (i j : Nat) (a : Addr), As[i]? = some a → As[j]? = some a → i = j
/-- a list of its own -/
structure Lone (H0 : Hp) (ha G : Addr) (As : List Addr) (p : Addr) : Prop where
  n0 : H0 p = none
  nh : p ≠ ha
  nG : p ≠ G
  nA : ∀ (i : Nat) (a : Addr), As[i]? = some a → a ≠ p
theorem Lone.set {H0 : Hp} {ha G p q : Addr} {As : List Addr} {i : Nat} (o : Lone H0 ha G As p) (n : q ≠ p) : Lone H0 ha G (As.set i q) p := ⟨o.n0, o.nh, o.nG, fun j a h => by
  rw [List.getElem?_set] at h
  split at h
  · split at h
    · cases h
      exact n
    · cases h
  · exact o.nA j a h⟩
section
variable {K : PySem.W.Frag} {H0 H H' : Hp} {ha G : Addr} {n : Nat} {hs : List Int} {As : List Addr} {Ls : List (List Item)}
theorem HS.mv (h : HS K H0 ha G n H hs As Ls) (s0 : Same H0 H') (tk : Tk K H H') (keep : ∀ a xs, H a = some (.lst xs) → (a = ha ∨ a = G ∨ ∃ i : Nat, As[i]? = some a) → H' a = some (.lst xs)) : HS K H0 ha G n H' hs As Ls :=
  ⟨s0, keep _ _ h.hh (.inl rfl), h.nh, keep _ _ h.hG (.inr (.inl rfl)), h.nG, h.ne, h.la, h.lL, fun i a e => by
    obtain ⟨h1, h2, h3, vs, h4, h5⟩ := h.ls i a e
    exact ⟨h1, h2, h3, vs, keep _ _ h4 (.inr (.inr ⟨i, e⟩)), h5.tk tk⟩, h.inj⟩
theorem HS.same (h : HS K H0 ha G n H hs As Ls) (s : Same H H') : HS K H0 ha G n H' hs As Ls := h.mv (h.s0.trans s) (.of_same s) fun _ _ e _ => s _ _ e
theorem same_off {p : Addr} {o : HO} (s : Same H0 H) (n : H0 p = none) : Same H0 (upd H p o) := fun b x e => by
  rw [upd_ne (ne_of_none e n)]
  exact s _ _ e
theorem HS.other {p : Addr} {us ws : List V} (h : HS K H0 ha G n H hs As Ls) (o : Lone H0 ha G As p) (hp : H p = some (.lst us)) : HS K H0 ha G n (upd H p (.lst ws)) hs As Ls :=
  h.mv (same_off h.s0 o.n0) (.of_kp (kp_upd p H _) hp) fun a xs e w => by
    rw [upd_ne ?_]
    · exact e
    · rcases w with rfl | rfl | ⟨i, w⟩
      · exact o.nh.symm
      · exact o.nG.symm
      · exact o.nA i a w
theorem HS.high {i : Nat} {v : Int} (h : HS K H0 ha G n H hs As Ls) : HS K H0 ha G n (upd H ha (.lst ((hs.map V.int).set i (.int v)))) (hs.set i v) As Ls := by
  have tk : Tk K H (upd H ha (.lst ((hs.map V.int).set i (.int v)))) := .of_kp (kp_upd ha H _) h.hh
  refine ⟨same_off h.s0 h.nh, by rw [upd_same, List.map_set], h.nh, by rw [upd_ne h.ne.symm]; exact h.hG, h.nG, h.ne, h.la, h.lL, fun j a e => ?_, h.inj⟩
  obtain ⟨h1, h2, h3, vs, h4, h5⟩ := h.ls j a e
  exact ⟨h1, h2, h3, vs, by rw [upd_ne h2]; exact h4, h5.tk tk⟩
theorem HS.put {i : Nat} {a : Addr} {vs : List V} {v : V} {it : Item} (h : HS K H0 ha G n H hs As Ls) (ea : As[i]? = some a) (hv : H a = some (.lst vs)) (hi : ItAt K H0 H v it) :
    HS K H0 ha G n (upd H a (.lst (vs ++ [v]))) hs As (Ls.set i (Ls.getD i [] ++ [it])) := by
  obtain ⟨h1, h2, h3, vs', h4, h5⟩ := h.ls i a ea
  rw [hv] at h4
  cases h4
  have il : i < Ls.length := by rw [h.lL, ← h.la]; exact (List.getElem?_eq_some_iff.mp ea).1
  have tk : Tk K H (upd H a (.lst (vs ++ [v]))) := .of_kp (kp_upd a H _) hv
  refine ⟨same_off h.s0 h1, by rw [upd_ne h2.symm]; exact h.hh, h.nh, by rw [upd_ne h3.symm]; exact h.hG, h.nG, h.ne, h.la, by rw [List.length_set]; exact h.lL, fun j b e => ?_, h.inj⟩
  obtain ⟨g1, g2, g3, ws, g4, g5⟩ := h.ls j b e
  by_cases ij : i = j
  · subst ij
    rw [ea] at e
    cases e
    refine ⟨g1, g2, g3, _, upd_same, ?_⟩
    rw [getD_set_eq il]
    exact (h5.tk tk).app (.cons (hi.tk tk) .nil)
  · have nab : b ≠ a := fun z => by
      subst z
      exact ij (h.inj _ _ _ ea e)
    refine ⟨g1, g2, g3, ws, by rw [upd_ne nab]; exact g4, ?_⟩
    rw [getD_set_ne ij]
    exact g5.tk tk
theorem HS.swap {i : Nat} {q : Addr} {us : List V} {its : List Item} (h : HS K H0 ha G n H hs As Ls) (o : Lone H0 ha G As q) (hq : H q = some (.lst us)) (hi : ItAll K H0 H us its) (il : i < n) :
    HS K H0 ha G n (upd H G (.lst ((As.map V.ref).set i (.ref q)))) hs (As.set i q) (Ls.set i its) := by
  have tk : Tk K H (upd H G (.lst ((As.map V.ref).set i (.ref q)))) := .of_kp (kp_upd G H _) h.hG
  have iA : i < As.length := by rw [h.la]; exact il
  have iL : i < Ls.length := by rw [h.lL]; exact il
  refine ⟨same_off h.s0 h.nG, by rw [upd_ne h.ne]; exact h.hh, h.nh, by rw [upd_same, List.map_set], h.nG, h.ne, by rw [List.length_set]; exact h.la, by rw [List.length_set]; exact h.lL, fun j a e => ?_, fun j k a e1 e2 => ?_⟩
  · by_cases ij : i = j
    · subst ij
      rw [List.getElem?_set_self iA] at e
      cases e
      exact ⟨o.n0, o.nh, o.nG, us, by rw [upd_ne o.nG]; exact hq, by rw [getD_set_eq iL]; exact hi.tk tk⟩
    · rw [List.getElem?_set_ne ij] at e
      obtain ⟨g1, g2, g3, ws, g4, g5⟩ := h.ls j a e
      exact ⟨g1, g2, g3, ws, by rw [upd_ne g3]; exact g4, by rw [getD_set_ne ij]; exact g5.tk tk⟩
  · by_cases ij : i = j
    · by_cases ik : i = k
      · exact ij.symm.trans ik
      · subst ij
        rw [List.getElem?_set_self iA] at e1
        cases e1
        rw [List.getElem?_set_ne ik] at e2
        exact absurd rfl (o.nA _ _ e2)
    · rw [List.getElem?_set_ne ij] at e1
      by_cases ik : i = k
      · subst ik
        rw [List.getElem?_set_self iA] at e2
        cases e2
        exact absurd rfl (o.nA _ _ e1)
      · rw [List.getElem?_set_ne ik] at e2
        exact h.inj _ _ _ e1 e2
theorem HS.lone (h : HS K H0 ha G n H hs As Ls) {p : Addr} (np : H p = none) : Lone H0 ha G As p := ⟨h.s0.free np, (ne_of_none h.hh np).symm, (ne_of_none h.hG np).symm, fun i a e => by
    obtain ⟨_, _, _, vs, g4, _⟩ := h.ls i a e
    exact ne_of_none g4 np⟩
theorem HS.at (h : HS K H0 ha G n H hs As Ls) {c : Int} (n1 : 1 ≤ n) (c1 : -1 ≤ c) (c2 : c < n) : ∃ a vs, As[cx n c]? = some a ∧ ixN (As.map V.ref).length c = some (cx n c) ∧ atI (As.map V.ref) c = some (.ref a) ∧ H a = some (.lst vs) ∧ ItAll K H0 H vs (Ls.getD (cx n c) []) ∧ H0 a = none ∧ a ≠ ha ∧ a ≠ G := by
  obtain ⟨e, lt⟩ := ixN_cx n1 c1 c2
  have e0 : As[cx n c]? = some (As[cx n c]'(by rw [h.la]; exact lt)) := List.getElem?_eq_getElem _
  obtain ⟨g1, g2, g3, vs, g4, g5⟩ := h.ls _ _ e0
  have ei : ixN (As.map V.ref).length c = some (cx n c) := by rw [List.length_map, h.la]; exact e
  refine ⟨_, vs, e0, ei, ?_, g4, g5, g1, g2, g3⟩
  unfold atI
  rw [ei, Option.bind_some, List.getElem?_map, e0]
  rfl
theorem len_cnt {Ls : List (List Item)} {i : Nat} : (Ls.getD i []).length ≤ cnt Ls := by
  unfold cnt
  induction Ls generalizing i with
  | nil => simp
  | cons l Ls ih =>
    cases i with
    | zero =>
      show l.length ≤ l.length + _
      omega
    | succ i =>
      have := @ih i
      show (Ls.getD i []).length ≤ l.length + (Ls.map List.length).sum
      omega
end
/-! ### raising heights -/
def sSettle : Stmt := topS 17
def sAsked : Stmt := topS 18
def meetOf (s1 s2 s3 : Nat) (a : PAsk) : Meet := a.map fun p => (ledF (p.2 * (s1 * (s2 * s3))) (ledL (p.1.getD 1 0) (p.1.getD 2 0) (p.1.getD 3 0) s1 s2 s3), p.1.getD 0 0)
def roomItems (s1 s2 s3 r : Nat) (room : List PAsk) (k : Nat) : List Item := (List.range k).flatMap fun t => room.map fun a => ⟨meetOf s1 s2 s3 a, t, r * (s1 * (s2 * s3)) + t⟩
def itemsR (s1 s2 s3 : Nat) (R : Rooms) (k : Nat) : List Item := (List.range k).flatMap fun r => roomItems s1 s2 s3 r (roomAt R r) (s1 * (s2 * s3))
def itemD (it : Item) : PyData := .tuple [mtD it.m, .int (it.t : Int), .int (it.c : Int)]
def spAsked (K : PySem.W.Frag) : Sp := fun vs H Q _ => ∃ (x : V) (sa ha : Addr) (us : List V) (R : Rooms) (s1 s2 s3 : Nat), vs = [x, .ref sa] ∧ H ha = some (.lst us) ∧ Dp K (rmv H ha) x (roomsD R) ∧ SqL K (rmv H ha) sa [.int (s1 : Int), .int (s2 : Int), .int (s3 : Int)] ∧ RmOk R ∧ SidesOk s1 s2 s3 ∧ (itemsR s1 s2 s3 R R.length).length ≤ 1000000 ∧
  ∀ q H' ps, Same H H' → H q = none → H' q = some (.lst ps) → DpAll K (rmv (rmv H' ha) q) ps ((itemsR s1 s2 s3 R R.length).map itemD) → Q (.ref q) H'
theorem line_of {n : Nat} (h : n ≤ 2000005) : n < sizeLine := by
  unfold sizeLine
  omega
theorem rmv_none {H : Hp} {a : Addr} : rmv H a a = none := if_pos rfl
theorem ledL_in {w1 w2 w3 : Int} {s1 s2 s3 : Nat} (so : SidesOk s1 s2 s3) : (ledL w1 w2 w3 s1 s2 s3).length = s1 * (s2 * s3) ∧ ∀ c ∈ ledL w1 w2 w3 s1 s2 s3, -1 ≤ c ∧ c < ((s1 * (s2 * s3) : Nat) : Int) := by
  obtain ⟨o1, o2, o3, _⟩ := so
  unfold ledL
  refine ⟨?_, ?_⟩
  · rw [ledStep_len, ledStep_len, ledStep_len, List.length_singleton, Nat.one_mul, Nat.mul_assoc]
  · have h1 : ∀ c ∈ ([0] : List Int), -1 ≤ c ∧ c < ((1 : Nat) : Int) := fun c hc => by rw [List.mem_singleton.mp hc]; exact ⟨by decide, by decide⟩
    have h2 := ledStep_in (w := w3) o3 (ledStep_in (w := w2) o2 (ledStep_in (w := w1) o1 h1))
    rw [Nat.one_mul, Nat.mul_assoc] at h2
    exact h2
theorem items_mem {s1 s2 s3 : Nat} {R : Rooms} {k : Nat} {it : Item} : it ∈ itemsR s1 s2 s3 R k ↔ ∃ r t a, r < k ∧ t < s1 * (s2 * s3) ∧ a ∈ roomAt R r ∧ it = ⟨meetOf s1 s2 s3 a, t, r * (s1 * (s2 * s3)) + t⟩ := by
  unfold itemsR roomItems
  simp only [List.mem_flatMap, List.mem_range, List.mem_map]
  constructor
  · rintro ⟨r, hr, t, ht, a, ha, rfl⟩
    exact ⟨r, t, a, hr, ht, ha, rfl⟩
  · rintro ⟨r, t, a, hr, ht, ha, rfl⟩
    exact ⟨r, hr, t, ht, a, ha, rfl⟩
theorem roomAt_mem {R : Rooms} {r : Nat} {a : PAsk} (h : a ∈ roomAt R r) : ∃ l ∈ R, a ∈ l := by
  unfold roomAt at h
  rw [List.getD_eq_getElem?_getD] at h
  cases e : R[r]? with
  | none =>
    rw [e] at h
    cases h
  | some l =>
    rw [e] at h
    exact ⟨l, List.mem_of_getElem? e, h⟩
theorem items_ok {s1 s2 s3 : Nat} {R : Rooms} (so : SidesOk s1 s2 s3) (okR : RmOk R) (ne : ∀ l ∈ R, ∀ a ∈ l, a ≠ []) : ∀ it ∈ itemsR s1 s2 s3 R R.length, ItOk (R.length * (s1 * (s2 * s3)) + 1) it := fun it hit => by
  obtain ⟨r, t, a, hr, ht, ha, rfl⟩ := items_mem.mp hit
  obtain ⟨l, ml, ma⟩ := roomAt_mem ha
  have l5 := okR.five l ml a ma
  have mul : (r + 1) * (s1 * (s2 * s3)) ≤ R.length * (s1 * (s2 * s3)) := Nat.mul_le_mul_right _ hr
  rw [Nat.succ_mul] at mul
  refine ⟨fun p hp => ?_, by show r * (s1 * (s2 * s3)) + t + 1 < _; omega, fun z => ?_, by show (a.map _).length ≤ 1000; rw [List.length_map]; omega⟩
  · obtain ⟨p0, mp0, rfl⟩ := List.mem_map.mp hp
    obtain ⟨len, bd⟩ := ledL_in (w1 := p0.1.getD 1 0) (w2 := p0.1.getD 2 0) (w3 := p0.1.getD 3 0) so
    obtain ⟨_, pR⟩ := okR.pair l ml a ma p0 mp0
    have mulp : (p0.2 + 1) * (s1 * (s2 * s3)) ≤ R.length * (s1 * (s2 * s3)) := Nat.mul_le_mul_right _ pR
    rw [Nat.succ_mul] at mulp
    have lt : t < (ledF (p0.2 * (s1 * (s2 * s3))) (ledL (p0.1.getD 1 0) (p0.1.getD 2 0) (p0.1.getD 3 0) s1 s2 s3)).length := by
      unfold ledF
      rw [List.length_map, len]
      exact ht
    refine ⟨lt, ?_⟩
    have m := getD_mem (d := (0 : Int)) lt
    generalize (ledF (p0.2 * (s1 * (s2 * s3))) (ledL (p0.1.getD 1 0) (p0.1.getD 2 0) (p0.1.getD 3 0) s1 s2 s3)).getD t 0 = z at m ⊢
    unfold ledF at m
    obtain ⟨c, hc, e⟩ := List.mem_map.mp m
    obtain ⟨c1, c2⟩ := bd c hc
    by_cases z1 : c = -1
    · rw [if_pos z1] at e
      omega
    · rw [if_neg z1] at e
      omega
  · refine ne l ml a ma ?_
    exact List.map_eq_nil_iff.mp z
def spSettle (K : PySem.W.Frag) : Sp := fun vs H Q _ => ∃ (x : V) (ha sa : Addr) (b : Int) (hs0 : List Int) (R : Rooms) (s1 s2 s3 : Nat), vs = [.ref ha, x, .ref sa, .int b] ∧ H ha = some (.lst (hs0.map V.int)) ∧ Dp K (rmv H ha) x (roomsD R) ∧ SqL K (rmv H ha) sa [.int (s1 : Int), .int (s2 : Int), .int (s3 : Int)] ∧
  RmOk R ∧ SidesOk s1 s2 s3 ∧ (∀ l ∈ R, ∀ a ∈ l, a ≠ []) ∧ (itemsR s1 s2 s3 R R.length).length ≤ 1000000 ∧ R.length * (s1 * (s2 * s3)) ≤ 1000000 ∧ hs0.length = R.length * (s1 * (s2 * s3)) ∧ 0 ≤ b ∧ b < hNone ∧ HOk b (R.length * (s1 * (s2 * s3)) + 1) (hs0 ++ [hNone]) ∧
  ∀ H' hs, Kp ha H H' → H' ha = some (.lst (hs.map V.int)) → HOk b (R.length * (s1 * (s2 * s3)) + 1) (hs ++ [hNone]) → Sol (itemsR s1 s2 s3 R R.length) (hs ++ [hNone]) → LeL (hs0 ++ [hNone]) (hs ++ [hNone]) →
    (∀ T, HOk b (R.length * (s1 * (s2 * s3)) + 1) T → LeL (hs0 ++ [hNone]) T → Sol (itemsR s1 s2 s3 R R.length) T → LeL (hs ++ [hNone]) T) → Q .non H'
theorem itAll_of {K : PySem.W.Frag} {H0 H : Hp} (s : Same H0 H) : ∀ {vs : List V} {its : List Item}, DpAll K H0 vs (its.map itemD) → ItAll K H0 H vs its
  | _, [], .nil => .nil
  | _, it :: its, .cons d r => by
    refine .cons ?_ (itAll_of s r)
    cases d with
    | @tup a vs _ hT hall =>
      cases hall with
      | @cons v1 _ _ _ d1 r1 =>
      cases r1 with
      | @cons v2 _ _ _ d2 r2 =>
      cases r2 with
      | @cons v3 _ _ _ d3 r3 =>
      cases r3
      cases d2
      cases d3
      cases d1 with
      | @lst l us _ hL all => exact ⟨a, l, rfl, s.seqT hT, .lst hL all⟩
section
variable {P : Program} {w : World} {K : PySem.W.Frag} {mg : Str → Option Value} {base : Heap}
theorem scSettle : FnScope ["heights", "rooms", "sides", "b", "asked", "leaning", "grown", "again", "column", "ask", "at", "support", "need", "_"] ["heights", "rooms", "sides", "b"] (defScope sSettle) := ⟨rfl, rfl, rfl, by decide +kernel, rfl, by decide +kernel, by decide +kernel⟩
theorem ok_settle {f fA fS fN : Addr} {fd fdA fdS fdN : FuncData} {k : Nat} {tk tn : Tok} (F : Fun K "settle" "settle" sSettle f fd)
    (GA : FnOk P w K mg base CX0 (k + 2) fA fdA ["rooms", "sides"] (spAsked K)) (kA : PySem.W.keepIn K (.ref fA) = true) (bA : Binds K fdA ["rooms", "sides"] []) (gA : mg "asked_of_columns" = some (.ref fA))
    (GS : FnOk P w K mg base CX0 (k + 2) fS fdS ["ask", "at", "heights", "height"] (spSupport K)) (kS : PySem.W.keepIn K (.ref fS) = true) (bS : Binds K fdS ["ask", "at", "heights", "height"] []) (gS : mg "first_support" = some (.ref fS))
    (GN : FnOk P w K mg base CX0 (k + 2) fN fdN ["ask", "at", "heights"] (spLNeed K)) (kN : PySem.W.keepIn K (.ref fN) = true) (bN : Binds K fdN ["ask", "at", "heights"] []) (gN : mg "least_need" = some (.ref fN))
    (gO : mg "NONE" = some (.int 1000000 tk)) (gW : mg "NOWHERE" = some (.int (-1) tn)) : FnOk P w K mg base CX0 (k + 3) f fd ["heights", "rooms", "sides", "b"] (spSettle K) := by
  refine F.ok scSettle (fun vs H Q E h => ?_) (fun cdv A outer s0 H vs Q E hr h => ?_)
  · obtain ⟨x, ha, sa, b, hs0, R, s1, s2, s3, rfl, _⟩ := h
    rfl
  · obtain ⟨x, ha, sa, b, hs0, R, s1, s2, s3, rfl, hha, hx, hsa, okR, so, ne, lI, lN, l0, b0, lb, hok, q⟩ := h
    refine ⟨_, pss_cons (ps_set (i := 4) scSettle.nd rfl (.inl rfl) (pe_call GA hr (by rfl) gA kA bA .nil pass0 (pa_cons (pv 1) (pa_cons (pv 2) pa_nil))))
      (pss_cons (ps_expr (pe_bm PySem.F.plainAttrs_list PySem.F.slot_list_append PySem.F.type_list_append mt_append (pv 0) (pa_cons (pe_glob (v := .int 1000000) (by rfl) gO ⟨_, rfl⟩) pa_nil)))
      (pss_cons (ps_setLc (i := 5) (own := [("_", 13)]) (g := gName 13) (tt := tYes) (te := tLst tNil) rfl scSettle.nd rfl rfl (sw_true rfl rfl rfl (by decide +kernel)) (pi_list (pv 0))
          (blkOk_by (N := ["heights", "rooms", "sides", "b", "asked", "leaning", "grown", "again", "column", "ask", "at", "support", "need", "_"]) (sc := defScope sSettle) (by decide +kernel))
          (fun _ _ _ _ _ => by exact pg_name (i := 13) scSettle.nd rfl (.inl rfl)) (fun _ _ _ _ _ => pts_nil)
          (fun _ _ _ _ _ => by exact pe_lst pa_nil))
      (pss_cons (ps_asg (pv 4) (pg_sub (pv 5) (pe_glob (v := .int (-1)) (by rfl) gW ⟨_, rfl⟩) set_list))
      (pss_cons (ps_set (i := 6) scSettle.nd rfl (.inl rfl) (pe_lst (pa_cons (pe_glob (v := .int (-1)) (by rfl) gW ⟨_, rfl⟩) pa_nil)))
      (pss_cons (ps_while PassesOwn.never (pt_truth (pv 6) (fun _ => rfl))
        (pss_cons (ps_set (i := 7) scSettle.nd rfl (.inl rfl) (pe_lst pa_nil))
        (pss_cons (ps_for PassesOwn.never rfl (pi_list (pv 6)) (pg_name (i := 8) scSettle.nd rfl (.inl rfl))
          (pss_cons (ps_expr (pe_bm PySem.F.plainAttrs_list PySem.F.slot_list_extend PySem.F.type_list_extend mt_extend (pv 7) (pa_cons (pe_ix ix_list (pv 5) (pv 8) (fun _ _ => rfl)) pa_nil)))
          (pss_one (ps_asg (pe_lst pa_nil) (pg_sub (pv 5) (pv 8) set_list)))))
        (pss_cons (ps_set (i := 6) scSettle.nd rfl (.inl rfl) (pe_lst pa_nil))
        (pss_one (ps_for PassesOwn.never rfl (pi_list (pv 7)) (pg_tup rfl (pgs_cons (pg_name (i := 9) scSettle.nd rfl (.inl rfl)) (pgs_cons (pg_name (i := 10) scSettle.nd rfl (.inl rfl)) (pgs_cons (pg_name (i := 8) scSettle.nd rfl (.inl rfl)) pgs_nil))))
          (pss_one (ps_if (pt_cmpR op_lt (pe_ix ix_list (pv 0) (pv 8) (fun _ _ => rfl)) (pe_glob (v := .int 1000000) (by rfl) gO ⟨_, rfl⟩) (nomark _))
            (pss_cons (ps_set (i := 11) scSettle.nd rfl (.inl rfl) (pe_call GS hr (by rfl) gS kS bS .nil pass0 (pa_cons (pv 9) (pa_cons (pv 10) (pa_cons (pv 0) (pa_cons (pe_ix ix_list (pv 0) (pv 8) (fun _ _ => rfl)) pa_nil))))))
            (pss_cut (ps_if (pt_cmpR op_isN (pv 11) pe_non (nomark _))
                (pss_cons (ps_asg (pe_call GN hr (by rfl) gN kN bN .nil pass0 (pa_cons (pv 9) (pa_cons (pv 10) (pa_cons (pv 0) pa_nil)))) (pg_tup rfl (pgs_cons (pg_name (i := 12) scSettle.nd rfl (.inl rfl)) (pgs_cons (pg_name (i := 11) scSettle.nd rfl (.inl rfl)) pgs_nil))))
                (pss_cons (ps_asg (pe_ifExp (pt_cmpR op_le (pv 12) (pv 3) (nomark _)) (pv 12) (pe_glob (v := .int 1000000) (by rfl) gO ⟨_, rfl⟩)) (pg_sub (pv 0) (pv 8) set_list))
                (pss_one (ps_expr (pe_bm PySem.F.plainAttrs_list PySem.F.slot_list_append PySem.F.type_list_append mt_append (pv 6) (pa_cons (pv 8) pa_nil)))))) pss_nil)
            (pss_one (ps_expr (pe_bm PySem.F.plainAttrs_list PySem.F.slot_list_append PySem.F.type_list_append mt_append (pe_ix ix_list (pv 5) (pv 11) (fun _ _ => rfl)) (pa_cons (pe_tup (pa_cons (pv 9) (pa_cons (pv 10) (pa_cons (pv 8) pa_nil)))) pa_nil)))))) pss_nil))))))))
      (pss_one (ps_expr (pe_bm0 PySem.F.plainAttrs_list PySem.F.slot_list_pop PySem.F.type_list_pop mt_pop (pv 0))))))))), ?_⟩
    refine ⟨_, rfl, _, rfl, x, sa, ha, _, R, s1, s2, s3, rfl, hha, hx, hsa, okR, so, lI, fun qa H1 ps sm1 nq hq dps => ?_⟩
    have iok := items_ok so okR ne
    generalize itemsR s1 s2 s3 R R.length = items at q iok dps lI
    obtain ⟨n, en⟩ : ∃ n, R.length * (s1 * (s2 * s3)) + 1 = n := ⟨_, rfl⟩
    rw [en] at hok iok
    simp only [en] at q
    have n1 := hok.pos
    have hha1 := sm1 _ _ hha
    have nqa : qa ≠ ha := (ne_of_none hha nq).symm
    -- heights.append(NONE)
    refine ⟨_, rfl, .inl ⟨rfl, _, SqL.of hha1⟩, ha, _, _, rfl, rfl, hha1, line_of (by rw [List.length_map]; omega), ?_⟩
    have e1 : hs0.map V.int ++ [V.int 1000000] = (hs0 ++ [hNone]).map V.int := by rw [List.map_append]; rfl
    obtain ⟨H0, eH0⟩ : ∃ H0, H0 = rmv (rmv H1 ha) qa := ⟨_, rfl⟩
    rw [← eH0] at dps
    have n0a : H0 ha = none := by
      rw [eH0, rmv_ne nqa.symm]
      exact rmv_none
    have n0q : H0 qa = none := by
      rw [eH0]
      exact rmv_none
    have toH : ∀ b o, H b = some o → b ≠ ha → H0 b = some o := fun b o e nb => by
      rw [eH0, rmv_ne (ne_of_none e nq), rmv_ne nb]
      exact sm1 _ _ e
    obtain ⟨H2, eH2⟩ : ∃ H2, H2 = upd H1 ha (.lst (hs0.map V.int ++ [V.int 1000000])) := ⟨_, rfl⟩
    rw [← eH2]
    have hh2 : H2 ha = some (.lst ((hs0 ++ [hNone]).map V.int)) := by rw [eH2, upd_same, e1]
    have hq2 : H2 qa = some (.lst ps) := by rw [eH2, upd_ne nqa]; exact hq
    have s02 : Same H0 H2 := fun b o e => by
      rw [eH0] at e
      obtain ⟨n1, e⟩ := rmv_some e
      obtain ⟨n2, e⟩ := rmv_some e
      rw [eH2, upd_ne n2]
      exact e
    have ln0 : (hs0 ++ [hNone]).length = n := hok.len
    -- the lists of what leans on a column
    refine ⟨_, rfl, ha, rfl, ⟨_, SqL.of hh2⟩, fun G nG => ?_⟩
    have sG := same_upd (o := .lst []) nG
    refine lc_list (K := K) (a := ha) (xs := (hs0 ++ [hNone]).map V.int) (fun j H3 => Same H2 H3 ∧ ∃ As : List Addr, H3 G = some (.lst (As.map V.ref)) ∧ As.length = j ∧ (∀ (i : Nat) (a : Addr), As[i]? = some a → H2 a = none ∧ a ≠ G ∧ H3 a = some (.lst [])) ∧ ∀ (i l : Nat) (a : Addr), As[i]? = some a → As[l]? = some a → i = l)
      ⟨sG, [], upd_same, rfl, fun i a e => (nomatch e), fun i l a e => (nomatch e)⟩ (fun j H3 _ ⟨s3, _⟩ => SqL.of (s3 _ _ hh2)) ?_ ?_
    · rintro j v H3 hj ⟨s3, As, hG, lA, hA, inj⟩
      have lj : j < n := by
        have := (List.getElem?_eq_some_iff.mp hj).1
        rw [List.length_map] at this
        omega
      refine ⟨rfl, ?_⟩
      refine ⟨by show 0 ≤ sizeLine; decide, fun a nA => ?_⟩
      have sA := same_upd (o := .lst []) nA
      have nAG : a ≠ G := (ne_of_none hG nA).symm
      have new : ∀ (i : Nat) (b : Addr), As[i]? = some b → b ≠ a := fun i b e => ne_of_none (hA i b e).2.2 nA
      refine ⟨_, sA _ _ hG, line_of (by rw [List.length_map]; omega), fun b o e => ?_, As ++ [a], by rw [upd_same, List.map_append]; rfl, by rw [List.length_append, lA]; rfl, fun i b e => ?_, fun i l b e1 e2 => ?_⟩
      · rw [upd_ne (ne_of_none e nG)]
        exact sA _ _ (s3 _ _ e)
      · by_cases z : i < As.length
        · rw [List.getElem?_append_left z] at e
          obtain ⟨h1, h2, h3⟩ := hA i b e
          exact ⟨h1, h2, by rw [upd_ne h2]; exact sA _ _ h3⟩
        · rw [List.getElem?_append_right (by omega)] at e
          have : i - As.length = 0 := by
            have := (List.getElem?_eq_some_iff.mp e).1
            rw [List.length_singleton] at this
            omega
          rw [this] at e
          cases e
          exact ⟨s3.free nA, nAG, by rw [upd_ne nAG, upd_same]⟩
      · have lst : ∀ m : Nat, (As ++ [a])[m]? = some b → (m < As.length ∧ As[m]? = some b) ∨ (m = As.length ∧ b = a) := fun m e => by
          by_cases z : m < As.length
          · rw [List.getElem?_append_left z] at e
            exact .inl ⟨z, e⟩
          · rw [List.getElem?_append_right (by omega)] at e
            have : m - As.length = 0 := by
              have := (List.getElem?_eq_some_iff.mp e).1
              rw [List.length_singleton] at this
              omega
            rw [this] at e
            cases e
            exact .inr ⟨by omega, rfl⟩
        rcases lst i e1 with ⟨_, y1⟩ | ⟨y1, z1⟩
        · rcases lst l e2 with ⟨_, y2⟩ | ⟨_, z2⟩
          · exact inj i l b y1 y2
          · exact absurd z2 (new i b y1)
        · rcases lst l e2 with ⟨_, y2⟩ | ⟨y2, _⟩
          · exact absurd z1 (new l b y2)
          · rw [y1, y2]
    rintro H3 ⟨s3, As, hG, lA, hA, inj⟩
    rw [List.length_map, ln0] at lA
    have hs3 : HS K H0 ha G n H3 (hs0 ++ [hNone]) As (List.replicate n []) := by
      refine ⟨s02.trans s3, s3 _ _ hh2, n0a, hG, s02.free nG, ne_of_none hh2 nG, lA, List.length_replicate, fun i a e => ?_, inj⟩
      obtain ⟨h1, h2, h3⟩ := hA i a e
      refine ⟨s02.free h1, (ne_of_none hh2 h1).symm, h2, [], h3, ?_⟩
      rw [List.getD_eq_getElem?_getD, List.getElem?_replicate]
      split <;> exact .nil
    have lq : Lone H0 ha G As qa := ⟨n0q, nqa, ne_of_none hq2 nG, fun i a e => (ne_of_none hq2 (hA i a e).1).symm⟩
    -- all asks are still to do
    obtain ⟨ei, ilt⟩ := ixN_cx n1 (show (-1 : Int) ≤ -1 by decide) (show (-1 : Int) < n by omega)
    refine ⟨_, rfl, _, rfl, G, _, _, _, rfl, rfl, hG, by rw [List.length_map, lA]; exact ei, ?_⟩
    have hs4 := hs3.swap lq (s3 _ _ hq2) (itAll_of (s02.trans s3) dps) ilt
    generalize upd H3 G (.lst ((As.map V.ref).set (cx n (-1)) (.ref qa))) = H4 at hs4 ⊢
    have iv4 : SInv b n 1000000 items (hs0 ++ [hNone]) (hs0 ++ [hNone]) ((List.replicate n []).set (cx n (-1)) items) [-1] [] := SInv.start hok iok lI
    generalize (List.replicate n []).set (cx n (-1)) items = Ls0 at hs4 iv4
    generalize As.set (cx n (-1)) qa = As0 at hs4
    generalize hs0 ++ [hNone] = hb at hs4 iv4 q
    -- grown = [NOWHERE]
    refine ⟨by show 1 ≤ sizeLine; decide, fun g0 ng0 => ?_⟩
    have sg0 := same_upd (o := .lst [V.int (-1)]) ng0
    refine ⟨fun t σ H' => ∃ (g : Addr) (y7 y8 y9 y10 y11 y12 : Option V) (hs : List Int) (As : List Addr) (Ls : List (List Item)) (gs : List Int), σ = [some (.ref ha), some x, some (.ref sa), some (.int b), some (.ref qa), some (.ref G), some (.ref g), y7, y8, y9, y10, y11, y12, none] ∧
        HS K H0 ha G n H' hs As Ls ∧ SInv b n 1000000 items hb hs Ls gs [] ∧ H' g = some (.lst (gs.map V.int)) ∧ Lone H0 ha G As g ∧ gs.length ≤ 1000001 ∧ t = (if gs = [] then 0 else mu b hs + 1),
      ⟨_, g0, none, none, none, none, none, none, hb, As0, Ls0, [-1], rfl, hs4.same sg0, iv4, upd_same, hs4.lone ng0, by decide, rfl⟩, ?_⟩
    rintro t σ H' ⟨g, y7, y8, y9, y10, y11, y12, hs, As, Ls, gs, rfl, hS, iv, hg, lg, lgs, et⟩
    refine ⟨_, rfl, (!(gs.map V.int).isEmpty), .inl ⟨_, SqL.of hg, rfl⟩, ?_⟩
    cases gs with
    | nil =>
      refine ifF rfl ?_
      obtain ⟨hs', eh⟩ : ∃ hs', hs = hs' ++ [hNone] := by
        have l1 := iv.ok.len
        have ne : hs ≠ [] := fun z => by rw [z] at l1; simp at l1; omega
        refine ⟨hs.dropLast, ?_⟩
        have e := List.dropLast_concat_getLast ne
        have e2 : hs.getLast ne = hNone := by
          rw [← iv.ok.top, ← l1, List.getLast_eq_getElem, List.getD_eq_getElem?_getD, List.getElem?_eq_getElem (by omega), Option.getD_some]
        rw [e2] at e
        exact e.symm
      subst eh
      have hh := hS.hh
      refine ⟨_, rfl, .inl ⟨rfl, _, SqL.of hh⟩, ha, _, .int hNone, rfl, rfl, hh, ?_, ?_⟩
      · rw [List.length_map, List.length_append, List.length_singleton, List.map_append, List.getElem?_append_right (by rw [List.length_map]; omega), List.length_map, show hs'.length + 1 - 1 - hs'.length = 0 by omega]
        rfl
      · refine q _ hs' (fun b o e nb => ?_) ?_ iv.ok iv.done iv.up iv.snd
        · rw [upd_ne nb]
          exact hS.s0 _ _ (toH b o e nb)
        · rw [upd_same, List.map_append]
          show some (HO.lst ((hs'.map V.int ++ [V.int hNone]).dropLast)) = _
          rw [List.dropLast_concat]
    | cons c0 gs =>
      refine ifT rfl ⟨fun σ' H' => ∃ m', m' < t ∧ ∃ (g : Addr) (y7 y8 y9 y10 y11 y12 : Option V) (hs : List Int) (As : List Addr) (Ls : List (List Item)) (gs : List Int), σ' = [some (.ref ha), some x, some (.ref sa), some (.int b), some (.ref qa), some (.ref G), some (.ref g), y7, y8, y9, y10, y11, y12, none] ∧
        HS K H0 ha G n H' hs As Ls ∧ SInv b n 1000000 items hb hs Ls gs [] ∧ H' g = some (.lst (gs.map V.int)) ∧ Lone H0 ha G As g ∧ gs.length ≤ 1000001 ∧ m' = (if gs = [] then 0 else mu b hs + 1), fun _ _ z => z, ?_⟩
      rw [if_neg (List.cons_ne_nil _ _)] at et
      -- again = []
      refine ⟨by show 0 ≤ sizeLine; decide, fun A nA => ?_⟩
      have sA := same_upd (o := .lst []) nA
      have ngA : g ≠ A := ne_of_none hg nA
      have lA := hS.lone nA
      have hg' := sA _ _ hg
      have hS' := hS.same sA
      have hA0 : upd H' A (.lst []) A = some (.lst []) := upd_same
      generalize upd H' A (.lst []) = H5 at hg' hS' hA0 ⊢
      refine ⟨_, rfl, g, rfl, ⟨_, SqL.of hg'⟩, ?_⟩
      refine for_list (K := K) (a := g) (xs := (c0 :: gs).map V.int) (fun j σ H6 => ∃ (y8 : Option V) (As : List Addr) (Ls : List (List Item)) (avs : List V) (Rest : List Item), σ = [some (.ref ha), some x, some (.ref sa), some (.int b), some (.ref qa), some (.ref G), some (.ref g), some (.ref A), y8, y9, y10, y11, y12, none] ∧
          HS K H0 ha G n H6 hs As Ls ∧ SInv b n 1000000 items hb hs Ls ((c0 :: gs).drop j) Rest ∧ H6 g = some (.lst ((c0 :: gs).map V.int)) ∧ Lone H0 ha G As g ∧ H6 A = some (.lst avs) ∧ ItAll K H0 H6 avs Rest ∧ Lone H0 ha G As A)
        ⟨y8, As, Ls, [], [], rfl, hS', iv, hg', lg, hA0, .nil, lA⟩ (fun j σ H6 _ ⟨_, _, _, _, _, _, _, _, e, _⟩ => SqL.of e) ?_ ?_
      · rintro j v σ H6 hj ⟨y8, As, Ls, avs, Rest, rfl, h6, iv6, hg6, lg6, hA6, all6, lA6⟩
        obtain ⟨c, hc, rfl⟩ := ints_get hj
        rw [List.drop_eq_getElem_cons (List.getElem?_eq_some_iff.mp hc).1, (List.getElem?_eq_some_iff.mp hc).2] at iv6
        obtain ⟨c1, c2⟩ := iv6.gr c List.mem_cons_self
        obtain ⟨a, us, ea, ixc, atc, hus, allu, na0, nah, naG⟩ := h6.at n1 c1 c2
        have few := iv6.few
        have lus := allu.len
        have lav := all6.len
        have lc := len_cnt (Ls := Ls) (i := cx n c)
        refine ⟨_, rfl, .inl ⟨rfl, _, SqL.of hA6⟩, _, rfl, _, rfl, G, _, _, _, rfl, rfl, SqL.of h6.hG, atc, A, a, avs, us, rfl, rfl, hA6, hus, by unfold sizeLine; omega, ?_⟩
        have h7 := h6.other (ws := avs ++ us) lA6 hA6
        have tk7 : Tk K H6 (upd H6 A (.lst (avs ++ us))) := .of_kp (kp_upd A H6 _) hA6
        have hg7 : upd H6 A (.lst (avs ++ us)) g = some (.lst ((c0 :: gs).map V.int)) := by rw [upd_ne ngA]; exact hg6
        have hA7 : upd H6 A (.lst (avs ++ us)) A = some (.lst (avs ++ us)) := upd_same
        have all7 := (all6.app allu).tk tk7
        generalize upd H6 A (.lst (avs ++ us)) = H7 at h7 hg7 hA7 all7 ⊢
        -- leaning[column] = []
        refine ⟨by show 0 ≤ sizeLine; decide, fun p np => ?_⟩
        have sp := same_upd (o := .lst []) np
        have lp := h7.lone np
        have h8 := h7.same sp
        have hG8 := h8.hG
        refine ⟨_, rfl, _, rfl, G, _, _, _, rfl, rfl, hG8, ixc, ?_⟩
        have h9 := h8.swap lp upd_same .nil (ixN_cx n1 c1 c2).2
        have kG : Kp G (upd H7 p (.lst [])) (upd (upd H7 p (.lst [])) G (.lst ((As.map V.ref).set (cx n c) (.ref p)))) := kp_upd G _ _
        exact ⟨_, _, _, _, _, rfl, h9, iv6.take, kG _ _ (sp _ _ hg7) lg6.nG, lg6.set (ne_of_none hg7 np).symm, kG _ _ (sp _ _ hA7) lA6.nG, (all7.tk (.of_same sp)).tk (.of_kp kG hG8), lA6.set (ne_of_none hA7 np).symm⟩
      · rintro σ H6 ⟨y8, As, Ls, avs, Rest, rfl, h6, iv6, hg6, lg6, hA6, all6, lA6⟩
        rw [List.length_map, List.drop_length] at iv6
        -- grown = []
        refine ⟨by show 0 ≤ sizeLine; decide, fun g2 ng2 => ?_⟩
        have sg2 := same_upd (o := .lst []) ng2
        have lg2 := h6.lone ng2
        have nA2 : A ≠ g2 := ne_of_none hA6 ng2
        have h7 := h6.same sg2
        have hA7 := sg2 _ _ hA6
        have all7 := all6.tk (.of_same sg2)
        have hg7 : upd H6 g2 (.lst []) g2 = some (.lst ([].map V.int)) := upd_same
        generalize upd H6 g2 (.lst []) = H7 at h7 hA7 all7 hg7 ⊢
        have fewR := iv6.few
        have lav := all7.len
        refine ⟨_, rfl, A, rfl, ⟨_, SqL.of hA7⟩, ?_⟩
        refine for_list (K := K) (a := A) (xs := avs) (fun j σ H8 => ∃ (y8 y9 y10 y11 y12 : Option V) (hs2 : List Int) (Ls : List (List Item)) (gs2 : List Int), σ = [some (.ref ha), some x, some (.ref sa), some (.int b), some (.ref qa), some (.ref G), some (.ref g2), some (.ref A), y8, y9, y10, y11, y12, none] ∧
            HS K H0 ha G n H8 hs2 As Ls ∧ SInv b n 1000000 items hb hs2 Ls gs2 (Rest.drop j) ∧ H8 g2 = some (.lst (gs2.map V.int)) ∧ H8 A = some (.lst avs) ∧ ItAll K H0 H8 avs Rest ∧ gs2.length ≤ j ∧ mu b hs2 ≤ mu b hs ∧ (gs2 ≠ [] → mu b hs2 < mu b hs))
          ⟨y8, y9, y10, y11, y12, hs, Ls, [], rfl, h7, iv6, hg7, hA7, all7, Nat.le_refl _, Nat.le_refl _, fun z => absurd rfl z⟩ (fun j σ H8 _ ⟨_, _, _, _, _, _, _, _, _, _, _, _, e, _⟩ => SqL.of e) ?_ ?_
        · rintro j v σ H8 hj ⟨y8, y9, y10, y11, y12, hs2, Ls, gs2, rfl, h8, iv8, hg8, hA8, all8, lg8, m1, m2⟩
          obtain ⟨it, hit, a, l, rfl, hT, hD⟩ := all8.get hj
          have jl := (List.getElem?_eq_some_iff.mp hj).1
          rw [List.drop_eq_getElem_cons (List.getElem?_eq_some_iff.mp hit).1, (List.getElem?_eq_some_iff.mp hit).2] at iv8
          have ok := iok it (iv8.subR it List.mem_cons_self)
          have okw := ok.w
          have okc := ok.c
          have l2 := iv8.ok.len
          have hh8 := h8.hh
          have d8 := dp_same h8.s0 hD
          have ltc : it.c < hs2.length := by omega
          have atc : atI (hs2.map V.int) ((it.c : Nat) : Int) = some (.int (hs2.getD it.c 0)) := by
            refine atI_nat ?_
            rw [List.getElem?_map, List.getElem?_eq_getElem ltc, List.getD_eq_getElem?_getD, List.getElem?_eq_getElem ltc]
            rfl
          refine ⟨a, _, rfl, hT, rfl, _, _, rfl, _, _, rfl, _, _, rfl, rfl, ?_⟩
          simp only [List.set_cons_succ, List.set_cons_zero]
          refine ⟨_, rfl, _, rfl, ha, _, _, _, rfl, rfl, SqL.of hh8, atc, _, _, rfl, rfl, _, rfl, ite2 (fun lo => ?_) fun lo => ?_⟩
          · have lo : hs2.getD it.c 0 < hNone := of_decide_eq_true lo
            refine ⟨_, rfl, _, rfl, _, rfl, _, rfl, _, rfl, ha, _, _, _, rfl, rfl, SqL.of hh8, atc, l, ha, it.t, hs2.getD it.c 0, it.m, hs2, rfl, d8, SqL.of hh8, by omega, by rw [l2]; exact okw, fun r hno hyes => ?_⟩
            simp only [List.set_cons_succ, List.set_cons_zero]
            refine ⟨fun σ' H9 => ∃ (y12 : Option V) (hs3 : List Int) (gs3 : List Int) (q3 : Int × Int), σ' = [some (.ref ha), some x, some (.ref sa), some (.int b), some (.ref qa), some (.ref G), some (.ref g2), some (.ref A), some (.int (it.c : Int)), some (.ref l), some (.int (it.t : Int)), some (.int q3.1), y12, none] ∧
                HS K H0 ha G n H9 hs3 As Ls ∧ q3 ∈ wt it.m it.t ∧ SInv b n 1000000 items hb hs3 (Ls.set (cx n q3.1) (Ls.getD (cx n q3.1) [] ++ [it])) gs3 (Rest.drop (j + 1)) ∧ H9 g2 = some (.lst (gs3.map V.int)) ∧ H9 A = some (.lst avs) ∧ ItAll K H0 H9 avs Rest ∧ gs3.length ≤ j + 1 ∧ mu b hs3 ≤ mu b hs ∧ (gs3 ≠ [] → mu b hs3 < mu b hs), ?_, ?_⟩
            · cases r with
              | some c =>
                obtain ⟨q3, hq3, rfl, le⟩ := hyes c rfl
                refine ⟨_, rfl, rfl, _, rfl, ifF rfl ?_⟩
                exact ⟨y12, hs2, gs2, q3, rfl, h8, hq3, iv8.lean ok hq3 le, hg8, hA8, all8, by omega, m1, m2⟩
              | none =>
                refine ⟨_, rfl, rfl, _, rfl, ifT rfl ?_⟩
                refine ⟨_, rfl, _, rfl, _, rfl, l, ha, it.t, it.m, hs2, rfl, d8, SqL.of hh8, by omega, by rw [l2]; exact okw, ok.ne, ok.few, fun ta H9 q3 s9 hq3 least hT9 => ?_⟩
                refine ⟨ta, _, rfl, hT9, rfl, _, _, rfl, _, _, rfl, rfl, ?_⟩
                simp only [List.set_cons_succ, List.set_cons_zero]
                have h9 := h8.same s9
                have hh9 := h9.hh
                have hg9 := s9 _ _ hg8
                have hA9 := s9 _ _ hA8
                have all9 := all8.tk (.of_same s9)
                have ixc : ixN (hs2.map V.int).length ((it.c : Nat) : Int) = some it.c := by
                  have e := (ixN_cx n1 (show (-1 : Int) ≤ (it.c : Int) by omega) (show (it.c : Int) < n by omega)).1
                  rw [cx_nat] at e
                  rw [List.length_map, l2]
                  exact e
                have fin : ∀ v : Int, v = (if hv hs2 q3.1 - q3.2 ≤ b then hv hs2 q3.1 - q3.2 else hNone) → ∃ (y12 : Option V) (hs3 : List Int) (gs3 : List Int) (q4 : Int × Int), [some (V.ref ha), some x, some (.ref sa), some (.int b), some (.ref qa), some (.ref G), some (.ref g2), some (.ref A), some (.int (it.c : Int)), some (.ref l), some (.int (it.t : Int)), some (.int q3.1), some (.int (hv hs2 q3.1 - q3.2)), none] = [some (.ref ha), some x, some (.ref sa), some (.int b), some (.ref qa), some (.ref G), some (.ref g2), some (.ref A), some (.int (it.c : Int)), some (.ref l), some (.int (it.t : Int)), some (.int q4.1), y12, none] ∧
                    HS K H0 ha G n (upd (upd H9 ha (.lst ((hs2.map V.int).set it.c (.int v)))) g2 (.lst (gs2.map V.int ++ [.int (it.c : Int)]))) hs3 As Ls ∧ q4 ∈ wt it.m it.t ∧ SInv b n 1000000 items hb hs3 (Ls.set (cx n q4.1) (Ls.getD (cx n q4.1) [] ++ [it])) gs3 (Rest.drop (j + 1)) ∧ (upd (upd H9 ha (.lst ((hs2.map V.int).set it.c (.int v)))) g2 (.lst (gs2.map V.int ++ [.int (it.c : Int)]))) g2 = some (.lst (gs3.map V.int)) ∧ (upd (upd H9 ha (.lst ((hs2.map V.int).set it.c (.int v)))) g2 (.lst (gs2.map V.int ++ [.int (it.c : Int)]))) A = some (.lst avs) ∧
                    ItAll K H0 (upd (upd H9 ha (.lst ((hs2.map V.int).set it.c (.int v)))) g2 (.lst (gs2.map V.int ++ [.int (it.c : Int)]))) avs Rest ∧ gs3.length ≤ j + 1 ∧ mu b hs3 ≤ mu b hs ∧ (gs3 ≠ [] → mu b hs3 < mu b hs) := fun v ev => by
                  obtain ⟨iv9, lt9⟩ := iv8.raise b0 lb ok lo hq3 (hno rfl) least ev
                  have hg10 : upd H9 ha (.lst ((hs2.map V.int).set it.c (.int v))) g2 = some (.lst (gs2.map V.int)) := by rw [upd_ne lg2.nh]; exact hg9
                  have h10 := (h9.high (i := it.c) (v := v)).other (ws := gs2.map V.int ++ [.int (it.c : Int)]) lg2 hg10
                  refine ⟨_, _, _, q3, rfl, h10, hq3, iv9, by rw [upd_same, List.map_append]; rfl, ?_, (all9.tk (.of_kp (kp_upd ha H9 _) hh9)).tk (.of_kp (kp_upd g2 _ _) hg10), by rw [List.length_append]; exact Nat.succ_le_succ lg8, by omega, fun _ => by omega⟩
                  rw [upd_ne nA2, upd_ne lA6.nh]
                  exact hA9
                have tail : ∀ v : Int, v = (if hv hs2 q3.1 - q3.2 ≤ b then hv hs2 q3.1 - q3.2 else hNone) → upd H9 ha (.lst ((hs2.map V.int).set it.c (.int v))) g2 = some (.lst (gs2.map V.int)) := fun v _ => by rw [upd_ne lg2.nh]; exact hg9
                refine ⟨_, rfl, _, rfl, _, _, rfl, rfl, _, rfl, ite2 (fun c => ?_) fun c => ?_⟩
                · have c := of_decide_eq_true c
                  have ev : hv hs2 q3.1 - q3.2 = (if hv hs2 q3.1 - q3.2 ≤ b then hv hs2 q3.1 - q3.2 else hNone) := (if_pos c).symm
                  refine ⟨_, rfl, _, rfl, _, rfl, ha, _, _, it.c, rfl, rfl, hh9, ixc, ?_⟩
                  exact ⟨_, rfl, .inl ⟨rfl, _, SqL.of (tail _ ev)⟩, _, rfl, g2, _, _, rfl, rfl, tail _ ev, line_of (by rw [List.length_map]; omega), fin _ ev⟩
                · have ev : hNone = (if hv hs2 q3.1 - q3.2 ≤ b then hv hs2 q3.1 - q3.2 else hNone) := (if_neg fun z => c (decide_eq_true z)).symm
                  refine ⟨_, rfl, _, rfl, ha, _, _, it.c, rfl, rfl, hh9, ixc, ?_⟩
                  exact ⟨_, rfl, .inl ⟨rfl, _, SqL.of (tail _ ev)⟩, _, rfl, g2, _, _, rfl, rfl, tail _ ev, line_of (by rw [List.length_map]; omega), fin _ ev⟩
            · rintro σ' H9 ⟨y12, hs3, gs3, q3, rfl, h9, hq3, iv9, hg9, hA9, all9, lg9, m3, m4⟩
              obtain ⟨c1, c2⟩ := wt_ok okw q3 hq3
              obtain ⟨a3, us, ea, ixq, atq, hus, allu, na0, nah, naG⟩ := h9.at n1 c1 c2
              have hG9 := h9.hG
              have lus := allu.len
              have lc := len_cnt (Ls := Ls.set (cx n q3.1) (Ls.getD (cx n q3.1) [] ++ [it])) (i := cx n q3.1)
              rw [getD_set_eq (by rw [h9.lL]; exact (ixN_cx n1 c1 c2).2), List.length_append] at lc
              have few9 := iv9.few
              refine ⟨_, rfl, _, rfl, G, _, _, _, rfl, rfl, SqL.of hG9, atq, .inl ⟨rfl, _, SqL.of hus⟩, _, rfl, _, rfl, _, rfl, by show 3 ≤ sizeLine; decide, fun U nU => ?_⟩
              have sU := same_upd (o := .tup [V.ref l, V.int (it.t : Int), V.int (it.c : Int)]) nU
              have hu := sU _ _ hus
              have n3 : a3 ≠ A := lA6.nA _ _ ea
              have n4 : a3 ≠ g2 := lg2.nA _ _ ea
              refine ⟨a3, _, _, rfl, rfl, hu, line_of (by omega), ?_⟩
              have h10 := (h9.same sU).put ea hu (it := it) ⟨U, l, rfl, SqT.of upd_same, hD⟩
              exact ⟨_, _, _, _, _, hs3, _, gs3, rfl, h10, iv9, by rw [upd_ne n4.symm]; exact sU _ _ hg9, by rw [upd_ne n3.symm]; exact sU _ _ hA9, (all9.tk (.of_same sU)).tk (.of_kp (kp_upd a3 _ _) hu), lg9, m3, m4⟩
          · have lo : ¬ hs2.getD it.c 0 < hNone := fun z => lo (decide_eq_true z)
            exact ⟨_, _, _, _, _, hs2, Ls, gs2, rfl, h8, iv8.over lo lb ok, hg8, hA8, all8, by omega, m1, m2⟩
        · rintro σ H8 ⟨y8, y9, y10, y11, y12, hs2, Ls, gs2, rfl, h8, iv8, hg8, hA8, all8, lg8, m1, m2⟩
          rw [lav, List.drop_length] at iv8
          refine ⟨_, ?_, g2, _, _, _, _, _, _, hs2, As, Ls, gs2, rfl, h8, iv8, hg8, lg2, by omega, rfl⟩
          rw [et]
          by_cases z : gs2 = []
          · rw [if_pos z]
            omega
          · rw [if_neg z]
            have := m2 z
            omega
end
/-! ### all that is asked of columns -/
def off (S : List Addr) (H : Hp) : Hp := fun b => if b ∈ S then none else H b
theorem off_ne {S : List Addr} {H : Hp} {b : Addr} (h : b ∉ S) : off S H b = H b := if_neg h
theorem off_some {S : List Addr} {H : Hp} {b : Addr} {o : HO} (e : off S H b = some o) : b ∉ S ∧ H b = some o := by
  unfold off at e
  by_cases z : b ∈ S
  · rw [if_pos z] at e
    cases e
  · rw [if_neg z] at e
    exact ⟨z, e⟩
theorem off_to {S T : List Addr} {H H' : Hp} (k : ∀ b o, b ∉ S → H b = some o → b ∉ T ∧ H' b = some o) : Same (off S H) (off T H') := fun b o e => by
  obtain ⟨n, e⟩ := off_some e
  obtain ⟨n2, e2⟩ := k b o n e
  rw [off_ne n2]
  exact e2
theorem off_all {S : List Addr} {H : Hp} : Same (off S H) H := fun _ _ e => (off_some e).2
theorem rI_mul {a c : Int} {H : Hp} {Q : VK} (h : -(2 ^ 64) < a ∧ a < 2 ^ 64) (q : Q (.int (a * c)) H) : rI CMul (fun i j => .int (i * j)) (.int a) (.int c) H Q := ⟨a, c, rfl, rfl, .inl h, q⟩
theorem ofs_item {K : PySem.W.Frag} {H : Hp} {U : Addr} {v : V} {m : Meet} {t c : Nat} (hU : H U = some (.tup [v, .int (t : Int), .int (c : Int)])) (hv : Dp K H v (mtD m)) : Dp K H (.ref U) (itemD ⟨m, t, c⟩) :=
  .tup (SqT.of hU) (.cons hv (.cons (.int _) (.cons (.int _) .nil)))
theorem items_snoc {s1 s2 s3 : Nat} {R : Rooms} {k : Nat} : itemsR s1 s2 s3 R (k + 1) = itemsR s1 s2 s3 R k ++ roomItems s1 s2 s3 k (roomAt R k) (s1 * (s2 * s3)) := range_snoc _ _
theorem roomItems_snoc {s1 s2 s3 r : Nat} {room : List PAsk} {k : Nat} : roomItems s1 s2 s3 r room (k + 1) = roomItems s1 s2 s3 r room k ++ room.map fun a => ⟨meetOf s1 s2 s3 a, k, r * (s1 * (s2 * s3)) + k⟩ := range_snoc _ _
theorem roomItems_len {s1 s2 s3 r : Nat} {room : List PAsk} {k : Nat} : (roomItems s1 s2 s3 r room k).length = k * room.length := by
  unfold roomItems
  rw [boxflat_len (q := room.length) fun x => by rw [List.length_map], List.length_range]
theorem items_le {s1 s2 s3 : Nat} {R : Rooms} {k m : Nat} (h : k ≤ m) : (itemsR s1 s2 s3 R k).length ≤ (itemsR s1 s2 s3 R m).length := by
  obtain ⟨d, rfl⟩ := Nat.le.dest h
  clear h
  induction d with
  | zero => exact Nat.le_refl _
  | succ d ih =>
    rw [← Nat.add_assoc, items_snoc, List.length_append]
    omega
section
variable {P : Program} {w : World} {K : PySem.W.Frag} {mg : Str → Option Value} {base : Heap}
theorem scAsked : FnScope ["rooms", "sides", "many", "asked", "number", "room", "meetings", "ask", "way", "to", "at"] ["rooms", "sides"] (defScope sAsked) := ⟨rfl, rfl, rfl, by decide +kernel, rfl, by decide +kernel, by decide +kernel⟩
theorem ok_asked {f fL : Addr} {fd fdL : FuncData} {k : Nat} (F : Fun K "asked_of_columns" "asked_of_columns" sAsked f fd)
    (GL : FnOk P w K mg base CX0 (k + 1) fL fdL ["way", "sides", "first"] (spLedTo K)) (kL : PySem.W.keepIn K (.ref fL) = true) (bL : Binds K fdL ["way", "sides", "first"] []) (gL : mg "columns_led_to" = some (.ref fL))
    (mr : mg "range" = none) (me : mg "enumerate" = none) : FnOk P w K mg base CX0 (k + 2) f fd ["rooms", "sides"] (spAsked K) := by
  refine F.ok scAsked (fun vs H Q E h => ?_) (fun cdv A outer s0 H vs Q E hr h => ?_)
  · obtain ⟨x, sa, ha, us, R, s1, s2, s3, rfl, _⟩ := h
    rfl
  · obtain ⟨x, sa, ha, us, R, s1, s2, s3, rfl, hha, hx, hsa, okR, so, lI, q⟩ := h
    refine ⟨_, pss_cons (ps_set (i := 2) scAsked.nd rfl (.inr rfl) (pe_op op_mul (pe_op op_mul (pe_ix ix_list (pv 1) pe_int (fun _ _ => rfl)) (pe_ix ix_list (pv 1) pe_int (fun _ _ => rfl))) (pe_ix ix_list (pv 1) pe_int (fun _ _ => rfl))))
      (pss_cons (ps_set (i := 3) scAsked.nd rfl (.inl rfl) (pe_lst pa_nil))
      (pss_cons (ps_for PassesOwn.never rfl (pi_enum (by rfl) me (pa_cons (pv 0) pa_nil)) (pg_tup rfl (pgs_cons (pg_name (i := 4) scAsked.nd rfl (.inr rfl)) (pgs_cons (pg_name (i := 5) scAsked.nd rfl (.inl rfl)) pgs_nil)))
        (pss_cons (ps_set (i := 6) scAsked.nd rfl (.inr rfl) (pe_lc (own := [("ask", 7)]) (g := gName 7) (tt := tYes)
            (te := tLc (iList K (tVar 7)) (gTup K 2 (gCons (gName 8) (gCons (gName 9) gNil))) tYes (tTup (tCons (tCall (spLedTo K) [] E0 (tCons (tVar 8) (tCons (tVar 1) (tCons (tOp (rI CMul fun i j => .int (i * j)) (tVar 9) (tVar 2)) tNil)))) (tCons (tOp (rIxT K) (tVar 8) (tC (.int 0))) tNil))) [8, 9]) rfl scAsked.nd (pi_list (pv 5))
            (blkOk_by (N := ["rooms", "sides", "many", "asked", "number", "room", "meetings", "ask", "way", "to", "at"]) (sc := defScope sAsked) (by decide +kernel))
            (fun _ _ _ _ _ => by exact pg_name (i := 7) scAsked.nd rfl (.inl rfl)) (fun _ _ _ _ _ => pts_nil)
            (fun _ _ _ _ _ => by exact (by
              refine pe_lc (wi := iList K (tVar 7)) (own := [("way", 8), ("to", 9)]) (g := gTup K 2 (gCons (gName 8) (gCons (gName 9) gNil))) (tt := tYes) (te := tTup (tCons (tCall (spLedTo K) [] E0 (tCons (tVar 8) (tCons (tVar 1) (tCons (tOp (rI CMul fun i j => .int (i * j)) (tVar 9) (tVar 2)) tNil)))) (tCons (tOp (rIxT K) (tVar 8) (tC (.int 0))) tNil))) ?_ ?_ ?_ ?_ ?_ ?_ ?_
              · rfl
              · exact scAsked.nd
              · exact pi_list (pv 7)
              · exact blkOk_by (N := ["rooms", "sides", "many", "asked", "number", "room", "meetings", "ask", "way", "to", "at"]) (sc := lcSc [(".0", .local), ("ask", .local), ("many", .cell), ("sides", .cell)]) (by decide +kernel)
              · exact fun _ _ _ _ _ => by refine pg_tup rfl (pgs_cons ?_ (pgs_cons ?_ pgs_nil)); exact pg_name (i := 8) scAsked.nd rfl (.inl rfl); exact pg_name (i := 9) scAsked.nd rfl (.inl rfl)
              · exact fun _ _ _ _ _ => pts_nil
              · exact fun _ _ _ _ _ => by exact pe_tup (pa_cons (pe_call GL hr (by rfl) gL kL bL .nil pass0 (pa_cons (pv 8) (pa_cons (pv 1) (pa_cons (pe_op op_mul (pv 9) (pv 2)) pa_nil)))) (pa_cons (pe_ix ix_tup (pv 8) pe_int (fun _ _ => rfl)) pa_nil))))))
        (pss_one (ps_expr (pe_bm PySem.F.plainAttrs_list PySem.F.slot_list_extend PySem.F.type_list_extend mt_extend (pv 3) (pa_cons
            (pe_lc2 (wi1 := iList K (tVar 6)) (own := [("at", 10), ("ask", 7)]) (vs1 := [7]) (g := gName 10) (tt := tYes) (g1 := gName 7) (tt1 := tYes) (te := tTup (tCons (tVar 7) (tCons (tVar 10) (tCons (tOp (rI0 fun i j => .int (i + j)) (tOp (rI CMul fun i j => .int (i * j)) (tVar 4) (tVar 2)) (tVar 10)) tNil)))) rfl scAsked.nd (pi_range1 (by rfl) mr (pa_cons (pv 2) pa_nil))
              (blkOk_by (N := ["rooms", "sides", "many", "asked", "number", "room", "meetings", "ask", "way", "to", "at"]) (sc := defScope sAsked) (by decide +kernel)) (by decide)
              (fun _ _ _ _ _ => by exact pg_name (i := 10) scAsked.nd rfl (.inl rfl)) (fun _ _ _ _ _ => pts_nil)
              (fun _ _ _ _ _ => by exact pi_list (pv 6)) (fun _ _ _ _ _ => by exact pg_name (i := 7) scAsked.nd rfl (.inl rfl)) (fun _ _ _ _ _ => pts_nil)
              (fun _ _ _ _ _ => by exact pe_tup (pa_cons (pv 7) (pa_cons (pv 10) (pa_cons (pe_op op_add (pe_op op_mul (pv 4) (pv 2)) (pv 10)) pa_nil))))) pa_nil))))))
      (pss_one (ps_ret (pv 3))))), ?_⟩
    obtain ⟨ra, rvs, rfl, hR0, rall⟩ := lst_of hx
    have lr := mapD_len rall
    have toH : Same (rmv H ha) H := rmv_same fun b o _ e => e
    have hsaH := toH.seq hsa
    obtain ⟨o1, o2, o3, u1, u2, u3, few⟩ := id so
    have em : (s1 : Int) * s2 * s3 = ((s1 * (s2 * s3) : Nat) : Int) := by rw [Int.natCast_mul, Int.natCast_mul, Int.mul_assoc]
    have b12 : (s1 : Int) * s2 = ((s1 * s2 : Nat) : Int) := by rw [Int.natCast_mul]
    have l12 : s1 * s2 ≤ s1 * (s2 * s3) := Nat.mul_le_mul_left _ (Nat.le_mul_of_pos_right _ o3)
    refine ⟨_, rfl, sa, _, _, _, rfl, rfl, hsaH, rfl, _, rfl, sa, _, _, _, rfl, rfl, hsaH, rfl, rI_mul ⟨by omega, by omega⟩ ⟨_, rfl, sa, _, _, _, rfl, rfl, hsaH, rfl, rI_mul ⟨by omega, by omega⟩ ?_⟩⟩
    rw [em]
    obtain ⟨N, eN⟩ : ∃ N, s1 * (s2 * s3) = N := ⟨_, rfl⟩
    rw [eN]
    rw [eN] at few
    refine ⟨by show 0 ≤ sizeLine; decide, fun D nD => ?_⟩
    have sD := same_upd (o := .lst []) nD
    have nDa : ha ≠ D := ne_of_none hha nD
    have lR := okR.few
    refine ⟨_, rfl, ra, _, rfl, sD.seq (toH.seq hR0), ?_⟩
    refine for_it (walk_enum (K := K) (a := ra) (xs := rvs)) (fun j σ H1 => ∃ (y4 y5 y6 : Option V), σ = [some (.ref ra), some (.ref sa), some (.int (N : Int)), some (.ref D), y4, y5, y6, none, none, none, none] ∧ Same H H1 ∧ ∃ ps, H1 D = some (.lst ps) ∧ DpAll K (off [ha, D] H1) ps ((itemsR s1 s2 s3 R j).map itemD))
      ⟨none, none, none, rfl, sD, [], upd_same, .nil⟩ (fun j σ H1 _ ⟨_, _, _, _, s1', _⟩ => s1'.seq (toH.seq hR0)) ?_ ?_
    · rintro j v σ H1 H2 hj ⟨y4, y5, y6, rfl, sm, ps, hD, dps⟩ ⟨T, v1, v2, rfl, nT, rfl, f1, f2⟩
      cases f1
      obtain ⟨room, hroom, droom⟩ := mapD_get rall f2
      have mroom := List.mem_of_getElem? hroom
      have at_r := roomAt_of hroom
      have jR : j < R.length := (List.getElem?_eq_some_iff.mp hroom).1
      have lasks := okR.asks room mroom
      obtain ⟨qa, qvs, rfl, hQ0, qall⟩ := lst_of droom
      have lq := mapD_len qall
      have sT := same_upd (o := .tup [V.int (j : Int), .ref qa]) nT
      have smT := sm.trans sT
      have hDT := sT _ _ hD
      have hhT := smT _ _ hha
      refine ⟨T, _, rfl, SqT.of upd_same, rfl, _, _, rfl, _, _, rfl, rfl, ?_⟩
      simp only [List.set_cons_succ, List.set_cons_zero]
      refine ⟨_, rfl, qa, rfl, ⟨_, smT.seq (toH.seq hQ0)⟩, fun G nG => ?_⟩
      have sG := same_upd (o := .lst []) nG
      have nGD : D ≠ G := ne_of_none hDT nG
      have nGa : ha ≠ G := ne_of_none hhT nG
      refine lc_list (K := K) (a := qa) (xs := qvs) (fun t H3 => Same (upd H1 T (.tup [V.int (j : Int), .ref qa])) H3 ∧ ∃ es, H3 G = some (.lst es) ∧ DpAll K (off [ha, D, G] H3) es (((room.take t).map (meetOf s1 s2 s3)).map mtD)) ⟨sG, [], upd_same, .nil⟩ (fun t H3 _ ⟨s3', _⟩ => s3'.seq (smT.seq (toH.seq hQ0))) ?_ ?_
      · rintro t v H3 ht ⟨s3', es, hG, des⟩
        obtain ⟨a, ha0, da⟩ := mapD_get qall ht
        have ma := List.mem_of_getElem? ha0
        have tl := (List.getElem?_eq_some_iff.mp ha0).1
        have l5 := okR.five room mroom a ma
        have lw := okR.pair room mroom a ma
        obtain ⟨aa, avs, rfl, hA0, aall⟩ := lst_of da
        have la := mapD_len aall
        have les := mapD_len des
        have s13 := smT.trans s3'
        have hA3 := s13.seq (toH.seq hA0)
        refine ⟨rfl, ?_⟩
        refine ⟨_, rfl, aa, rfl, ⟨_, hA3⟩, fun X nX => ?_⟩
        have sX := same_upd (o := .lst []) nX
        have hD3 := s3' _ _ hDT
        have hh3 := s13 _ _ hha
        have nXD : D ≠ X := ne_of_none hD3 nX
        have nXG : G ≠ X := ne_of_none hG nX
        have nXa : ha ≠ X := ne_of_none hh3 nX
        refine lc_list (K := K) (a := aa) (xs := avs) (fun i H4 => Same H3 H4 ∧ ∃ xs, H4 X = some (.lst xs) ∧ DpAll K (off [ha, D, G, X] H4) xs ((meetOf s1 s2 s3 (a.take i)).map mpD)) ⟨sX, [], upd_same, .nil⟩ (fun i H4 _ ⟨s4, _⟩ => s4.seq hA3) ?_ ?_
        · rintro i v H4 hi ⟨s4, xs, hX, dxs⟩
          obtain ⟨p, hp, dp⟩ := mapD_get aall hi
          have mp := List.mem_of_getElem? hp
          have il := (List.getElem?_eq_some_iff.mp hp).1
          obtain ⟨w4, pR⟩ := lw p mp
          obtain ⟨pa, wx, rfl, hP, dw⟩ := pairP_of dp
          obtain ⟨w0, w1, w2, w3, ew⟩ := four_of w4
          rw [ew] at dw
          obtain ⟨wa, rfl, hW⟩ := way_of dw
          have s14 := s13.trans s4
          have lxs := mapD_len dxs
          have lm : (meetOf s1 s2 s3 (a.take i)).length = i := by
            unfold meetOf
            rw [List.length_map, List.length_take]
            omega
          have e0 : wipe [some (V.ref ra), some (V.ref sa), some (V.int (N : Int)), some (V.ref D), some (V.int (j : Int)), some (V.ref qa), y6, some (V.ref aa), none, none, none] [8, 9] = [some (V.ref ra), some (V.ref sa), some (V.int (N : Int)), some (V.ref D), some (V.int (j : Int)), some (V.ref qa), y6, some (V.ref aa), none, none, none] := rfl
          show gTup K 2 (gCons (gName 8) (gCons (gName 9) gNil)) (.ref pa) (wipe [some (V.ref ra), some (V.ref sa), some (V.int (N : Int)), some (V.ref D), some (V.int (j : Int)), some (V.ref qa), y6, some (V.ref aa), none, none, none] [8, 9]) H4 _
          rw [e0]
          refine ⟨pa, _, rfl, s14.seqT (toH.seqT hP), rfl, _, _, rfl, _, _, rfl, rfl, ?_⟩
          simp only [List.set_cons_succ, List.set_cons_zero]
          refine ⟨rfl, ?_⟩
          refine ⟨_, rfl, _, rfl, _, rfl, _, rfl, rI_mul ⟨by omega, by omega⟩ ⟨.ref wa, sa, w0, w1, w2, w3, s1, s2, s3, p.2 * N, by rw [Int.natCast_mul]; rfl, dp_same (toH.trans s14) dw, s14.seq hsaH, so, fun q4 H5 s5 nq4 hq4 => ?_⟩⟩
          have s15 := s14.trans s5
          refine ⟨_, rfl, wa, _, _, _, rfl, rfl, s15.seqT (toH.seqT hW), rfl, by show 2 ≤ sizeLine; decide, fun U nU => ?_⟩
          have sU := same_upd (o := .tup [V.ref q4, V.int w0]) nU
          have s4U := s5.trans sU
          have hX5 := s4U _ _ hX
          have hq5 := sU _ _ hq4
          -- none of these is among the lists that still grow
          have new : ∀ b : Addr, H4 b = none → b ∉ [ha, D, G, X] := fun b nb => by
            have h1 := s4 _ _ hG
            have h2 := s4 _ _ hD3
            have h3 := s4 _ _ hh3
            simp only [List.mem_cons, List.not_mem_nil, or_false]
            rintro (rfl | rfl | rfl | rfl)
            · rw [nb] at h3; cases h3
            · rw [nb] at h2; cases h2
            · rw [nb] at h1; cases h1
            · rw [nb] at hX; cases hX
          refine ⟨xs, hX5, small_line (by omega), fun b o e => ?_, xs ++ [.ref U], upd_same, ?_⟩
          · rw [upd_ne (ne_of_none e nX)]
            exact s4U _ _ (s4 _ _ e)
          · have em2 : meetOf s1 s2 s3 (a.take (i + 1)) = meetOf s1 s2 s3 (a.take i) ++ [(ledF (p.2 * N) (ledL w1 w2 w3 s1 s2 s3), w0)] := by
              unfold meetOf
              rw [take_snoc hp, List.map_append, List.map_cons, ew, eN]
              rfl
            rw [em2]
            have fr : Same (off [ha, D, G, X] H4) (off [ha, D, G, X] (upd (upd H5 U (.tup [V.ref q4, V.int w0])) X (.lst (xs ++ [.ref U])))) := off_to fun b o n e => ⟨n, by
              rw [upd_ne fun z => n (by rw [z]; simp)]
              exact s4U _ _ e⟩
            refine dpAll_app1 (dpAll_same fr dxs) ?_
            have nU' := new U (s5.free nU)
            have nq' := new q4 nq4
            refine .tup (SqT.of (xs := [V.ref q4, V.int w0]) ?_) (.cons (.lst (SqL.of (xs := (ledF (p.2 * N) (ledL w1 w2 w3 s1 s2 s3)).map V.int) ?_) (dpAll_ints _)) (.cons (.int _) .nil))
            · rw [off_ne nU', upd_ne fun z => nU' (by rw [z]; simp), upd_same]
            · rw [off_ne nq', upd_ne fun z => nq' (by rw [z]; simp)]
              exact hq5
        · rintro H4 ⟨s4, xs, hX, dxs⟩
          rw [la, List.take_length] at dxs
          have hG4 := s4 _ _ hG
          refine ⟨es, hG4, small_line (by simp only [List.length_map, List.length_take] at les; omega), fun b o e => ?_, es ++ [.ref X], upd_same, ?_⟩
          · rw [upd_ne (ne_of_none e nG)]
            exact s4 _ _ (s3' _ _ e)
          · rw [take_snoc ha0, List.map_append]
            have fr : Same (off [ha, D, G] H3) (off [ha, D, G] (upd H4 G (.lst (es ++ [.ref X])))) := off_to fun b o n e => ⟨n, by
              rw [upd_ne fun z => n (by rw [z]; simp)]
              exact s4 _ _ e⟩
            have fr2 : Same (off [ha, D, G, X] H4) (off [ha, D, G] (upd H4 G (.lst (es ++ [.ref X])))) := off_to fun b o n e => ⟨fun z => n (List.mem_append_left [X] z), by
              rw [upd_ne fun z => n (by rw [z]; simp)]
              exact e⟩
            refine dpAll_app1 (dpAll_same fr des) (.lst (SqL.of (xs := xs) ?_) (dpAll_same fr2 dxs))
            rw [off_ne (by simp only [List.mem_cons, List.not_mem_nil, or_false]; rintro (z | z | z); exact nXa z.symm; exact nXD z.symm; exact nXG z.symm), upd_ne nXG.symm]
            exact hX
      · rintro H3 ⟨s3', es, hG, des⟩
        rw [lq, List.take_length] at des
        obtain rfl : room = roomAt R j := at_r.symm
        have les := mapD_len des
        rw [List.length_map] at les
        have hD3 := s3' _ _ hDT
        have hh3 := (smT.trans s3') _ _ hha
        have s13 := smT.trans s3'
        have cnt1 := items_le (s1 := s1) (s2 := s2) (s3 := s3) (R := R) (show j + 1 ≤ R.length from jR)
        have cnt2 := items_snoc (s1 := s1) (s2 := s2) (s3 := s3) (R := R) (k := j)
        have cnt3 : (itemsR s1 s2 s3 R (j + 1)).length = (itemsR s1 s2 s3 R j).length + N * (roomAt R j).length := by rw [cnt2, List.length_append, roomItems_len, eN]
        have lps := mapD_len dps
        refine ⟨_, rfl, .inl ⟨rfl, _, SqL.of hD3⟩, ?_⟩
        refine ⟨_, rfl, (N : Int), rfl, by omega, by omega, fun L nL => ?_⟩
        have sL := same_upd (o := .lst []) nL
        have nLD : D ≠ L := ne_of_none hD3 nL
        have nLa : ha ≠ L := ne_of_none hh3 nL
        have nLG : G ≠ L := ne_of_none hG nL
        rw [show ((N : Int)).toNat = N from Int.toNat_natCast N]
        refine walk_gen walk_rangeN _ (fun t H6 => Same H3 H6 ∧ ∃ ls, H6 L = some (.lst ls) ∧ DpAll K (off [ha, D, L] H6) ls ((roomItems s1 s2 s3 j (roomAt R j) t).map itemD)) ⟨sL, [], upd_same, .nil⟩ (fun _ _ _ _ => True.intro) ?_ ?_
        · rintro t x H6 H6' ht ⟨s6, ls, hL, dls⟩ ⟨rfl, rfl⟩
          have mulT : (t + 1) * (roomAt R j).length ≤ N * (roomAt R j).length := Nat.mul_le_mul_right _ ht
          rw [Nat.succ_mul] at mulT
          refine ⟨rfl, ?_⟩
          refine ⟨_, rfl, G, rfl, ⟨_, SqL.of (s6 _ _ hG)⟩, ?_⟩
          refine walk_gen (walk_list (K := K) (a := G) (xs := es)) _ (fun i H7 => Same H3 H7 ∧ ∃ ls, H7 L = some (.lst ls) ∧ DpAll K (off [ha, D, L] H7) ls ((roomItems s1 s2 s3 j (roomAt R j) t ++ ((roomAt R j).take i).map fun a => (⟨meetOf s1 s2 s3 a, t, j * (s1 * (s2 * s3)) + t⟩ : Item)).map itemD)) ⟨s6, ls, hL, by rw [List.take_zero, List.map_nil, List.append_nil]; exact dls⟩ (fun i H7 _ ⟨s7, _⟩ => SqL.of (s7 _ _ hG)) ?_ ?_
          · rintro i v H7 H7' hi ⟨s7, ls, hL, dls⟩ ⟨rfl, hv⟩
            obtain ⟨d, hd, dv⟩ := mapD_get des hv
            rw [List.getElem?_map] at hd
            obtain ⟨a, ha0, rfl⟩ := Option.map_eq_some_iff.mp hd
            have il := (List.getElem?_eq_some_iff.mp ha0).1
            have lls := mapD_len dls
            rw [List.length_append, roomItems_len, List.length_map, List.length_take] at lls
            refine ⟨rfl, ?_⟩
            refine ⟨_, rfl, _, rfl, _, rfl, _, rfl, rI_mul ⟨by omega, by omega⟩ ⟨_, rfl, _, _, rfl, rfl, by show 3 ≤ sizeLine; decide, fun U nU => ?_⟩⟩
            have sU := same_upd (o := .tup [v, V.int (0 + (t : Int)), V.int ((j : Int) * (N : Int) + (0 + (t : Int)))]) nU
            have hL2 := sU _ _ hL
            refine ⟨ls, hL2, line_of (by omega), fun b o e => ?_, ls ++ [.ref U], upd_same, ?_⟩
            · rw [upd_ne (ne_of_none e nL)]
              exact sU _ _ (s7 _ _ e)
            · rw [take_snoc ha0, List.map_append (l₁ := (roomAt R j).take i), ← List.append_assoc]
              have fr : Same (off [ha, D, L] H7') (off [ha, D, L] (upd (upd H7' U (.tup [v, V.int (0 + (t : Int)), V.int ((j : Int) * (N : Int) + (0 + (t : Int)))])) L (.lst (ls ++ [.ref U])))) := off_to fun b o n e => ⟨n, by
                rw [upd_ne fun z => n (by rw [z]; simp)]
                exact sU _ _ e⟩
              have fr2 : Same (off [ha, D, G] H3) (off [ha, D, L] (upd (upd H7' U (.tup [v, V.int (0 + (t : Int)), V.int ((j : Int) * (N : Int) + (0 + (t : Int)))])) L (.lst (ls ++ [.ref U])))) := off_to fun b o n e => by
                have nb : b ≠ L := ne_of_none e nL
                refine ⟨fun z => ?_, ?_⟩
                · simp only [List.mem_cons, List.not_mem_nil, or_false] at z n
                  rcases z with z | z | z
                  · exact n (.inl z)
                  · exact n (.inr (.inl z))
                  · exact nb z
                · rw [upd_ne nb]
                  exact sU _ _ (s7 _ _ e)
              have hD7 := s7 _ _ hD3
              have hh7 := s7 _ _ hh3
              refine dpAll_app1 (dpAll_same fr dls) (ofs_item (v := v) ?_ (dp_same fr2 dv))
              have nUL : U ≠ L := (ne_of_none hL nU).symm
              rw [off_ne (by simp only [List.mem_cons, List.not_mem_nil, or_false]; rintro (z | z | z); exact ne_of_none hh7 nU z.symm; exact ne_of_none hD7 nU z.symm; exact nUL z), upd_ne nUL, upd_same]
              show some (HO.tup [v, V.int (0 + (t : Int)), V.int ((j : Int) * (N : Int) + (0 + (t : Int)))]) = _
              rw [eN, Int.zero_add, Int.natCast_add, Int.natCast_mul]
          · rintro H7 ⟨s7, ls, hL, dls⟩
            rw [les, List.take_length] at dls
            refine ⟨s7, ls, hL, ?_⟩
            rw [roomItems_snoc]
            exact dls
        · rintro H6 ⟨s6, ls, hL, dls⟩
          have lls := mapD_len dls
          rw [roomItems_len] at lls
          have hD6 := s6 _ _ hD3
          refine ⟨D, L, ps, ls, rfl, rfl, hD6, hL, by unfold sizeLine; omega, ?_⟩
          have s16 := (sT.trans s3').trans s6
          have smH := sm.trans s16
          refine ⟨_, _, _, rfl, fun b o e => ?_, ps ++ ls, upd_same, ?_⟩
          · rw [upd_ne (ne_of_none e nD)]
            exact smH _ _ e
          · rw [cnt2, eN, List.map_append]
            have fr : Same (off [ha, D] H1) (off [ha, D] (upd H6 D (.lst (ps ++ ls)))) := off_to fun b o n e => ⟨n, by
              rw [upd_ne fun z => n (by rw [z]; simp)]
              exact s16 _ _ e⟩
            have fr2 : Same (off [ha, D, L] H6) (off [ha, D] (upd H6 D (.lst (ps ++ ls)))) := off_to fun b o n e => ⟨fun z => n (List.mem_append_left [L] z), by
              rw [upd_ne fun z => n (by rw [z]; simp)]
              exact e⟩
            exact dpAll_app (dpAll_same fr dps) (dpAll_same fr2 dls)
    · rintro σ H1 ⟨y4, y5, y6, rfl, sm, ps, hD, dps⟩
      rw [lr] at dps
      refine ⟨_, rfl, q D H1 ps sm nD hD (dpAll_same (fun b o e => ?_) dps)⟩
      obtain ⟨n, e⟩ := off_some e
      simp only [List.mem_cons, List.not_mem_nil, or_false, not_or] at n
      rw [rmv_ne n.2, rmv_ne n.1]
      exact e
end
/-! ### what heights tell of what lasts within a box (plain Lean) -/
theorem flat_get {α β : Type} {f : α → List β} {q : Nat} (h : ∀ x, (f x).length = q) : ∀ (l : List α) (a b : Nat) (x : α), l[a]? = some x → b < q → (l.flatMap f)[a * q + b]? = (f x)[b]?
  | [], _, _, _, e, _ => nomatch e
  | y :: l, 0, b, x, e, hb => by
    cases e
    rw [Nat.zero_mul, Nat.zero_add, List.flatMap_cons, List.getElem?_append_left (by rw [h]; exact hb)]
  | y :: l, a + 1, b, x, e, hb => by
    rw [List.flatMap_cons, List.getElem?_append_right (by rw [h, Nat.succ_mul]; omega), h, Nat.succ_mul, show a * q + q + b - q = a * q + b by omega]
    exact flat_get h l a b x e hb
/-- where a number of a kind gets to -/
def rch (s i : Nat) (w : Int) : Int := min ((s : Int) - 1) ((i : Int) + w)
theorem ledStep_get {acc : List Int} {w c : Int} {s a t : Nat} (h : acc[a]? = some c) (ht : t < s) : (ledStep acc w s)[a * s + t]? = some (if c = -1 ∨ rch s t w < 0 then -1 else c * s + rch s t w) := by
  unfold ledStep
  rw [flat_get (q := s) (fun c => by rw [List.length_map, List.length_range]) acc a t c h ht, List.getElem?_map, List.getElem?_range ht]
  rfl
theorem led_get {w1 w2 w3 : Int} {s1 s2 s3 i j l : Nat} (hi : i < s1) (hj : j < s2) (hl : l < s3) : (ledL w1 w2 w3 s1 s2 s3)[(i * s2 + j) * s3 + l]? =
    some (if rch s1 i w1 < 0 ∨ rch s2 j w2 < 0 ∨ rch s3 l w3 < 0 then -1 else (rch s1 i w1 * s2 + rch s2 j w2) * s3 + rch s3 l w3) := by
  unfold ledL
  have e1 := ledStep_get (acc := [0]) (w := w1) (c := 0) (a := 0) rfl hi
  rw [Nat.zero_mul, Nat.zero_add] at e1
  have e2 := ledStep_get (w := w2) e1 hj
  have e3 := ledStep_get (w := w3) e2 hl
  rw [e3]
  congr 1
  by_cases z1 : rch s1 i w1 < 0
  · rw [if_pos (show (0 : Int) = -1 ∨ rch s1 i w1 < 0 from .inr z1), if_pos (show (-1 : Int) = -1 ∨ rch s2 j w2 < 0 from .inl rfl), if_pos (show (-1 : Int) = -1 ∨ rch s3 l w3 < 0 from .inl rfl), if_pos (.inl z1)]
  · have p1 : ¬ ((0 : Int) = -1 ∨ rch s1 i w1 < 0) := fun z => z.elim (by decide) z1
    rw [if_neg p1]
    have n1 : (0 : Int) * (s1 : Int) + rch s1 i w1 = rch s1 i w1 := by rw [Int.zero_mul, Int.zero_add]
    rw [n1]
    by_cases z2 : rch s2 j w2 < 0
    · rw [if_pos (show rch s1 i w1 = -1 ∨ rch s2 j w2 < 0 from .inr z2), if_pos (show (-1 : Int) = -1 ∨ rch s3 l w3 < 0 from .inl rfl), if_pos (.inr (.inl z2))]
    · have p2 : ¬ (rch s1 i w1 = -1 ∨ rch s2 j w2 < 0) := fun z => z.elim (fun z => by omega) z2
      rw [if_neg p2]
      have m : 0 ≤ rch s1 i w1 * (s2 : Int) := Int.mul_nonneg (by omega) (by omega)
      by_cases z3 : rch s3 l w3 < 0
      · rw [if_pos (.inr z3), if_pos (.inr (.inr z3))]
      · rw [if_neg fun z => z.elim (fun z => by omega) z3, if_neg fun z => z.elim z1 fun z => z.elim z2 z3]
def cIx (s2 s3 i j l : Nat) : Nat := (i * s2 + j) * s3 + l
theorem cIx_lt {s1 s2 s3 i j l : Nat} (hi : i < s1) (hj : j < s2) (hl : l < s3) : cIx s2 s3 i j l < s1 * (s2 * s3) := by
  unfold cIx
  have h1 : (i + 1) * s2 ≤ s1 * s2 := Nat.mul_le_mul_right _ hi
  rw [Nat.succ_mul] at h1
  have h2 : (i * s2 + j + 1) * s3 ≤ s1 * s2 * s3 := Nat.mul_le_mul_right _ (by omega)
  rw [Nat.succ_mul, Nat.mul_assoc s1] at h2
  omega
theorem cIx_inv {s2 s3 i j l : Nat} (hj : j < s2) (hl : l < s3) : cIx s2 s3 i j l / s3 / s2 = i ∧ cIx s2 s3 i j l / s3 % s2 = j ∧ cIx s2 s3 i j l % s3 = l := by
  unfold cIx
  have e : ((i * s2 + j) * s3 + l) / s3 = i * s2 + j := by
    rw [Nat.mul_comm, Nat.mul_add_div (by omega), Nat.div_eq_of_lt hl, Nat.add_zero]
  refine ⟨?_, ?_, ?_⟩
  · rw [e, Nat.mul_comm, Nat.mul_add_div (by omega), Nat.div_eq_of_lt hj, Nat.add_zero]
  · rw [e, Nat.mul_comm, Nat.mul_add_mod, Nat.mod_eq_of_lt hj]
  · rw [Nat.mul_comm, Nat.mul_add_mod, Nat.mod_eq_of_lt hl]
theorem cIx_dec {s1 s2 s3 t : Nat} (h : t < s1 * (s2 * s3)) : ∃ i j l, i < s1 ∧ j < s2 ∧ l < s3 ∧ t = cIx s2 s3 i j l := by
  have p3 : 0 < s3 := Nat.pos_of_ne_zero fun z => by rw [z, Nat.mul_zero, Nat.mul_zero] at h; omega
  have p2 : 0 < s2 := Nat.pos_of_ne_zero fun z => by rw [z, Nat.zero_mul, Nat.mul_zero] at h; omega
  refine ⟨t / s3 / s2, t / s3 % s2, t % s3, ?_, Nat.mod_lt _ p2, Nat.mod_lt _ p3, ?_⟩
  · rw [Nat.div_lt_iff_lt_mul p2, Nat.div_lt_iff_lt_mul p3, Nat.mul_assoc]
    exact h
  · unfold cIx
    rw [Nat.div_add_mod', Nat.div_add_mod']
/-- the height of a column of a room -/
def hAt (s1 s2 s3 : Nat) (hs : List Int) (r i j l : Nat) : Int := hs.getD (r * (s1 * (s2 * s3)) + cIx s2 s3 i j l) 0
/-- where the way leads from the column, as it is counted -/
theorem wt_get {s1 s2 s3 i j l to : Nat} {w0 w1 w2 w3 : Int} {a : PAsk} (hi : i < s1) (hj : j < s2) (hl : l < s3) (hp : ([w0, w1, w2, w3], to) ∈ a) :
    ((if rch s1 i w1 < 0 ∨ rch s2 j w2 < 0 ∨ rch s3 l w3 < 0 then -1 else ((to * (s1 * (s2 * s3)) : Nat) : Int) + ((rch s1 i w1 * s2 + rch s2 j w2) * s3 + rch s3 l w3)), w0) ∈ wt (meetOf s1 s2 s3 a) (cIx s2 s3 i j l) := by
  unfold wt meetOf
  rw [List.map_map]
  refine List.mem_map.mpr ⟨_, hp, ?_⟩
  refine Prod.ext ?_ rfl
  show (ledF (to * (s1 * (s2 * s3))) (ledL w1 w2 w3 s1 s2 s3)).getD (cIx s2 s3 i j l) 0 = _
  unfold ledF cIx
  rw [List.getD_eq_getElem?_getD, List.getElem?_map, led_get hi hj hl]
  show (if (if rch s1 i w1 < 0 ∨ rch s2 j w2 < 0 ∨ rch s3 l w3 < 0 then (-1 : Int) else (rch s1 i w1 * s2 + rch s2 j w2) * s3 + rch s3 l w3) = -1 then (-1 : Int) else ((to * (s1 * (s2 * s3)) : Nat) : Int) + _) = _
  by_cases z : rch s1 i w1 < 0 ∨ rch s2 j w2 < 0 ∨ rch s3 l w3 < 0
  · rw [if_pos z, if_pos rfl, if_pos z]
  · rw [if_neg z, if_neg z, if_neg]
    have z1 : ¬ rch s1 i w1 < 0 := fun y => z (.inl y)
    have z2 : ¬ rch s2 j w2 < 0 := fun y => z (.inr (.inl y))
    have z3 : ¬ rch s3 l w3 < 0 := fun y => z (.inr (.inr y))
    have m1 : 0 ≤ rch s1 i w1 * (s2 : Int) := Int.mul_nonneg (by omega) (by omega)
    have m2 : 0 ≤ (rch s1 i w1 * (s2 : Int) + rch s2 j w2) * (s3 : Int) := Int.mul_nonneg (by omega) (by omega)
    omega
theorem wt_of {s1 s2 s3 i j l : Nat} {a : PAsk} {q : Int × Int} (hi : i < s1) (hj : j < s2) (hl : l < s3) (l4 : ∀ p ∈ a, p.1.length = 4) (hq : q ∈ wt (meetOf s1 s2 s3 a) (cIx s2 s3 i j l)) :
    ∃ w0 w1 w2 w3 to, ([w0, w1, w2, w3], to) ∈ a ∧ q = ((if rch s1 i w1 < 0 ∨ rch s2 j w2 < 0 ∨ rch s3 l w3 < 0 then -1 else ((to * (s1 * (s2 * s3)) : Nat) : Int) + ((rch s1 i w1 * s2 + rch s2 j w2) * s3 + rch s3 l w3)), w0) := by
  unfold wt meetOf at hq
  rw [List.map_map] at hq
  obtain ⟨p, mp, rfl⟩ := List.mem_map.mp hq
  obtain ⟨w, to⟩ := p
  obtain ⟨w0, w1, w2, w3, e⟩ := four_of (l4 _ mp)
  dsimp only at e
  subst e
  refine ⟨w0, w1, w2, w3, to, mp, ?_⟩
  have := wt_get (a := [([w0, w1, w2, w3], to)]) hi hj hl List.mem_cons_self
  unfold wt meetOf at this
  rw [List.map_map, List.map_cons, List.map_nil] at this
  exact (List.mem_singleton.mp this).symm
theorem rch_nat {s1 s2 s3 i j l : Nat} {w1 w2 w3 : Int} (hi : i < s1) (hj : j < s2) (hl : l < s3) (z : ¬ (rch s1 i w1 < 0 ∨ rch s2 j w2 < 0 ∨ rch s3 l w3 < 0)) : ∃ i' j' l' : Nat, i' < s1 ∧ j' < s2 ∧ l' < s3 ∧ (i' : Int) = rch s1 i w1 ∧ (j' : Int) = rch s2 j w2 ∧ (l' : Int) = rch s3 l w3 ∧
    (rch s1 i w1 * s2 + rch s2 j w2) * s3 + rch s3 l w3 = ((cIx s2 s3 i' j' l' : Nat) : Int) := by
  have z1 : ¬ rch s1 i w1 < 0 := fun y => z (.inl y)
  have z2 : ¬ rch s2 j w2 < 0 := fun y => z (.inr (.inl y))
  have z3 : ¬ rch s3 l w3 < 0 := fun y => z (.inr (.inr y))
  have b1 : rch s1 i w1 ≤ (s1 : Int) - 1 := Int.min_le_left _ _
  have b2 : rch s2 j w2 ≤ (s2 : Int) - 1 := Int.min_le_left _ _
  have b3 : rch s3 l w3 ≤ (s3 : Int) - 1 := Int.min_le_left _ _
  refine ⟨(rch s1 i w1).toNat, (rch s2 j w2).toNat, (rch s3 l w3).toNat, by omega, by omega, by omega, Int.toNat_of_nonneg (by omega), Int.toNat_of_nonneg (by omega), Int.toNat_of_nonneg (by omega), ?_⟩
  unfold cIx
  rw [Int.natCast_add, Int.natCast_mul, Int.natCast_add, Int.natCast_mul, Int.toNat_of_nonneg (by omega), Int.toNat_of_nonneg (by omega), Int.toNat_of_nonneg (by omega)]
/-! ### sorted of a list of tuples, by what they are -/
def rSortD (K : PySem.W.Frag) (d : Nat) (B : Int) : List V → Hp → VK → Prop := fun vs H Q => ∃ (a : Addr) (xs : List V) (S : List (List Int)), vs = [V.ref a] ∧ SqL K H a xs ∧ DpAll K H xs (S.map wayD) ∧ S.length < 64 ∧ (∀ x ∈ S, x.length = d ∧ TS.Bd B x) ∧
  ∀ (ys : List V) (T : List (List Int)) (p : Addr), T.Perm S → (T.Pairwise fun x y => TS.code B x ≤ TS.code B y) → H p = none → DpAll K (upd H p (.lst ys)) ys (T.map wayD) → Q (.ref p) (upd H p (.lst ys))
theorem cr_sortD {X : Cx} {d : Nat} {B : Int} (hd : 1 ≤ d) : CallR X (.builtin "sorted") (rSortD X.K d B) := by
  intro pins s σ H vs us Q I r h
  obtain ⟨a, xs, S, rfl, hs, hall, h64, hx, q⟩ := h
  obtain ⟨ks, rfl, rfl, hks⟩ := sts_refs hall
  refine cr_sortT (d := d) (B := B) hd pins s σ H _ us Q I r ?_
  refine ⟨a, ks.map fun p => V.ref p.1, rfl, hs, by rw [List.length_map] at h64 ⊢; exact h64, fun x m => ?_, fun ys p pm pw np => ?_⟩
  · obtain ⟨k, hk, rfl⟩ := List.mem_map.mp m
    obtain ⟨e1, e2⟩ := hx k.2 (List.mem_map.mpr ⟨k, hk, rfl⟩)
    exact ⟨k.2, ⟨k.1, rfl, hks k hk⟩, e1, e2⟩
  · obtain ⟨ks', pk, rfl⟩ := perm_lift (fun t : Addr × List Int => V.ref t.1) pm
    have ok : ∀ k ∈ ks', SqT X.K H k.1 (k.2.map V.int) := fun k hk => hks k (pk.mem_iff.mp hk)
    refine q _ (ks'.map (·.2)) p (pk.map _) ?_ np (refs_sts fun k hk => (same_upd np).seqT (ok k hk))
    rw [List.pairwise_map] at pw ⊢
    exact List.Pairwise.imp_of_mem (fun {x y} hx hy z => z x.2 y.2 ⟨x.1, rfl, ok x hx⟩ ⟨y.1, rfl, ok y hy⟩) pw
theorem eqv_ints_self : ∀ l : List Int, PyData.eqvAll (l.map PyData.int) (l.map PyData.int) = true
  | [] => rfl
  | a :: l => by
    simp only [List.map_cons, PyData.eqvAll, PyData.eqv, Bool.and_eq_true, beq_iff_eq]
    exact ⟨trivial, eqv_ints_self l⟩
theorem eqv_way_self (l : List Int) : PyData.eqv (wayD l) (wayD l) = true := by
  unfold wayD
  simp only [PyData.eqv]
  exact eqv_ints_self l
theorem eqv_stsA_self : ∀ S : List (List Int), PyData.eqvAll (S.map wayD) (S.map wayD) = true
  | [] => rfl
  | a :: l => by
    simp only [List.map_cons, PyData.eqvAll, Bool.and_eq_true]
    exact ⟨eqv_way_self a, eqv_stsA_self l⟩
theorem eqv_sts_self (S : List (List Int)) : PyData.eqv (stsD S) (stsD S) = true := by
  simp only [PyData.eqv]
  exact eqv_stsA_self S
theorem eqv_sts_iff {S T : List (List Int)} : PyData.eqv (stsD S) (stsD T) = decide (S = T) := by
  by_cases e : S = T
  · subst e
    rw [eqv_sts_self]
    exact (decide_eq_true rfl).symm
  · rw [decide_eq_false e]
    cases c : PyData.eqv (stsD S) (stsD T) with
    | false => rfl
    | true => exact absurd (eqv_sts c) e
theorem eqv_way_iff {l m : List Int} : PyData.eqv (wayD l) (wayD m) = decide (l = m) := by
  by_cases e : l = m
  · subst e
    rw [eqv_way_self]
    exact (decide_eq_true rfl).symm
  · rw [decide_eq_false e]
    cases c : PyData.eqv (wayD l) (wayD m) with
    | false => rfl
    | true =>
      unfold wayD at c
      simp only [PyData.eqv] at c
      exact absurd (eqv_ints l m c) e
theorem way_shaped (l : List Int) : SeqAt.shaped (wayD l) = true := by
  obtain ⟨w1, w2⟩ := ways_flat l
  unfold SeqAt.shaped wayD
  rw [Bool.and_eq_true, decide_eq_true_iff]
  refine ⟨by simp only [PyData.canLay0]; exact w2, ?_⟩
  simp only [PyData.depth]
  omega
/-! ### least ones have noughts for the kinds that aren't there -/
def prj (kd : Nat) (x : List Int) : List Int := four (x.take kd)
theorem prj_add {kd : Nat} {x l : List Int} (hx : x.length = 4) (hl : l.length = kd) (k1 : 1 ≤ kd) (k4 : kd ≤ 4) : add4 (prj kd x) (four l) = prj kd (add4 x (four l)) := by
  obtain ⟨a, b, c, d, rfl⟩ := len4 hx
  subst hl
  match l, k1, k4 with
  | [e], _, _ => rfl
  | [e, f], _, _ => rfl
  | [e, f, g], _, _ => rfl
  | [e, f, g, h], _, _ => rfl
theorem kd_cases {kd : Nat} (k1 : 1 ≤ kd) (k4 : kd ≤ 4) : kd = 1 ∨ kd = 2 ∨ kd = 3 ∨ kd = 4 := by omega
theorem prj_ok {kd : Nat} {x : List Int} (hx : Ok4 x) (k1 : 1 ≤ kd) (k4 : kd ≤ 4) : Ok4 (prj kd x) ∧ le4 (prj kd x) x = true := by
  obtain ⟨a, b, c, d, rfl, h1, h2, h3, h4⟩ := hx
  rcases kd_cases k1 k4 with rfl | rfl | rfl | rfl
  · exact ⟨⟨a, 0, 0, 0, rfl, by omega, by omega, by omega, by omega⟩, show le4 [a, 0, 0, 0] [a, b, c, d] = true from le4_iff.mpr (by omega)⟩
  · exact ⟨⟨a, b, 0, 0, rfl, by omega, by omega, by omega, by omega⟩, show le4 [a, b, 0, 0] [a, b, c, d] = true from le4_iff.mpr (by omega)⟩
  · exact ⟨⟨a, b, c, 0, rfl, by omega, by omega, by omega, by omega⟩, show le4 [a, b, c, 0] [a, b, c, d] = true from le4_iff.mpr (by omega)⟩
  · exact ⟨⟨a, b, c, d, rfl, by omega, by omega, by omega, by omega⟩, show le4 [a, b, c, d] [a, b, c, d] = true from le4_iff.mpr (by omega)⟩
theorem ln_prj {h : Asks} {kd : Nat} (o : HsOk h kd) : ∀ (n : Nat) {x : List Int}, Ok4 x → LN (asks4 h) n x → LN (asks4 h) n (prj kd x)
  | 0, _, _, _ => True.intro
  | n + 1, x, hx, z => fun a ha => by
    obtain ⟨w, hw, ok, l⟩ := z a ha
    obtain ⟨a0, ha0, rfl⟩ := List.mem_map.mp ha
    obtain ⟨l0, hl0, rfl⟩ := List.mem_map.mp hw
    refine ⟨_, hw, ?_⟩
    rw [prj_add (ok4_len hx) (o.len a0 ha0 l0 hl0) o.k1 o.k4]
    exact ⟨(prj_ok ok o.k1 o.k4).1, ln_prj o n ok l⟩
theorem canon_prj {M : List (List Int)} {U : List Int → Prop} {kd : Nat} (c : Canon M U) (k1 : 1 ≤ kd) (k4 : kd ≤ 4) (h : ∀ x, Ok4 x → U x → U (prj kd x)) : ∀ x ∈ M, prj kd x = x := fun x hx => by
  have ox := c.ok x hx
  obtain ⟨ok, l⟩ := prj_ok ox k1 k4
  obtain ⟨y, hy, l2⟩ := (c.up _ ok).mpr (h x ox ((c.up x ox).mp ⟨x, hx, le4_refl ox⟩))
  have e := c.anti y hy x hx (le4_trans l2 l)
  subst e
  exact le4_anti l l2
theorem lex_app (r : List Int) : ∀ {a b : List Int}, a.length = b.length → HT.lexLt (a ++ r) (b ++ r) = HT.lexLt a b
  | [], [], _ => by
    rw [List.nil_append, lex_irr]
    rfl
  | [], _ :: _, h => by simp at h
  | _ :: _, [], h => by simp at h
  | x :: a, y :: b, h => by
    rw [List.cons_append, List.cons_append, HT.lexLt_cons, HT.lexLt_cons, lex_app r (by simpa using h)]
theorem lex_four {a b : List Int} (h : a.length = b.length) : HT.lexLt (four a) (four b) = HT.lexLt a b := by
  unfold four
  rw [h]
  exact lex_app _ h
/-- least ones as they are told -/
structure Lows (kd : Nat) (M : List (List Int)) : Prop where
  len : ∀ x ∈ M, (x.take kd).length = kd
  pos : ∀ x ∈ M, ∀ z ∈ x.take kd, 0 ≤ z
  back : ∀ x ∈ M, four (x.take kd) = x
  srt : (M.map fun x => x.take kd).Pairwise fun x y => HT.lexLt x y = true
theorem lows_of {M : List (List Int)} {U : List Int → Prop} {kd : Nat} (c : Canon M U) (k1 : 1 ≤ kd) (k4 : kd ≤ 4) (h : ∀ x, Ok4 x → U x → U (prj kd x)) : Lows kd M := by
  have len : ∀ x ∈ M, (x.take kd).length = kd := fun x hx => by
    rw [List.length_take, ok4_len (c.ok x hx)]
    omega
  have back := canon_prj c k1 k4 h
  refine ⟨len, fun x hx z hz => ?_, back, ?_⟩
  · obtain ⟨p, q, r, s, rfl, h1, h2, h3, h4⟩ := c.ok x hx
    have := List.mem_of_mem_take hz
    simp only [List.mem_cons, List.not_mem_nil, or_false] at this
    omega
  · rw [List.pairwise_map]
    refine List.Pairwise.imp_of_mem (fun {x y} hx hy l => ?_) c.srt
    rw [← lex_four (by rw [len x hx, len y hy])]
    have e1 : four (x.take kd) = x := back x hx
    have e2 : four (y.take kd) = y := back y hy
    rw [e1, e2]
    exact l
/-- sorted again they are the same -/
theorem sorted_same {S T : List (List Int)} {B : Int} {d : Nat} (hd : ∀ x ∈ S, x.length = d ∧ TS.Bd B x) (srt : S.Pairwise fun x y => HT.lexLt x y = true) (p : T.Perm S) (c : T.Pairwise fun x y => TS.code B x ≤ TS.code B y) : T = S :=
  srt_eq (srt_of_code (fun x hx => hd x (p.mem_iff.mp hx)) (p.nodup_iff.mpr (nodup_of_srt srt)) c) srt fun x => p.mem_iff
/-! ### all that lasts within a box (plain Lean) -/
def GB (b : Int) (R : Rooms) (r : Nat) (x : List Int) : Prop := ∀ n, PB (some b) R n r x
theorem GB.mono {b : Int} {R : Rooms} {r : Nat} {x y : List Int} (h : GB b R r x) (l : le4 x y = true) : GB b R r y := fun n => (h n).mono l
theorem some_all {α : Type} {F : α → Nat → Prop} (dn : ∀ p n m, n ≤ m → F p m → F p n) : ∀ (a : List α), (∀ n, ∃ p ∈ a, F p n) → ∃ p ∈ a, ∀ n, F p n
  | [], h => by
    obtain ⟨p, hp, _⟩ := h 0
    cases hp
  | p :: a, h => by
    by_cases z : ∀ n, F p n
    · exact ⟨p, List.mem_cons_self, z⟩
    · obtain ⟨n0, hn⟩ := Classical.not_forall.mp z
      obtain ⟨q, hq, f⟩ := some_all dn a fun n => by
        obtain ⟨q, hq, f⟩ := h (max n n0)
        rcases List.mem_cons.mp hq with rfl | hq
        · exact absurd (dn _ _ _ (Nat.le_max_right _ _) f) hn
        · exact ⟨q, hq, dn _ _ _ (Nat.le_max_left _ _) f⟩
      exact ⟨q, List.mem_cons_of_mem _ hq, f⟩
theorem le4_in {z x : List Int} {b : Int} (l : le4 z x = true) (i : InB (some b) z) : le4 z (clip4 [b, b, b, b] x) = true := by
  have i := i b rfl
  obtain ⟨a, c, d, e, a', c', d', e', rfl, rfl, h1, h2, h3, h4⟩ := le4_len l
  obtain ⟨g1, g2, g3, g4⟩ := le4_iff.mp i
  show le4 _ [min b a', min b c', min b d', min b e'] = true
  exact le4_iff.mpr ⟨by omega, by omega, by omega, by omega⟩
theorem pb_clip {b : Int} {R : Rooms} {r : Nat} {x : List Int} : ∀ n, PB (some b) R n r x → PB (some b) R n r (clip4 [b, b, b, b] x)
  | 0, _ => True.intro
  | n + 1, h => ⟨pb_clip n h.1, fun a ha => by
    obtain ⟨z, oz, lz, iz, q⟩ := h.2 a ha
    exact ⟨z, oz, le4_in lz iz, iz, q⟩⟩
theorem prj_le {kd : Nat} {z x : List Int} (k1 : 1 ≤ kd) (k4 : kd ≤ 4) (l : le4 z x = true) : le4 (prj kd z) (prj kd x) = true := by
  obtain ⟨a, c, d, e, a', c', d', e', rfl, rfl, h1, h2, h3, h4⟩ := le4_len l
  rcases kd_cases k1 k4 with rfl | rfl | rfl | rfl
  · exact le4_iff.mpr ⟨h1, Int.le_refl _, Int.le_refl _, Int.le_refl _⟩
  · exact le4_iff.mpr ⟨h1, h2, Int.le_refl _, Int.le_refl _⟩
  · exact le4_iff.mpr ⟨h1, h2, h3, Int.le_refl _⟩
  · exact le4_iff.mpr ⟨h1, h2, h3, h4⟩
/-- the ways have as many numbers as there are kinds -/
def RKd (kd : Nat) (R : Rooms) : Prop := ∀ l ∈ R, ∀ a ∈ l, ∀ p ∈ a, ∃ w : List Int, w.length = kd ∧ p.1 = four w
theorem pb_prj {b : Option Int} {R : Rooms} {kd : Nat} (k1 : 1 ≤ kd) (k4 : kd ≤ 4) (rk : RKd kd R) : ∀ (n r : Nat) (x : List Int), PB b R n r x → PB b R n r (prj kd x)
  | 0, _, _, _ => True.intro
  | n + 1, r, x, h => ⟨pb_prj k1 k4 rk n r x h.1, fun a ha => by
    obtain ⟨z, oz, lz, iz, p, mp, o1, q⟩ := h.2 a ha
    obtain ⟨l, ml, ma⟩ := roomAt_mem ha
    obtain ⟨w, lw, ew⟩ := rk l ml a ma p mp
    obtain ⟨op, lp⟩ := prj_ok oz k1 k4
    refine ⟨prj kd z, op, prj_le k1 k4 lz, iz.down lp, p, mp, ?_⟩
    rw [ew] at o1 q ⊢
    rw [prj_add (ok4_len oz) lw k1 k4]
    exact ⟨(prj_ok o1 k1 k4).1, pb_prj k1 k4 rk n _ _ q⟩⟩
/-- some way leads to what lasts on within the box -/
theorem gb_step {b : Int} {R : Rooms} {r : Nat} {x : List Int} (b0 : 0 ≤ b) (hx : Ok4 x) (h : GB b R r x) {a : PAsk} (ha : a ∈ roomAt R r) : ∃ p ∈ a, Ok4 (add4 (clip4 [b, b, b, b] x) p.1) ∧ GB b R p.2 (add4 (clip4 [b, b, b, b] x) p.1) := by
  have each : ∀ n, ∃ p ∈ a, Ok4 (add4 (clip4 [b, b, b, b] x) p.1) ∧ PB (some b) R n p.2 (add4 (clip4 [b, b, b, b] x) p.1) := fun n => by
    obtain ⟨z, oz, lz, iz, p, mp, o1, q⟩ := (h (n + 1)).2 a ha
    obtain ⟨o2, l2⟩ := add4_le (le4_in lz iz) o1
    exact ⟨p, mp, o2, q.mono l2⟩
  obtain ⟨p, mp, f⟩ := some_all (F := fun (p : List Int × Nat) n => Ok4 (add4 (clip4 [b, b, b, b] x) p.1) ∧ PB (some b) R n p.2 (add4 (clip4 [b, b, b, b] x) p.1)) (fun p n m l h => ⟨h.1, h.2.le l⟩) a each
  exact ⟨p, mp, (f 0).1, fun n => (f n).2⟩
/-- the sides of a box for its columns -/
structure SdOk (b : Int) (kd s1 s2 s3 : Nat) : Prop where
  b0 : 0 ≤ b
  k1 : 1 ≤ kd
  k4 : kd ≤ 4
  e1 : (s1 : Int) = if 1 < kd then b + 1 else 1
  e2 : (s2 : Int) = if 2 < kd then b + 1 else 1
  e3 : (s3 : Int) = if 3 < kd then b + 1 else 1
def trim (b : Int) (s1 s2 s3 : Nat) : List Int → List Int
  | [h, x, y, z] => [min b h, min ((s1 : Int) - 1) x, min ((s2 : Int) - 1) y, min ((s3 : Int) - 1) z]
  | x => x
theorem trim_is {b : Int} {kd s1 s2 s3 : Nat} (o : SdOk b kd s1 s2 s3) {x : List Int} (hx : Ok4 x) : trim b s1 s2 s3 x = prj kd (clip4 [b, b, b, b] x) := by
  obtain ⟨h, x, y, z, rfl, p1, p2, p3, p4⟩ := hx
  have e1 := o.e1
  have e2 := o.e2
  have e3 := o.e3
  have b0 := o.b0
  show [min b h, min ((s1 : Int) - 1) x, min ((s2 : Int) - 1) y, min ((s3 : Int) - 1) z] = prj kd [min b h, min b x, min b y, min b z]
  rcases kd_cases o.k1 o.k4 with rfl | rfl | rfl | rfl
  · simp only [show ¬ (1 < 1) by decide, show ¬ (2 < 1) by decide, show ¬ (3 < 1) by decide, if_false] at e1 e2 e3
    show _ = [min b h, 0, 0, 0]
    rw [show min ((s1 : Int) - 1) x = 0 by omega, show min ((s2 : Int) - 1) y = 0 by omega, show min ((s3 : Int) - 1) z = 0 by omega]
  · simp only [show 1 < 2 by decide, show ¬ (2 < 2) by decide, show ¬ (3 < 2) by decide, if_false, if_true] at e1 e2 e3
    show _ = [min b h, min b x, 0, 0]
    rw [show min ((s1 : Int) - 1) x = min b x by omega, show min ((s2 : Int) - 1) y = 0 by omega, show min ((s3 : Int) - 1) z = 0 by omega]
  · simp only [show 1 < 3 by decide, show 2 < 3 by decide, show ¬ (3 < 3) by decide, if_false, if_true] at e1 e2 e3
    show _ = [min b h, min b x, min b y, 0]
    rw [show min ((s1 : Int) - 1) x = min b x by omega, show min ((s2 : Int) - 1) y = min b y by omega, show min ((s3 : Int) - 1) z = 0 by omega]
  · simp only [show 1 < 4 by decide, show 2 < 4 by decide, show 3 < 4 by decide, if_true] at e1 e2 e3
    show _ = [min b h, min b x, min b y, min b z]
    rw [show min ((s1 : Int) - 1) x = min b x by omega, show min ((s2 : Int) - 1) y = min b y by omega, show min ((s3 : Int) - 1) z = min b z by omega]
theorem gb_trim {b : Int} {kd s1 s2 s3 : Nat} (o : SdOk b kd s1 s2 s3) {R : Rooms} (rk : RKd kd R) {r : Nat} {x : List Int} (hx : Ok4 x) (h : GB b R r x) : GB b R r (trim b s1 s2 s3 x) := fun n => by
  rw [trim_is o hx]
  exact pb_prj o.k1 o.k4 rk n r _ (pb_clip n (h n))
/-- what the heights tell, lasts -/
theorem sol_lasts {b : Int} {kd s1 s2 s3 : Nat} (o : SdOk b kd s1 s2 s3) {R : Rooms} (okR : RmOk R) (lb : b < hNone) (wb : ∀ l ∈ R, ∀ a ∈ l, ∀ p ∈ a, p.1.getD 0 0 + b < hNone) {hs : List Int} (ho : HOk b (R.length * (s1 * (s2 * s3)) + 1) hs) (sol : Sol (itemsR s1 s2 s3 R R.length) hs) :
    ∀ (n r i j l : Nat) (h : Int), r < R.length → i < s1 → j < s2 → l < s3 → hAt s1 s2 s3 hs r i j l ≤ h → h ≤ b → PB (some b) R n r [h, (i : Int), (j : Int), (l : Int)]
  | 0, _, _, _, _, _, _, _, _, _, _, _ => True.intro
  | n + 1, r, i, j, l, h, hr, hi, hj, hl, le, hb => by
    refine ⟨sol_lasts o okR lb wb ho sol n r i j l h hr hi hj hl le hb, fun a ha => ?_⟩
    obtain ⟨rl, mrl, ma⟩ := roomAt_mem ha
    have lw := okR.pair rl mrl a ma
    have ct := cIx_lt hi hj hl
    have inR : ∀ {to t : Nat}, to < R.length → t < s1 * (s2 * s3) → to * (s1 * (s2 * s3)) + t < R.length * (s1 * (s2 * s3)) := fun {to t} h1 h2 => by
      have : (to + 1) * (s1 * (s2 * s3)) ≤ R.length * (s1 * (s2 * s3)) := Nat.mul_le_mul_right _ h1
      rw [Nat.succ_mul] at this
      omega
    have hit : (⟨meetOf s1 s2 s3 a, cIx s2 s3 i j l, r * (s1 * (s2 * s3)) + cIx s2 s3 i j l⟩ : Item) ∈ itemsR s1 s2 s3 R R.length := items_mem.mpr ⟨r, _, a, hr, ct, ha, rfl⟩
    obtain ⟨q, hq, met⟩ := sol _ hit (by show hAt s1 s2 s3 hs r i j l < hNone; omega)
    have met : hv hs q.1 - q.2 ≤ hAt s1 s2 s3 hs r i j l := met
    obtain ⟨w0, w1, w2, w3, to, mp, eq⟩ := wt_of hi hj hl (fun p hp => (lw p hp).1) hq
    have toR : to < R.length := (lw _ mp).2
    have w0b : w0 + b < hNone := wb rl mrl a ma _ mp
    have hpos : 0 ≤ hAt s1 s2 s3 hs r i j l := by
      rcases ho.rng _ (show r * (s1 * (s2 * s3)) + cIx s2 s3 i j l < R.length * (s1 * (s2 * s3)) + 1 by have := inR hr ct; omega) with ⟨z, _⟩ | z
      · exact z
      · show 0 ≤ hs.getD _ 0
        rw [z]
        decide
    by_cases z : rch s1 i w1 < 0 ∨ rch s2 j w2 < 0 ∨ rch s3 l w3 < 0
    · rw [if_pos z] at eq
      rw [eq] at met
      have e : hv hs (-1) = hNone := by
        rw [hv_cx (by rw [ho.len]; exact ho.pos) (by decide) (by rw [ho.len]; omega), ho.len]
        exact ho.top
      have met : hv hs (-1) - w0 ≤ hAt s1 s2 s3 hs r i j l := met
      omega
    · rw [if_neg z] at eq
      obtain ⟨i', j', l', hi', hj', hl', ei, ej, el, ec⟩ := rch_nat hi hj hl z
      have ct' := cIx_lt hi' hj' hl'
      have inr := inR toR ct'
      have met : hv hs (((to * (s1 * (s2 * s3)) : Nat) : Int) + ((rch s1 i w1 * s2 + rch s2 j w2) * s3 + rch s3 l w3)) - w0 ≤ hAt s1 s2 s3 hs r i j l := by
        rw [eq] at met
        exact met
      rw [ec, ← Int.natCast_add, hv_cx (by rw [ho.len]; exact ho.pos) (by omega) (by rw [ho.len]; omega), ho.len, cx_nat] at met
      have met : hAt s1 s2 s3 hs to i' j' l' - w0 ≤ hAt s1 s2 s3 hs r i j l := met
      have hb' : 0 ≤ hAt s1 s2 s3 hs to i' j' l' ∧ hAt s1 s2 s3 hs to i' j' l' ≤ b := by
        rcases ho.rng _ (show to * (s1 * (s2 * s3)) + cIx s2 s3 i' j' l' < R.length * (s1 * (s2 * s3)) + 1 by omega) with z | z
        · exact z
        · have z : hAt s1 s2 s3 hs to i' j' l' = hNone := z
          omega
      have m1 : rch s1 i w1 ≤ (i : Int) + w1 := Int.min_le_right _ _
      have m2 : rch s2 j w2 ≤ (j : Int) + w2 := Int.min_le_right _ _
      have m3 : rch s3 l w3 ≤ (l : Int) + w3 := Int.min_le_right _ _
      have ox : Ok4 [h, (i : Int), (j : Int), (l : Int)] := ⟨_, _, _, _, rfl, by omega, by omega, by omega, by omega⟩
      have sb : (s1 : Int) ≤ b + 1 ∧ (s2 : Int) ≤ b + 1 ∧ (s3 : Int) ≤ b + 1 := by
        have e1 := o.e1
        have e2 := o.e2
        have e3 := o.e3
        have b0 := o.b0
        refine ⟨?_, ?_, ?_⟩
        · rw [e1]; split <;> omega
        · rw [e2]; split <;> omega
        · rw [e3]; split <;> omega
      refine ⟨_, ox, le4_refl ox, fun b' e => by cases e; exact le4_iff.mpr ⟨hb, by omega, by omega, by omega⟩, _, mp, ?_, ?_⟩
      · exact ⟨_, _, _, _, rfl, by show 0 ≤ h + w0; omega, by show 0 ≤ (i : Int) + w1; omega, by show 0 ≤ (j : Int) + w2; omega, by show 0 ≤ (l : Int) + w3; omega⟩
      · refine (sol_lasts o okR lb wb ho sol n to i' j' l' (hAt s1 s2 s3 hs to i' j' l') toR hi' hj' hl' (Int.le_refl _) hb'.2).mono ?_
        exact le4_iff.mpr ⟨by show _ ≤ h + w0; omega, by show _ ≤ (i : Int) + w1; omega, by show _ ≤ (j : Int) + w2; omega, by show _ ≤ (l : Int) + w3; omega⟩
/-! ### the least heights tell all that lasts within a box (plain Lean) -/
theorem least_nat {F : Nat → Prop} (h : ∃ k, F k) : ∃ k, F k ∧ ∀ m, F m → k ≤ m := by
  obtain ⟨k, hk⟩ := h
  induction k using Nat.strongRecOn with
  | ind k ih =>
    by_cases z : ∃ m, m < k ∧ F m
    · obtain ⟨m, lt, fm⟩ := z
      exact ih m lt fm
    · exact ⟨k, hk, fun m fm => Nat.le_of_not_lt fun lt => z ⟨m, lt, fm⟩⟩
structure InC (R : Rooms) (s1 s2 s3 r i j l : Nat) : Prop where
  r : r < R.length
  i : i < s1
  j : j < s2
  l : l < s3
theorem InC.lt {R : Rooms} {s1 s2 s3 r i j l : Nat} (o : InC R s1 s2 s3 r i j l) : r * (s1 * (s2 * s3)) + cIx s2 s3 i j l < R.length * (s1 * (s2 * s3)) := by
  have h1 := cIx_lt o.i o.j o.l
  have h2 : (r + 1) * (s1 * (s2 * s3)) ≤ R.length * (s1 * (s2 * s3)) := Nat.mul_le_mul_right _ o.r
  rw [Nat.succ_mul] at h2
  omega
theorem inC_of {R : Rooms} {s1 s2 s3 c : Nat} (h : c < R.length * (s1 * (s2 * s3))) : ∃ r i j l, InC R s1 s2 s3 r i j l ∧ c = r * (s1 * (s2 * s3)) + cIx s2 s3 i j l := by
  have pN : 0 < s1 * (s2 * s3) := Nat.pos_of_ne_zero fun z => by rw [z, Nat.mul_zero] at h; omega
  obtain ⟨i, j, l, hi, hj, hl, e⟩ := cIx_dec (Nat.mod_lt c pN)
  exact ⟨c / (s1 * (s2 * s3)), i, j, l, ⟨by rw [Nat.div_lt_iff_lt_mul pN]; exact h, hi, hj, hl⟩, by rw [← e, Nat.div_add_mod']⟩
theorem inC_uniq {R : Rooms} {s1 s2 s3 r i j l r' i' j' l' : Nat} (o : InC R s1 s2 s3 r i j l) (o' : InC R s1 s2 s3 r' i' j' l') (e : r * (s1 * (s2 * s3)) + cIx s2 s3 i j l = r' * (s1 * (s2 * s3)) + cIx s2 s3 i' j' l') : r = r' ∧ i = i' ∧ j = j' ∧ l = l' := by
  have h1 := cIx_lt o.i o.j o.l
  have h2 := cIx_lt o'.i o'.j o'.l
  have m1 : (r * (s1 * (s2 * s3)) + cIx s2 s3 i j l) % (s1 * (s2 * s3)) = cIx s2 s3 i j l := by rw [Nat.mul_comm, Nat.mul_add_mod, Nat.mod_eq_of_lt h1]
  have m2 : (r' * (s1 * (s2 * s3)) + cIx s2 s3 i' j' l') % (s1 * (s2 * s3)) = cIx s2 s3 i' j' l' := by rw [Nat.mul_comm, Nat.mul_add_mod, Nat.mod_eq_of_lt h2]
  rw [e, m2] at m1
  rw [m1] at e
  have er : r * (s1 * (s2 * s3)) = r' * (s1 * (s2 * s3)) := by omega
  obtain ⟨a1, a2, a3⟩ := cIx_inv (i := i) o.j o.l
  obtain ⟨b1, b2, b3⟩ := cIx_inv (i := i') o'.j o'.l
  rw [← m1] at a1 a2 a3
  exact ⟨Nat.eq_of_mul_eq_mul_right (by omega) er, a1.symm.trans b1, a2.symm.trans b2, a3.symm.trans b3⟩
theorem sides_le {b : Int} {kd s1 s2 s3 : Nat} (o : SdOk b kd s1 s2 s3) : (1 ≤ (s1 : Int) ∧ 1 ≤ (s2 : Int) ∧ 1 ≤ (s3 : Int)) ∧ (s1 : Int) ≤ b + 1 ∧ (s2 : Int) ≤ b + 1 ∧ (s3 : Int) ≤ b + 1 := by
  have e1 := o.e1
  have e2 := o.e2
  have e3 := o.e3
  have b0 := o.b0
  rw [e1, e2, e3]
  refine ⟨⟨?_, ?_, ?_⟩, ?_, ?_, ?_⟩ <;> split <;> omega
section
variable {b : Int} {kd s1 s2 s3 : Nat} {R : Rooms}
theorem least_sol (o : SdOk b kd s1 s2 s3) (okR : RmOk R) (rk : RKd kd R) (lb : b < hNone) : ∃ T, HOk b (R.length * (s1 * (s2 * s3)) + 1) T ∧ Sol (itemsR s1 s2 s3 R R.length) T ∧
    (∀ r i j l, InC R s1 s2 s3 r i j l → (∀ h, 0 ≤ h → h ≤ b → GB b R r [h, (i : Int), (j : Int), (l : Int)] → hAt s1 s2 s3 T r i j l ≤ h) ∧
      (hAt s1 s2 s3 T r i j l < hNone → 0 ≤ hAt s1 s2 s3 T r i j l ∧ hAt s1 s2 s3 T r i j l ≤ b ∧ GB b R r [hAt s1 s2 s3 T r i j l, (i : Int), (j : Int), (l : Int)])) := by
  have ex : ∀ c : Nat, ∃ v : Int, ∀ r i j l, InC R s1 s2 s3 r i j l → c = r * (s1 * (s2 * s3)) + cIx s2 s3 i j l → ((0 ≤ v ∧ v ≤ b ∧ GB b R r [v, (i : Int), (j : Int), (l : Int)]) ∨ v = hNone) ∧ ∀ h, 0 ≤ h → h ≤ b → GB b R r [h, (i : Int), (j : Int), (l : Int)] → v ≤ h := fun c => by
    by_cases hc : c < R.length * (s1 * (s2 * s3))
    · obtain ⟨r, i, j, l, oc, ec⟩ := inC_of hc
      by_cases z : ∃ k : Nat, (k : Int) ≤ b ∧ GB b R r [(k : Int), (i : Int), (j : Int), (l : Int)]
      · obtain ⟨k, ⟨kb, gk⟩, least⟩ := least_nat z
        refine ⟨(k : Int), fun r' i' j' l' o' e' => ?_⟩
        obtain ⟨rfl, rfl, rfl, rfl⟩ := inC_uniq oc o' (ec.symm.trans e')
        refine ⟨.inl ⟨by omega, kb, gk⟩, fun h h0 hb g => ?_⟩
        have := least h.toNat ⟨by omega, by rw [Int.toNat_of_nonneg h0]; exact g⟩
        omega
      · refine ⟨hNone, fun r' i' j' l' o' e' => ⟨.inr rfl, fun h h0 hb g => ?_⟩⟩
        obtain ⟨rfl, rfl, rfl, rfl⟩ := inC_uniq oc o' (ec.symm.trans e')
        exact absurd ⟨h.toNat, by omega, by rw [Int.toNat_of_nonneg h0]; exact g⟩ z
    · exact ⟨0, fun r i j l oc e => absurd oc.lt (by omega)⟩
  obtain ⟨f, hf⟩ := Classical.axiomOfChoice ex
  obtain ⟨m, em⟩ : ∃ m, R.length * (s1 * (s2 * s3)) = m := ⟨_, rfl⟩
  have low : ∀ c, c < m → ((List.range m).map f ++ [hNone]).getD c 0 = f c := fun c hc => by
    rw [List.getD_eq_getElem?_getD, List.getElem?_append_left (by rw [List.length_map, List.length_range]; exact hc), List.getElem?_map, List.getElem?_range hc]
    rfl
  have top : ((List.range m).map f ++ [hNone]).getD m 0 = hNone := by
    rw [List.getD_eq_getElem?_getD, List.getElem?_append_right (by rw [List.length_map, List.length_range]; exact Nat.le_refl _), List.length_map, List.length_range, Nat.sub_self]
    rfl
  have at_c : ∀ r i j l, InC R s1 s2 s3 r i j l → hAt s1 s2 s3 ((List.range m).map f ++ [hNone]) r i j l = f (r * (s1 * (s2 * s3)) + cIx s2 s3 i j l) := fun r i j l oc => low _ (by rw [← em]; exact oc.lt)
  have lenT : ((List.range m).map f ++ [hNone]).length = m + 1 := by rw [List.length_append, List.length_map, List.length_range, List.length_singleton]
  generalize (List.range m).map f ++ [hNone] = T at low top at_c lenT
  rw [em]
  obtain ⟨⟨p1, p2, p3⟩, q1, q2, q3⟩ := sides_le o
  refine ⟨T, ⟨lenT, by omega, by rw [Nat.add_sub_cancel]; exact top, fun c hc => ?_⟩, ?_, fun r i j l oc => ?_⟩
  · by_cases z : c < m
    · rw [low c z]
      obtain ⟨r, i, j, l, oc, ec⟩ := inC_of (R := R) (s1 := s1) (s2 := s2) (s3 := s3) (by rw [em]; exact z)
      rcases (hf c r i j l oc ec).1 with ⟨h1, h2, _⟩ | h
      · exact .inl ⟨h1, h2⟩
      · exact .inr h
    · rw [show c = m by omega]
      exact .inr top
  · intro it hit lo
    obtain ⟨r, t, a, hr, ht, ha, rfl⟩ := items_mem.mp hit
    obtain ⟨i, j, l, hi, hj, hl, rfl⟩ := cIx_dec ht
    have oc : InC R s1 s2 s3 r i j l := ⟨hr, hi, hj, hl⟩
    have lo : hAt s1 s2 s3 T r i j l < hNone := lo
    show ∃ q ∈ wt (meetOf s1 s2 s3 a) (cIx s2 s3 i j l), hv T q.1 - q.2 ≤ hAt s1 s2 s3 T r i j l
    rw [at_c r i j l oc] at lo ⊢
    obtain ⟨h0, hb, g⟩ : 0 ≤ f (r * (s1 * (s2 * s3)) + cIx s2 s3 i j l) ∧ f (r * (s1 * (s2 * s3)) + cIx s2 s3 i j l) ≤ b ∧ GB b R r [f (r * (s1 * (s2 * s3)) + cIx s2 s3 i j l), (i : Int), (j : Int), (l : Int)] := by
      rcases (hf _ r i j l oc rfl).1 with h | h
      · exact h
      · omega
    generalize f (r * (s1 * (s2 * s3)) + cIx s2 s3 i j l) = h at h0 hb g ⊢
    have ox : Ok4 [h, (i : Int), (j : Int), (l : Int)] := ⟨_, _, _, _, rfl, h0, by omega, by omega, by omega⟩
    obtain ⟨⟨w, to⟩, mp, o1, g1⟩ := gb_step o.b0 ox g ha
    obtain ⟨rl, mrl, ma⟩ := roomAt_mem ha
    obtain ⟨w4, pR⟩ := okR.pair rl mrl a ma _ mp
    obtain ⟨w0, w1, w2, w3, ew⟩ := four_of w4
    dsimp only at ew pR o1 g1
    subst ew
    have ey : add4 (clip4 [b, b, b, b] [h, (i : Int), (j : Int), (l : Int)]) [w0, w1, w2, w3] = [h + w0, (i : Int) + w1, (j : Int) + w2, (l : Int) + w3] := by
      show [min b h + w0, min b (i : Int) + w1, min b (j : Int) + w2, min b (l : Int) + w3] = _
      rw [show min b h = h by omega, show min b (i : Int) = i by omega, show min b (j : Int) = j by omega, show min b (l : Int) = l by omega]
    rw [ey] at o1 g1
    have g2 := gb_trim o rk o1 g1
    obtain ⟨_, _, _, _, e, n1, n2, n3, n4⟩ := o1
    obtain ⟨e1, e⟩ := List.cons.inj e
    obtain ⟨e2, e⟩ := List.cons.inj e
    obtain ⟨e3, e⟩ := List.cons.inj e
    obtain ⟨e4, _⟩ := List.cons.inj e
    have z : ¬ (rch s1 i w1 < 0 ∨ rch s2 j w2 < 0 ∨ rch s3 l w3 < 0) := by
      unfold rch
      omega
    have hq := wt_get hi hj hl mp
    rw [if_neg z] at hq
    refine ⟨_, hq, ?_⟩
    obtain ⟨i', j', l', hi', hj', hl', ei, ej, el, ec⟩ := rch_nat hi hj hl z
    have oc' : InC R s1 s2 s3 to i' j' l' := ⟨pR, hi', hj', hl'⟩
    have lt' := oc'.lt
    rw [em] at lt'
    show hv T (((to * (s1 * (s2 * s3)) : Nat) : Int) + ((rch s1 i w1 * s2 + rch s2 j w2) * s3 + rch s3 l w3)) - w0 ≤ h
    rw [ec, ← Int.natCast_add, hv_cx (by omega) (by omega) (by omega), lenT, cx_nat]
    have e2 := at_c to i' j' l' oc'
    unfold hAt at e2
    rw [e2]
    have g3 : GB b R to [min b (h + w0), (i' : Int), (j' : Int), (l' : Int)] := by
      rw [ei, ej, el]
      exact g2
    have := (hf _ to i' j' l' oc' rfl).2 (min b (h + w0)) (by have := o.b0; omega) (by omega) g3
    omega
  · rw [at_c r i j l oc]
    obtain ⟨h1, h2⟩ := hf _ r i j l oc rfl
    refine ⟨h2, fun lo => ?_⟩
    rcases h1 with h | h
    · exact h
    · omega
/-- the least heights from some on: they tell what lasts within the box -/
theorem settled_up (o : SdOk b kd s1 s2 s3) (okR : RmOk R) (rk : RKd kd R) (lb : b < hNone) (wb : ∀ l ∈ R, ∀ a ∈ l, ∀ p ∈ a, p.1.getD 0 0 + b < hNone) {hb hs : List Int} (hob : HOk b (R.length * (s1 * (s2 * s3)) + 1) hb) (ho : HOk b (R.length * (s1 * (s2 * s3)) + 1) hs)
    (start : ∀ r i j l, InC R s1 s2 s3 r i j l → ∀ h, 0 ≤ h → h ≤ b → GB b R r [h, (i : Int), (j : Int), (l : Int)] → hAt s1 s2 s3 hb r i j l ≤ h) (sol : Sol (itemsR s1 s2 s3 R R.length) hs)
    (least : ∀ T, HOk b (R.length * (s1 * (s2 * s3)) + 1) T → LeL hb T → Sol (itemsR s1 s2 s3 R R.length) T → LeL hs T) {r : Nat} (hr : r < R.length) {x : List Int} (hx : Ok4 x) :
    GB b R r x ↔ ∃ i j l, InC R s1 s2 s3 r i j l ∧ hAt s1 s2 s3 hs r i j l < hNone ∧ le4 [hAt s1 s2 s3 hs r i j l, (i : Int), (j : Int), (l : Int)] x = true := by
  have rng : ∀ r i j l, InC R s1 s2 s3 r i j l → (0 ≤ hAt s1 s2 s3 hs r i j l ∧ hAt s1 s2 s3 hs r i j l ≤ b) ∨ hAt s1 s2 s3 hs r i j l = hNone := fun r i j l oc => ho.rng _ (by have := oc.lt; omega)
  constructor
  · intro g
    obtain ⟨T, hoT, solT, tT⟩ := least_sol o okR rk lb
    have le0 : LeL hb T := fun c => by
      by_cases z : c < R.length * (s1 * (s2 * s3))
      · obtain ⟨r, i, j, l, oc, rfl⟩ := inC_of z
        obtain ⟨t1, t2⟩ := tT r i j l oc
        by_cases lo : hAt s1 s2 s3 T r i j l < hNone
        · obtain ⟨a1, a2, a3⟩ := t2 lo
          exact start r i j l oc _ a1 a2 a3
        · have h1 := hob.rng (r * (s1 * (s2 * s3)) + cIx s2 s3 i j l) (by omega)
          have lo : ¬ T.getD (r * (s1 * (s2 * s3)) + cIx s2 s3 i j l) 0 < hNone := lo
          rcases h1 with h1 | h1 <;> omega
      · by_cases z2 : c = R.length * (s1 * (s2 * s3))
        · have h1 := hob.top
          have h2 := hoT.top
          rw [Nat.add_sub_cancel, ← z2] at h1 h2
          rw [h1, h2]
          exact Int.le_refl _
        · rw [List.getD_eq_getElem?_getD, List.getD_eq_getElem?_getD, List.getElem?_eq_none (by rw [hob.len]; omega), List.getElem?_eq_none (by rw [hoT.len]; omega)]
          exact Int.le_refl _
    have leT := least T hoT le0 solT
    have g2 := gb_trim o rk hx g
    obtain ⟨h, x1, x2, x3, rfl, n0, n1, n2, n3⟩ := hx
    obtain ⟨⟨p1, p2, p3⟩, q1, q2, q3⟩ := sides_le o
    have b0 := o.b0
    have g2 : GB b R r [min b h, min ((s1 : Int) - 1) x1, min ((s2 : Int) - 1) x2, min ((s3 : Int) - 1) x3] := g2
    obtain ⟨i, ei⟩ : ∃ i : Nat, (i : Int) = min ((s1 : Int) - 1) x1 := ⟨_, Int.toNat_of_nonneg (by omega)⟩
    obtain ⟨j, ej⟩ : ∃ i : Nat, (i : Int) = min ((s2 : Int) - 1) x2 := ⟨_, Int.toNat_of_nonneg (by omega)⟩
    obtain ⟨l, el⟩ : ∃ i : Nat, (i : Int) = min ((s3 : Int) - 1) x3 := ⟨_, Int.toNat_of_nonneg (by omega)⟩
    have oc : InC R s1 s2 s3 r i j l := ⟨hr, by omega, by omega, by omega⟩
    rw [← ei, ← ej, ← el] at g2
    have t1 := (tT r i j l oc).1 (min b h) (by omega) (by omega) g2
    have t2 : hAt s1 s2 s3 hs r i j l ≤ hAt s1 s2 s3 T r i j l := leT _
    exact ⟨i, j, l, oc, by omega, le4_iff.mpr ⟨by omega, by omega, by omega, by omega⟩⟩
  · rintro ⟨i, j, l, oc, lo, le⟩
    have hbb : hAt s1 s2 s3 hs r i j l ≤ b := by
      rcases rng r i j l oc with ⟨_, z⟩ | z
      · exact z
      · omega
    have g : GB b R r [hAt s1 s2 s3 hs r i j l, (i : Int), (j : Int), (l : Int)] := fun n => sol_lasts o okR lb wb ho sol n r i j l _ oc.r oc.i oc.j oc.l (Int.le_refl _) hbb
    exact g.mono le
end
/-! ### the least that last within a box, by columns -/
def sSettled : Stmt := topS 16
structure StOk (kd b s1 s2 s3 : Nat) (R : Rooms) : Prop where
  k1 : 1 ≤ kd
  k4 : kd ≤ 4
  e1 : s1 = sd kd b 1
  e2 : s2 = sd kd b 2
  e3 : s3 = sd kd b 3
  bs : b ≤ 900
  few : s1 * (s2 * s3) < 4096
  all : R.length * (s1 * (s2 * s3)) ≤ 1000000
  its : (itemsR s1 s2 s3 R R.length).length ≤ 1000000
  rm : RmOk R
  rk : RKd kd R
  ne : ∀ l ∈ R, ∀ a ∈ l, a ≠ []
  wb : ∀ l ∈ R, ∀ a ∈ l, ∀ p ∈ a, p.1.getD 0 0 + (b : Int) < hNone
theorem StOk.sdOk {kd b s1 s2 s3 : Nat} {R : Rooms} (o : StOk kd b s1 s2 s3 R) : SdOk (b : Int) kd s1 s2 s3 := by
  have e1 := o.e1
  have e2 := o.e2
  have e3 := o.e3
  unfold sd at e1 e2 e3
  refine ⟨by omega, o.k1, o.k4, ?_, ?_, ?_⟩
  · rw [e1]; split <;> omega
  · rw [e2]; split <;> omega
  · rw [e3]; split <;> omega
theorem StOk.sides {kd b s1 s2 s3 : Nat} {R : Rooms} (o : StOk kd b s1 s2 s3 R) : SidesOk s1 s2 s3 := by
  obtain ⟨⟨p1, p2, p3⟩, q1, q2, q3⟩ := sides_le o.sdOk
  have bs := o.bs
  have few := o.few
  exact ⟨by omega, by omega, by omega, by omega, by omega, by omega, by omega⟩
/-- the heights to begin with -/
def hgtsL (L : List (List (List Int))) (C : List (List Int)) : List Int := L.flatMap fun l => C.map (hgt l)
theorem cols_get {s1 s2 s3 i j l : Nat} (hi : i < s1) (hj : j < s2) (hl : l < s3) : (colsL s1 s2 s3)[cIx s2 s3 i j l]? = some [(i : Int), (j : Int), (l : Int)] := by
  unfold colsL cIx
  have e1 : (i * s2 + j) * s3 + l = i * (s2 * s3) + (j * s3 + l) := by rw [Nat.add_mul, Nat.mul_assoc, Nat.add_assoc]
  have lt : j * s3 + l < s2 * s3 := by
    have : (j + 1) * s3 ≤ s2 * s3 := Nat.mul_le_mul_right _ hj
    rw [Nat.succ_mul] at this
    omega
  rw [e1, flat_get (q := s2 * s3) (fun x => by rw [boxflat_len (q := s3) fun y => by rw [List.length_map, List.length_range], List.length_range]) _ i _ i (List.getElem?_range hi) lt,
    flat_get (q := s3) (fun y => by rw [List.length_map, List.length_range]) _ j l j (List.getElem?_range hj) hl, List.getElem?_map, List.getElem?_range hl]
  rfl
theorem hgtsL_at {L : List (List (List Int))} {s1 s2 s3 r i j l : Nat} {S : List (List Int)} (hr : L[r]? = some S) (hi : i < s1) (hj : j < s2) (hl : l < s3) : (hgtsL L (colsL s1 s2 s3))[r * (s1 * (s2 * s3)) + cIx s2 s3 i j l]? = some (hgt S [(i : Int), (j : Int), (l : Int)]) := by
  unfold hgtsL
  rw [flat_get (q := s1 * (s2 * s3)) (fun x => by rw [List.length_map, colsL_len]) L r _ S hr (cIx_lt hi hj hl), List.getElem?_map, cols_get hi hj hl]
  rfl
theorem hgtsL_len {L : List (List (List Int))} {s1 s2 s3 : Nat} : (hgtsL L (colsL s1 s2 s3)).length = L.length * (s1 * (s2 * s3)) := by
  unfold hgtsL
  exact boxflat_len (fun x => by rw [List.length_map, colsL_len]) L
theorem mem_hgts {S : List (List Int)} {x y z h : Int} (s4 : ∀ s ∈ S, s.length = 4) : h ∈ hgts S [x, y, z] ↔ ∃ e f g, [h, e, f, g] ∈ S ∧ e ≤ x ∧ f ≤ y ∧ g ≤ z := by
  unfold hgts
  rw [List.mem_filterMap]
  constructor
  · rintro ⟨s, hs, e⟩
    obtain ⟨a, b, c, d, rfl⟩ := four_of (s4 s hs)
    simp only at e
    by_cases z1 : b ≤ x ∧ c ≤ y ∧ d ≤ z
    · rw [if_pos z1] at e
      cases e
      exact ⟨b, c, d, hs, z1⟩
    · rw [if_neg z1] at e
      cases e
  · rintro ⟨e, f, g, hs, z1⟩
    exact ⟨_, hs, if_pos z1⟩
theorem hgt_le {S : List (List Int)} {x y z h e f g : Int} (s4 : ∀ s ∈ S, s.length = 4) (hs : [h, e, f, g] ∈ S) (le : e ≤ x ∧ f ≤ y ∧ g ≤ z) : hgt S [x, y, z] ≤ h := by
  unfold hgt
  have m := (mem_hgts s4).mpr ⟨e, f, g, hs, le⟩
  rcases (minOr_le (hgts S [x, y, z]) hNone (minOr hNone (hgts S [x, y, z]))).mp (Int.le_refl _) with ⟨z1, _⟩ | ⟨_, z1⟩
  · rw [z1] at m
    cases m
  · exact z1 h m
theorem hgt_rng {S : List (List Int)} {x y z b : Int} (ok : ∀ s ∈ S, Ok4 s) (ib : ∀ s ∈ S, InB (some b) s) : (0 ≤ hgt S [x, y, z] ∧ hgt S [x, y, z] ≤ b) ∨ hgt S [x, y, z] = hNone := by
  by_cases e : hgts S [x, y, z] = []
  · refine .inr ?_
    unfold hgt
    rw [e]
    rfl
  · have m := minOr_mem (d := hNone) e
    obtain ⟨c, f, g, hs, _⟩ := (mem_hgts fun s hs => ok4_len (ok s hs)).mp m
    obtain ⟨_, _, _, _, e1, p1, _⟩ := ok _ hs
    have e1 := (List.cons.inj e1).1
    have := (le4_iff.mp (ib _ hs b rfl)).1
    refine .inl ⟨?_, this⟩
    show 0 ≤ minOr hNone (hgts S [x, y, z])
    omega
theorem hgts_ok {kd b s1 s2 s3 : Nat} {R : Rooms} {L : List (List (List Int))} {X : Nat → List Int → Prop} (o : StOk kd b s1 s2 s3 R) (ro : RowOk R.length X L) (ib : ∀ l ∈ L, ∀ s ∈ l, InB (some (b : Int)) s) :
    HOk (b : Int) (R.length * (s1 * (s2 * s3)) + 1) (hgtsL L (colsL s1 s2 s3) ++ [hNone]) := by
  have ll := hgtsL_len (L := L) (s1 := s1) (s2 := s2) (s3 := s3)
  rw [ro.len] at ll
  refine ⟨by rw [List.length_append, ll]; rfl, by omega, ?_, fun c hc => ?_⟩
  · rw [Nat.add_sub_cancel, List.getD_eq_getElem?_getD, List.getElem?_append_right (by omega), ll, Nat.sub_self]
    rfl
  · by_cases z : c < R.length * (s1 * (s2 * s3))
    · obtain ⟨r, i, j, l, oc, rfl⟩ := inC_of z
      obtain ⟨S, hS, cS⟩ := ro.at oc.r
      rw [List.getD_eq_getElem?_getD, List.getElem?_append_left (by omega), hgtsL_at hS oc.i oc.j oc.l, Option.getD_some]
      exact hgt_rng cS.ok (ib S (List.mem_of_getElem? hS))
    · refine .inr ?_
      rw [List.getD_eq_getElem?_getD, List.getElem?_append_right (by omega), ll, show c - R.length * (s1 * (s2 * s3)) = 0 by omega]
      rfl
theorem hgts_start {kd b s1 s2 s3 : Nat} {R : Rooms} {L : List (List (List Int))} {X : Nat → List Int → Prop} (ro : RowOk R.length X L) (hX : ∀ r x, r < R.length → Ok4 x → GB (b : Int) R r x → X r x) :
    ∀ r i j l, InC R s1 s2 s3 r i j l → ∀ h, 0 ≤ h → h ≤ (b : Int) → GB (b : Int) R r [h, (i : Int), (j : Int), (l : Int)] → hAt s1 s2 s3 (hgtsL L (colsL s1 s2 s3) ++ [hNone]) r i j l ≤ h := fun r i j l oc h h0 hb g => by
  obtain ⟨S, hS, cS⟩ := ro.at oc.r
  have ll := hgtsL_len (L := L) (s1 := s1) (s2 := s2) (s3 := s3)
  rw [ro.len] at ll
  have lt := oc.lt
  unfold hAt
  rw [List.getD_eq_getElem?_getD, List.getElem?_append_left (by omega), hgtsL_at hS oc.i oc.j oc.l, Option.getD_some]
  have ox : Ok4 [h, (i : Int), (j : Int), (l : Int)] := ⟨_, _, _, _, rfl, h0, by omega, by omega, by omega⟩
  obtain ⟨s, hs, le⟩ := (cS.up _ ox).mpr (hX r _ oc.r ox g)
  obtain ⟨a, e, f, g', rfl⟩ := four_of (ok4_len (cS.ok s hs))
  obtain ⟨l1, l2, l3, l4⟩ := le4_iff.mp le
  exact Int.le_trans (hgt_le (fun s hs => ok4_len (cS.ok s hs)) hs ⟨l2, l3, l4⟩) l1
def spSettled (K : PySem.W.Frag) : Sp := fun vs H Q _ => ∃ (x y : V) (kd b s1 s2 s3 : Nat) (R : Rooms) (L : List (List (List Int))) (X : Nat → List Int → Prop) (pl : Addr) (pus : List V), vs = [x, y, .int (kd : Int), .int (b : Int)] ∧ H pl = some (.lst pus) ∧ Dp K H x (lvD L) ∧ Dp K H y (roomsD R) ∧ StOk kd b s1 s2 s3 R ∧ RowOk R.length X L ∧
  (∀ l ∈ L, ∀ s ∈ l, InB (some (b : Int)) s) ∧ (∀ l ∈ L, l.length ≤ 4096) ∧ (∀ r x, r < R.length → Ok4 x → GB (b : Int) R r x → X r x) ∧
  ∀ q H' M, Same H H' → H q = none → Dp K (rmv H' pl) (.ref q) (lvD M) → RowOk R.length (GB (b : Int) R) M → Q (.ref q) H'
/-- the least stores of the columns of a room of which something lasts -/
def colS (N : Nat) (hs : List Int) (C : List (List Int)) (r k : Nat) : List (List Int) := (List.range k).filterMap fun u => if hs.getD (r * N + u) 0 < hNone then some (hs.getD (r * N + u) 0 :: C.getD u []) else none
theorem colS_snoc {N : Nat} {hs : List Int} {C : List (List Int)} {r k : Nat} : colS N hs C r (k + 1) = colS N hs C r k ++ (if hs.getD (r * N + k) 0 < hNone then [hs.getD (r * N + k) 0 :: C.getD k []] else []) := by
  unfold colS
  rw [List.range_succ, List.filterMap_append]
  congr 1
  by_cases z : hs.getD (r * N + k) 0 < hNone
  · rw [if_pos z, List.filterMap_cons, if_pos z]
    rfl
  · rw [if_neg z, List.filterMap_cons, if_neg z]
    rfl
theorem mem_colS {N : Nat} {hs : List Int} {C : List (List Int)} {r k : Nat} {s : List Int} : s ∈ colS N hs C r k ↔ ∃ u, u < k ∧ hs.getD (r * N + u) 0 < hNone ∧ s = hs.getD (r * N + u) 0 :: C.getD u [] := by
  unfold colS
  rw [List.mem_filterMap]
  constructor
  · rintro ⟨u, hu, e⟩
    by_cases z : hs.getD (r * N + u) 0 < hNone
    · rw [if_pos z] at e
      cases e
      exact ⟨u, List.mem_range.mp hu, z, rfl⟩
    · rw [if_neg z] at e
      cases e
  · rintro ⟨u, hu, z, rfl⟩
    exact ⟨u, List.mem_range.mpr hu, if_pos z⟩
theorem colS_len {N : Nat} {hs : List Int} {C : List (List Int)} {r k : Nat} : (colS N hs C r k).length ≤ k := by
  unfold colS
  refine Nat.le_trans (List.length_filterMap_le _ _) ?_
  rw [List.length_range]
  exact Nat.le_refl _
theorem cut_mid {xs : List V} {a n : Nat} (h : a + n ≤ xs.length) : cutV xs (some (a : Int)) (some ((a + n : Nat) : Int)) = (xs.drop a).take n := by
  unfold cutV
  rw [HT.sIx_nat, HT.sIx_nat, Nat.min_eq_left h, Nat.min_eq_left (show a ≤ xs.length by omega), Nat.add_sub_cancel_left]
theorem cols_up {kd b s1 s2 s3 : Nat} {R : Rooms} {hs : List Int} {r : Nat} {x : List Int} (up : GB (b : Int) R r x ↔ ∃ i j l, InC R s1 s2 s3 r i j l ∧ hAt s1 s2 s3 hs r i j l < hNone ∧ le4 [hAt s1 s2 s3 hs r i j l, (i : Int), (j : Int), (l : Int)] x = true) (hr : r < R.length) :
    UpS (colS (s1 * (s2 * s3)) hs (colsL s1 s2 s3) r (s1 * (s2 * s3))) x ↔ GB (b : Int) R r x := by
  rw [up]
  have cg : ∀ {i j l : Nat}, i < s1 → j < s2 → l < s3 → (colsL s1 s2 s3).getD (cIx s2 s3 i j l) [] = [(i : Int), (j : Int), (l : Int)] := fun hi hj hl => by
    rw [List.getD_eq_getElem?_getD, cols_get hi hj hl, Option.getD_some]
  constructor
  · rintro ⟨s, hs', le⟩
    obtain ⟨u, hu, lo, rfl⟩ := mem_colS.mp hs'
    obtain ⟨i, j, l, hi, hj, hl, rfl⟩ := cIx_dec hu
    rw [cg hi hj hl] at le
    exact ⟨i, j, l, ⟨hr, hi, hj, hl⟩, lo, le⟩
  · rintro ⟨i, j, l, oc, lo, le⟩
    refine ⟨_, mem_colS.mpr ⟨cIx s2 s3 i j l, cIx_lt oc.i oc.j oc.l, lo, rfl⟩, ?_⟩
    rw [cg oc.i oc.j oc.l]
    exact le
section
variable {P : Program} {w : World} {K : PySem.W.Frag} {mg : Str → Option Value} {base : Heap}
theorem scSettled : FnScope ["begun", "rooms", "kinds", "b", "sides", "columns", "heights", "many", "found", "room", "there", "stores", "height", "column"] ["begun", "rooms", "kinds", "b"] (defScope sSettled) := ⟨rfl, rfl, rfl, by decide +kernel, rfl, by decide +kernel, by decide +kernel⟩
theorem ok_settled {f fS fC fH fT fL : Addr} {fd fdS fdC fdH fdT fdL : FuncData} {k : Nat} {tk : Tok} (F : Fun K "least_settled" "least_settled" sSettled f fd)
    (GS : FnOk P w K mg base CX0 (k + 3) fS fdS ["kinds", "b"] (spSides K)) (kS : PySem.W.keepIn K (.ref fS) = true) (bS : Binds K fdS ["kinds", "b"] []) (gS : mg "sides_of" = some (.ref fS))
    (GC : FnOk P w K mg base CX0 (k + 3) fC fdC ["sides"] (spColumns K)) (kC : PySem.W.keepIn K (.ref fC) = true) (bC : Binds K fdC ["sides"] []) (gC : mg "columns_of" = some (.ref fC))
    (GH : FnOk P w K mg base CX0 (k + 3) fH fdH ["stores", "columns"] (spHeights K)) (kH : PySem.W.keepIn K (.ref fH) = true) (bH : Binds K fdH ["stores", "columns"] []) (gH : mg "heights_over" = some (.ref fH))
    (GT : FnOk P w K mg base CX0 (k + 3) fT fdT ["heights", "rooms", "sides", "b"] (spSettle K)) (kT : PySem.W.keepIn K (.ref fT) = true) (bT : Binds K fdT ["heights", "rooms", "sides", "b"] []) (gT : mg "settle" = some (.ref fT))
    (GL : FnOk P w K mg base CX0 (k + 3) fL fdL ["stores"] (spLeastOf K)) (kL : PySem.W.keepIn K (.ref fL) = true) (bL : Binds K fdL ["stores"] []) (gL : mg "least_of" = some (.ref fL))
    (gO : mg "NONE" = some (.int 1000000 tk)) (ml : mg "len" = none) (mr : mg "range" = none) (mz : mg "zip" = none) : FnOk P w K mg base CX0 (k + 4) f fd ["begun", "rooms", "kinds", "b"] (spSettled K) := by
  refine F.ok scSettled (fun vs H Q E h => ?_) (fun cdv A outer s0 H vs Q E hr h => ?_)
  · obtain ⟨x, y, kd, b, s1, s2, s3, R, L, X, pl, pus, rfl, _⟩ := h
    rfl
  · obtain ⟨x, y, kd, b, s1, s2, s3, R, L, X, pl, pus, rfl, hpl, hx, hy, so, ro, ib, lL, hX, q⟩ := h
    refine ⟨_, pss_cons (ps_set (i := 4) scSettled.nd rfl (.inl rfl) (pe_call GS hr (by rfl) gS kS bS .nil pass0 (pa_cons (pv 2) (pa_cons (pv 3) pa_nil))))
      (pss_cons (ps_set (i := 5) scSettled.nd rfl (.inr rfl) (pe_call GC hr (by rfl) gC kC bC .nil pass0 (pa_cons (pv 4) pa_nil)))
      (pss_cons (ps_setLc2 (i := 6) (own := [("stores", 11), ("height", 12)]) (vs1 := [12]) (g := gName 11) (tt := tYes) (g1 := gName 12) (tt1 := tYes) (wi1 := iList K (tCall (spHeights K) [] E0 (tCons (tVar 11) (tCons (tVar 5) tNil)))) (te := tVar 12)
            rfl scSettled.nd rfl rfl (sw_true rfl rfl rfl (by decide +kernel)) (pi_list (pv 0))
            (blkOk_by (N := ["begun", "rooms", "kinds", "b", "sides", "columns", "heights", "many", "found", "room", "there", "stores", "height", "column"]) (sc := defScope sSettled) (by decide +kernel)) (by decide)
            (fun _ _ _ _ _ => by exact pg_name (i := 11) scSettled.nd rfl (.inl rfl)) (fun _ _ _ _ _ => pts_nil)
            (fun _ _ _ _ _ => by exact pi_list (pe_call GH hr (by rfl) gH kH bH .nil pass0 (pa_cons (pv 11) (pa_cons (pv 5) pa_nil)))) (fun _ _ _ _ _ => by exact pg_name (i := 12) scSettled.nd rfl (.inl rfl)) (fun _ _ _ _ _ => pts_nil)
            (fun _ _ _ _ _ => by exact pv 12))
      (pss_cons (ps_expr (pe_call GT hr (by rfl) gT kT bT .nil pass0 (pa_cons (pv 6) (pa_cons (pv 1) (pa_cons (pv 4) (pa_cons (pv 3) pa_nil))))))
      (pss_cons (ps_set (i := 7) scSettled.nd rfl (.inl rfl) (pe_callB call_len_seq (by rfl) ml PySem.boot_len (pa_cons (pv 5) pa_nil)))
      (pss_cons (ps_set (i := 8) scSettled.nd rfl (.inl rfl) (pe_lst pa_nil))
      (pss_cons (ps_for PassesOwn.never rfl (pi_range1 (by rfl) mr (pa_cons (pe_callB call_len_seq (by rfl) ml PySem.boot_len (pa_cons (pv 1) pa_nil)) pa_nil)) (pg_name (i := 9) scSettled.nd rfl (.inl rfl))
        (pss_cons (ps_set (i := 10) scSettled.nd rfl (.inl rfl) (pe_slice sl_list (pv 6) (po_some (pe_op op_mul (pv 9) (pv 7))) (po_some (pe_op op_add (pe_op op_mul (pv 9) (pv 7)) (pv 7)))))
        (pss_one (ps_expr (pe_bm PySem.F.plainAttrs_list PySem.F.slot_list_append PySem.F.type_list_append mt_append (pv 8) (pa_cons (pe_call GL hr (by rfl) gL kL bL .nil pass0 (pa_cons
            (pe_lc (own := [("height", 12), ("column", 13)]) (g := gTup K 2 (gCons (gName 12) (gCons (gName 13) gNil))) (tt := tTest (tOp (rI0 fun i j => .bl (decide (i < j))) (tVar 12) (tC (.int 1000000)))) (te := tOp (rCatN K) (tTup (tCons (tVar 12) tNil)) (tVar 13)) rfl scSettled.nd (pi_zipA (by rfl) mz (pa_cons (pv 10) (pa_cons (pv 5) pa_nil)))
              (blkOk_by (N := ["begun", "rooms", "kinds", "b", "sides", "columns", "heights", "many", "found", "room", "there", "stores", "height", "column"]) (sc := defScope sSettled) (by decide +kernel))
              (fun _ _ _ _ _ => by refine pg_tup rfl (pgs_cons ?_ (pgs_cons ?_ pgs_nil)); exact pg_name (i := 12) scSettled.nd rfl (.inl rfl); exact pg_name (i := 13) scSettled.nd rfl (.inl rfl))
              (fun _ _ _ _ _ => by exact pts_one (pt_cmpR op_lt (pv 12) (pe_glob (v := .int 1000000) (by rfl) gO ⟨_, rfl⟩) (nomark _)))
              (fun _ _ _ _ _ => by exact pe_op op_catN (pe_tup (pa_cons (pv 12) pa_nil)) (pv 13))) pa_nil)) pa_nil))))))
      (pss_one (ps_ret (pv 8))))))))), ?_⟩
    obtain ⟨ra, rvs, rfl, hR0, rall⟩ := lst_of hy
    obtain ⟨la, lvs, rfl, hL0, lall⟩ := lst_of hx
    have lr := mapD_len rall
    have ll := mapD_len lall
    have sides := so.sides
    obtain ⟨o1, o2, o3, u1, u2, u3, few⟩ := id sides
    obtain ⟨C, eC⟩ : ∃ C, colsL s1 s2 s3 = C := ⟨_, rfl⟩
    have lC : C.length = s1 * (s2 * s3) := by rw [← eC, colsL_len]
    have c3 : ∀ c ∈ C, c.length = 3 := fun c hc => by
      rw [← eC] at hc
      unfold colsL at hc
      simp only [List.mem_flatMap, List.mem_map] at hc
      obtain ⟨_, _, _, _, _, _, rfl⟩ := hc
      rfl
    have lRR := so.rm.few
    -- sides, columns
    refine ⟨_, rfl, _, rfl, kd, b, rfl, fun sa H1 sm1 ns hs1 => ?_⟩
    rw [← so.e1, ← so.e2, ← so.e3] at hs1
    refine ⟨_, rfl, sa, s1, s2, s3, rfl, SqL.of hs1, few, u1, u2, u3, fun ca H2 cps sm2 nc hc dcs => ?_⟩
    rw [eC] at dcs
    have lcp := sts_len dcs
    have s02 := sm1.trans sm2
    -- the heights to begin with
    refine ⟨_, rfl, la, rfl, ⟨_, s02.seq hL0⟩, fun D nD => ?_⟩
    have sD := same_upd (o := .lst []) nD
    have dC : Dp K H2 (.ref ca) (stsD C) := .lst (SqL.of hc) dcs
    refine walk_gen (walk_list (K := K) (a := la) (xs := lvs)) _ (fun i H3 => Same H2 H3 ∧ H3 D = some (.lst ((hgtsL (L.take i) C).map V.int))) ⟨sD, upd_same⟩ (fun i H3 _ ⟨s3', _⟩ => s3'.seq (s02.seq hL0)) ?_ ?_
    · rintro i v H3 H3' hi ⟨s3', hD⟩ ⟨rfl, hv⟩
      obtain ⟨S, hS, dS⟩ := mapD_get lall hv
      have mS := List.mem_of_getElem? hS
      have il := (List.getElem?_eq_some_iff.mp hS).1
      have iR : i < R.length := by rw [← ro.len]; exact il
      have cS := ro.can i S hS
      have lS := lL S mS
      have mul : (i + 1) * (s1 * (s2 * s3)) ≤ R.length * (s1 * (s2 * s3)) := Nat.mul_le_mul_right _ iR
      rw [Nat.succ_mul] at mul
      have all := so.all
      have lh : (hgtsL (L.take i) C).length = i * (s1 * (s2 * s3)) := by
        rw [← eC, hgtsL_len, List.length_take, Nat.min_eq_left (by omega)]
      refine ⟨rfl, ?_⟩
      refine ⟨_, rfl, _, rfl, v, .ref ca, S, C, rfl, dp_same (s02.trans s3') dS, dp_same s3' dC, fun s hs => ok4_len (cS.ok s hs), c3, by omega, by omega, fun G H4 s4 nG hG => ?_⟩
      have hD4 := s4 _ _ hD
      have nGD : G ≠ D := (ne_of_none hD nG).symm
      refine ⟨G, rfl, ⟨_, SqL.of hG⟩, ?_⟩
      refine walk_gen (walk_list (K := K) (a := G) (xs := (C.map (hgt S)).map V.int)) _ (fun t H5 => Same H2 H5 ∧ H5 G = some (.lst ((C.map (hgt S)).map V.int)) ∧ H5 D = some (.lst ((hgtsL (L.take i) C ++ (C.take t).map (hgt S)).map V.int))) ⟨s3'.trans s4, hG, by rw [List.take_zero, List.map_nil, List.append_nil]; exact hD4⟩ (fun t H5 _ ⟨_, h, _⟩ => SqL.of h) ?_ ?_
      · rintro t v H5 H5' ht ⟨s5, hG5, hD5⟩ ⟨rfl, hv⟩
        obtain ⟨z, hz, rfl⟩ := ints_get hv
        rw [List.getElem?_map] at hz
        obtain ⟨c, hc0, rfl⟩ := Option.map_eq_some_iff.mp hz
        have tl := (List.getElem?_eq_some_iff.mp hc0).1
        refine ⟨rfl, ?_⟩
        refine ⟨_, rfl, _, hD5, line_of (by rw [List.length_map, List.length_append, lh, List.length_map, List.length_take]; omega), fun b' o e => ?_, by rw [upd_ne nGD]; exact hG5, ?_⟩
        · rw [upd_ne (ne_of_none e nD)]
          exact s5 _ _ e
        · rw [upd_same, take_snoc hc0, List.map_append (l₁ := C.take t), ← List.append_assoc, List.map_append (l₂ := [c].map (hgt S))]
          rfl
      · rintro H5 ⟨s5, hG5, hD5⟩
        refine ⟨s5, ?_⟩
        rw [hD5, List.length_map, List.length_map, List.take_length, take_snoc hS]
        unfold hgtsL
        rw [List.flatMap_append, List.flatMap_cons, List.flatMap_nil, List.append_nil]
    rintro H3 ⟨s3', hD⟩
    rw [ll, List.take_length] at hD
    have same3 : Same H2 (rmv H3 D) := fun b' o e => by
      rw [rmv_ne (ne_of_none e nD)]
      exact s3' _ _ e
    have hob := hgts_ok so ro ib
    have lh0 : (hgtsL L C).length = R.length * (s1 * (s2 * s3)) := by rw [← eC, hgtsL_len, ro.len]
    have lb : (b : Int) < hNone := by
      have h1 := so.bs
      have h2 : hNone = 1000000 := rfl
      omega
    refine ⟨_, rfl, _, rfl, _, rfl, _, rfl, .ref ra, D, sa, (b : Int), hgtsL L C, R, s1, s2, s3, rfl, hD, dp_same (s02.trans same3) hy, (sm2.trans same3).seq (SqL.of hs1), so.rm, sides, so.ne, so.its, so.all, lh0, by omega, lb, by rw [← eC]; exact hob, fun H4 hs k4 hh4 ho sol le least => ?_⟩
    rw [← eC] at le least
    have s24 : Same H2 H4 := fun b' o e => k4 b' o (s3' _ _ e) (ne_of_none e nD)
    have up : ∀ r, r < R.length → ∀ x, Ok4 x → (UpS (colS (s1 * (s2 * s3)) (hs ++ [hNone]) (colsL s1 s2 s3) r (s1 * (s2 * s3))) x ↔ GB (b : Int) R r x) := fun r hr x hx' =>
      cols_up (kd := kd) (settled_up so.sdOk so.rm so.rk lb so.wb hob ho (hgts_start (kd := kd) ro hX) sol least hr hx') hr
    have lhs : hs.length = R.length * (s1 * (s2 * s3)) := by
      have := ho.len
      rw [List.length_append, List.length_singleton] at this
      omega
    rw [eC] at up
    have fewN := so.few
    have allN := so.all
    have rngN := ho.rng
    clear le least sol hob
    generalize hN : s1 * (s2 * s3) = N at *
    have hc4 := s24 _ _ hc
    refine ⟨_, rfl, ca, cps, rfl, .inl (SqL.of hc4), ?_⟩
    rw [show cps.length = N by rw [lcp, lC]]
    refine ⟨by show 0 ≤ sizeLine; decide, fun W nW => ?_⟩
    have sW := same_upd (o := .lst []) nW
    have s04 := s02.trans s24
    refine ⟨_, rfl, ra, rvs, rfl, .inl ((s04.trans sW).seq hR0), (rvs.length : Int), rfl, by omega, by omega, ?_⟩
    rw [show ((rvs.length : Int)).toNat = R.length by rw [Int.toNat_natCast, lr]]
    refine for_range (lo := 0) (n := R.length) (fun i σ H6 => ∃ (y9 y10 : Option V), σ = [some (.ref la), some (.ref ra), some (.int (kd : Int)), some (.int (b : Int)), some (.ref sa), some (.ref ca), some (.ref D), some (.int (N : Int)), some (.ref W), y9, y10, none, none, none] ∧ Same H4 H6 ∧
        ∃ ps Ms, H6 W = some (.lst ps) ∧ DpAll K (rmv (rmv H6 pl) W) ps (Ms.map stsD) ∧ Ms.length = i ∧ ∀ (r : Nat) l, Ms[r]? = some l → Canon l (GB (b : Int) R r))
      ⟨none, none, rfl, sW, [], [], upd_same, .nil, rfl, fun r l h => nomatch h⟩ ?_ ?_
    · rintro i σ H6 hi ⟨y9, y10, rfl, s6, ps, Ms, hW, dps, eMs, cMs⟩
      have lps := mapD_len dps
      have mul : (i + 1) * N ≤ R.length * N := Nat.mul_le_mul_right _ hi
      rw [Nat.succ_mul] at mul
      have hD6 := s6 _ _ hh4
      refine ⟨_, rfl, _, rfl, _, rfl, rI_mul ⟨by omega, by omega⟩ ⟨_, rfl, _, rfl, _, rfl, rI_mul ⟨by omega, by omega⟩ ⟨_, rfl, _, _, rfl, rfl, ⟨_, rfl, D, _, rfl, SqL.of hD6, fun T nT => ?_⟩⟩⟩⟩
      have elo : (0 + (i : Int)) * (N : Int) = ((i * N : Nat) : Int) := by rw [Int.zero_add, Int.natCast_mul]
      have ecut : cutV (hs.map V.int) (some ((0 + (i : Int)) * (N : Int))) (some ((0 + (i : Int)) * (N : Int) + (N : Int))) = ((hs.map V.int).drop (i * N)).take N := by
        rw [elo, ← Int.natCast_add]
        exact cut_mid (by rw [List.length_map]; omega)
      have sT := same_upd (o := .lst (cutV (hs.map V.int) (some ((0 + (i : Int)) * (N : Int))) (some ((0 + (i : Int)) * (N : Int) + (N : Int))))) nT
      have hT : upd H6 T (.lst (cutV (hs.map V.int) (some ((0 + (i : Int)) * (N : Int))) (some ((0 + (i : Int)) * (N : Int) + (N : Int))))) T = some (.lst (((hs.map V.int).drop (i * N)).take N)) := by rw [upd_same, ecut]
      generalize upd H6 T (.lst (cutV (hs.map V.int) (some ((0 + (i : Int)) * (N : Int))) (some ((0 + (i : Int)) * (N : Int) + (N : Int))))) = H7 at sT hT ⊢
      have hW7 := sT _ _ hW
      have s47 := s6.trans sT
      have hc7 := s47 _ _ hc4
      have ltv : (((hs.map V.int).drop (i * N)).take N).length = N := by
        rw [List.length_take, List.length_drop, List.length_map]
        omega
      refine ⟨_, rfl, .inl ⟨rfl, _, SqL.of hW7⟩, ?_⟩
      refine ⟨_, rfl, _, rfl, T, ca, _, cps, rfl, .inl ⟨SqL.of hT, SqL.of hc7, fun Dl nDl => ?_⟩⟩
      have sDl := same_upd (o := .lst []) nDl
      have nWD : W ≠ Dl := ne_of_none hW7 nDl
      refine lc_it (walk_zip (K := K) (a := T) (b := ca) (xs := ((hs.map V.int).drop (i * N)).take N) (ys := cps) (n := N) (by rw [ltv, lcp, lC, Nat.min_self])) (fun t H8 => Same H7 H8 ∧ ∃ ls, H8 Dl = some (.lst ls) ∧ DpAll K H8 ls ((colS N (hs ++ [hNone]) C i t).map wayD))
        ⟨sDl, [], upd_same, .nil⟩ (fun t H8 _ ⟨s8, _⟩ => ⟨SqL.of (s8 _ _ hT), SqL.of (s8 _ _ hc7)⟩) ?_ ?_
      · rintro t v H8 H8' ht ⟨s8, ls, hDl, dls⟩ ⟨U, v1, v2, rfl, nU, rfl, f1, f2⟩
        obtain ⟨c, hc0, dc⟩ := sts_get dcs f2
        obtain ⟨cc, rfl, hcc⟩ := way_of dc
        have hv1 : v1 = .int ((hs ++ [hNone]).getD (i * N + t) 0) := by
          have f1 : (((hs.map V.int).drop (i * N)).take N)[t]? = some v1 := f1
          rw [List.getElem?_take_of_lt ht, List.getElem?_drop, List.getElem?_map, List.getElem?_eq_getElem (by omega)] at f1
          cases f1
          rw [List.getD_eq_getElem?_getD, List.getElem?_append_left (by omega), List.getElem?_eq_getElem (by omega)]
          rfl
        subst hv1
        have cD : C.getD t [] = c := by rw [List.getD_eq_getElem?_getD, hc0, Option.getD_some]
        have c3' := c3 c (List.mem_of_getElem? hc0)
        have sU := same_upd (o := .tup [V.int ((hs ++ [hNone]).getD (i * N + t) 0), .ref cc]) nU
        have hDU := sU _ _ hDl
        have snoc := colS_snoc (N := N) (hs := hs ++ [hNone]) (C := C) (r := i) (k := t)
        have lls := sts_len dls
        have lcs := colS_len (N := N) (hs := hs ++ [hNone]) (C := C) (r := i) (k := t)
        generalize (hs ++ [hNone]).getD (i * N + t) 0 = hh at snoc sU hDU ⊢
        have e0 : wipe [some (V.ref la), some (V.ref ra), some (V.int (kd : Int)), some (V.int (b : Int)), some (V.ref sa), some (V.ref ca), some (V.ref D), some (V.int (N : Int)), some (V.ref W), some (V.int (0 + (i : Int))), some (V.ref T), none, none, none] [12, 13] = [some (V.ref la), some (V.ref ra), some (V.int (kd : Int)), some (V.int (b : Int)), some (V.ref sa), some (V.ref ca), some (V.ref D), some (V.int (N : Int)), some (V.ref W), some (V.int (0 + (i : Int))), some (V.ref T), none, none, none] := rfl
        show gTup K 2 (gCons (gName 12) (gCons (gName 13) gNil)) (.ref U) (wipe [some (V.ref la), some (V.ref ra), some (V.int (kd : Int)), some (V.int (b : Int)), some (V.ref sa), some (V.ref ca), some (V.ref D), some (V.int (N : Int)), some (V.ref W), some (V.int (0 + (i : Int))), some (V.ref T), none, none, none] [12, 13]) _ _
        rw [e0]
        refine ⟨U, _, rfl, SqT.of upd_same, rfl, _, _, rfl, _, _, rfl, rfl, ?_⟩
        simp only [List.set_cons_succ, List.set_cons_zero]
        refine ⟨rfl, ?_⟩
        refine ⟨_, rfl, _, _, rfl, rfl, _, rfl, ite2 (fun lo => ?_) fun lo => ?_⟩
        · have lo : hh < hNone := of_decide_eq_true lo
          rw [if_pos lo, cD] at snoc
          refine ⟨_, rfl, by show 1 ≤ sizeLine; decide, fun U2 nU2 => ?_⟩
          have sU2 := same_upd (o := .tup [V.int hh]) nU2
          have s4U := ((s47.trans s8).trans sU).trans sU2
          refine ⟨_, rfl, U2, cc, _, _, rfl, rfl, SqT.of upd_same, s4U.seqT (s24.seqT hcc), by rw [List.length_map, c3']; show 1 + 3 ≤ sizeLine; decide, fun z H9 s9 hz => ?_⟩
          have sU9 := sU2.trans s9
          have hD9 := sU9 _ _ hDU
          refine ⟨ls, hD9, line_of (by omega), fun b' o e => ?_, ls ++ [.ref z], upd_same, ?_⟩
          · rw [upd_ne (ne_of_none e nDl)]
            exact sU9 _ _ (sU _ _ (s8 _ _ e))
          · rw [snoc]
            exact dpAll_put hD9 (dpAll_app1 (dpAll_same (sU.trans sU9) dls) (of_way (l := hh :: c) hz)) (noLAll_map noL_way _)
        · have lo : ¬ hh < hNone := fun z => lo (decide_eq_true z)
          rw [if_neg lo, List.append_nil] at snoc
          rw [snoc]
          exact ⟨s8.trans sU, ls, hDU, dpAll_same sU dls⟩
      · rintro H8 ⟨s8, ls, hDl, dls⟩
        have lcs := colS_len (N := N) (hs := hs ++ [hNone]) (C := C) (r := i) (k := N)
        have okS : ∀ t ∈ colS N (hs ++ [hNone]) C i N, Ok4 t := fun t ht => by
          obtain ⟨u, hu, lo, rfl⟩ := mem_colS.mp ht
          obtain ⟨i', j', l', hi', hj', hl', rfl⟩ := cIx_dec (s1 := s1) (s2 := s2) (s3 := s3) (by rw [hN]; exact hu)
          have e : C.getD (cIx s2 s3 i' j' l') [] = [(i' : Int), (j' : Int), (l' : Int)] := by rw [← eC, List.getD_eq_getElem?_getD, cols_get hi' hj' hl', Option.getD_some]
          rw [e]
          refine ⟨_, _, _, _, rfl, ?_, by omega, by omega, by omega⟩
          rcases rngN (i * N + cIx s2 s3 i' j' l') (by omega) with ⟨z, _⟩ | z
          · exact z
          · omega
        refine ⟨.ref Dl, colS N (hs ++ [hNone]) C i N, rfl, .lst (SqL.of hDl) dls, okS, by omega, fun q7 H9 qs M s9 nq hq dq can lenM => ?_⟩
        have hW9 := s9 _ _ (s8 _ _ hW7)
        have s49 := (s47.trans s8).trans s9
        have s69 := (sT.trans s8).trans s9
        have nqW : q7 ≠ W := (ne_of_none (s8 _ _ hW7) nq).symm
        refine ⟨W, ps, _, rfl, rfl, hW9, line_of (by omega), ?_⟩
        refine ⟨_, _, rfl, fun b' o e => ?_, ps ++ [.ref q7], Ms ++ [M], upd_same, ?_, by rw [List.length_append, eMs]; rfl, fun r l hl => ?_⟩
        · rw [upd_ne (ne_of_none e nW)]
          exact s49 _ _ e
        · have hpl9 := (s04.trans s49) _ _ hpl
          have nql : q7 ≠ pl := (ne_of_none ((s04.trans (s47.trans s8)) _ _ hpl) nq).symm
          have nWl : W ≠ pl := (ne_of_none (s04 _ _ hpl) nW).symm
          have fr : Same (rmv (rmv H6 pl) W) (rmv (rmv (upd H9 W (.lst (ps ++ [.ref q7]))) pl) W) := rmv_rmv fun b' o n e => by
            obtain ⟨n2, e⟩ := rmv_some e
            rw [rmv_ne n2, upd_ne n]
            exact s69 _ _ e
          refine dpAll_app1 (dpAll_same fr dps) (.lst (SqL.of (xs := qs) ?_) ?_)
          · rw [rmv_ne nqW, rmv_ne nql, upd_ne nqW]
            exact hq
          · have d1 := dpAll_kp (kp_upd W H9 (.lst (ps ++ [.ref q7]))) hW9 dq (noLAll_map noL_way _)
            have d2 := dpAll_kp (rmv_kp (upd H9 W (.lst (ps ++ [.ref q7]))) pl) (by rw [upd_ne nWl.symm]; exact hpl9) d1 (noLAll_map noL_way _)
            exact dpAll_kp (rmv_kp _ W) (by rw [rmv_ne nWl]; exact upd_same) d2 (noLAll_map noL_way _)
        · by_cases z : r < Ms.length
          · rw [List.getElem?_append_left z] at hl
            exact cMs r l hl
          · rw [List.getElem?_append_right (by omega)] at hl
            have z0 : r - Ms.length = 0 := by
              have := (List.getElem?_eq_some_iff.mp hl).1
              rw [List.length_singleton] at this
              omega
            rw [z0] at hl
            cases hl
            rw [show r = i by omega]
            exact can.congr fun x hx' => up i hi x hx'
    · rintro σ H6 ⟨y9, y10, rfl, s6, ps, Ms, hW, dps, eMs, cMs⟩
      have sH := s04.trans s6
      have nWl : W ≠ pl := (ne_of_none (s04 _ _ hpl) nW).symm
      refine ⟨_, rfl, q W H6 Ms sH (s04.free nW) (.lst (SqL.of (by rw [rmv_ne nWl]; exact hW)) (dpAll_same (rmv_same fun b' o _ e => e) dps)) ⟨eMs, cMs⟩⟩
end
/-! ### a box, from one number of asks to the next (plain Lean) -/
theorem canon_cols {b : Int} {kd s1 s2 s3 : Nat} (o : SdOk b kd s1 s2 s3) {M : List (List Int)} {U : List Int → Prop} (c : Canon M U) (hp : ∀ x, Ok4 x → U x → U (prj kd x)) (hc : ∀ x, Ok4 x → U x → U (clip4 [b, b, b, b] x)) : M.length ≤ s1 * (s2 * s3) ∧ ∀ x ∈ M, InB (some b) x := by
  have b0 := o.b0
  have box := canon_box c b0 b0 b0 b0 hc
  have prj1 := canon_prj c o.k1 o.k4 hp
  have tr : ∀ x ∈ M, trim b s1 s2 s3 x = x := fun x hx => by
    rw [trim_is o (c.ok x hx)]
    have e : clip4 [b, b, b, b] x = x := by
      obtain ⟨p, q, r, s, rfl, h1, h2, h3, h4⟩ := box x hx
      show [min b p, min b q, min b r, min b s] = _
      rw [show min b p = p by omega, show min b q = q by omega, show min b r = r by omega, show min b s = s by omega]
    rw [e]
    exact prj1 x hx
  have nd : (M.map fun x => x.drop 1).Nodup := by
    have p : M.Pairwise fun x y => x.drop 1 ≠ y.drop 1 := by
      refine List.Pairwise.imp_of_mem (R := fun x y => HT.lexLt x y = true) (fun {x y} hx hy l e => ?_) c.srt
      obtain ⟨p, q, r, s, rfl, _⟩ := c.ok x hx
      obtain ⟨p', q', r', s', rfl, _⟩ := c.ok y hy
      have e : [q, r, s] = [q', r', s'] := e
      obtain ⟨e1, ee⟩ := List.cons.inj e
      obtain ⟨e2, ee⟩ := List.cons.inj ee
      obtain ⟨e3, _⟩ := List.cons.inj ee
      subst e1 e2 e3
      have same : [p, q, r, s] = [p', q, r, s] := by
        by_cases z : p ≤ p'
        · exact c.anti _ hx _ hy (le4_iff.mpr ⟨z, Int.le_refl _, Int.le_refl _, Int.le_refl _⟩)
        · exact (c.anti _ hy _ hx (le4_iff.mpr ⟨by omega, Int.le_refl _, Int.le_refl _, Int.le_refl _⟩)).symm
      rw [same, lex_irr] at l
      cases l
    exact List.Pairwise.map _ (fun _ _ h => h) p
  refine ⟨?_, fun x hx r e => ?_⟩
  · have sub := sub_len (m := colsL s1 s2 s3) nd fun k hk => by
      obtain ⟨x, hx, rfl⟩ := List.mem_map.mp hk
      have t := tr x hx
      obtain ⟨p, q, r, s, rfl, h1, h2, h3, h4⟩ := c.ok x hx
      have t : [min b p, min ((s1 : Int) - 1) q, min ((s2 : Int) - 1) r, min ((s3 : Int) - 1) s] = [p, q, r, s] := t
      obtain ⟨_, t⟩ := List.cons.inj t
      obtain ⟨t1, t⟩ := List.cons.inj t
      obtain ⟨t2, t⟩ := List.cons.inj t
      obtain ⟨t3, _⟩ := List.cons.inj t
      show [q, r, s] ∈ _
      unfold colsL
      refine List.mem_flatMap.mpr ⟨q.toNat, List.mem_range.mpr (by omega), List.mem_flatMap.mpr ⟨r.toNat, List.mem_range.mpr (by omega), List.mem_map.mpr ⟨s.toNat, List.mem_range.mpr (by omega), ?_⟩⟩⟩
      rw [Int.toNat_of_nonneg h2, Int.toNat_of_nonneg h3, Int.toNat_of_nonneg h4]
    rw [List.length_map, colsL_len] at sub
    exact sub
  · cases e
    obtain ⟨p, q, r, s, rfl, h1, h2, h3, h4⟩ := box x hx
    exact le4_iff.mpr ⟨by omega, by omega, by omega, by omega⟩
/-- what a box tells on its way: it holds all that lasts within -/
structure BxX (b : Int) (kd : Nat) (R : Rooms) (X : Nat → List Int → Prop) : Prop where
  prj : ∀ r x, Ok4 x → X r x → X r (prj kd x)
  clip : ∀ r x, Ok4 x → X r x → X r (clip4 [b, b, b, b] x)
  gb : ∀ r x, r < R.length → Ok4 x → GB b R r x → X r x
theorem ndb_clip {b : Int} {B : Nat → List Int → Prop} {a : PAsk} {x : List Int} (h : NdB (some b) B a x) : NdB (some b) B a (clip4 [b, b, b, b] x) :=
  let ⟨z, oz, lz, iz, q⟩ := h
  ⟨z, oz, le4_in lz iz, iz, q⟩
theorem ndb_prj {b : Option Int} {kd : Nat} (k1 : 1 ≤ kd) (k4 : kd ≤ 4) {B : Nat → List Int → Prop} {a : PAsk} {x : List Int} (hw : ∀ p ∈ a, ∃ w : List Int, w.length = kd ∧ p.1 = four w) (hB : ∀ r x, Ok4 x → B r x → B r (prj kd x)) (h : NdB b B a x) : NdB b B a (prj kd x) := by
  obtain ⟨z, oz, lz, iz, p, mp, o1, q⟩ := h
  obtain ⟨w, lw, ew⟩ := hw p mp
  obtain ⟨op, lp⟩ := prj_ok oz k1 k4
  refine ⟨My.prj kd z, op, prj_le k1 k4 lz, iz.down lp, p, mp, ?_⟩
  rw [ew] at o1 q ⊢
  rw [prj_add (ok4_len oz) lw k1 k4]
  exact ⟨(prj_ok o1 k1 k4).1, hB _ _ o1 q⟩
section
variable {b : Int} {kd s1 s2 s3 : Nat} {R : Rooms} {X : Nat → List Int → Prop}
theorem rkd_at (rk : RKd kd R) {r : Nat} {a : PAsk} (ha : a ∈ roomAt R r) : ∀ p ∈ a, ∃ w : List Int, w.length = kd ∧ p.1 = four w := by
  obtain ⟨l, ml, ma⟩ := roomAt_mem ha
  exact rk l ml a ma
theorem BxX.next (x : BxX b kd R X) (o : SdOk b kd s1 s2 s3) (okR : RmOk R) (rk : RKd kd R) : BxX b kd R (PBn (some b) R X) := by
  refine ⟨fun r y hy h => ⟨x.prj r y hy h.1, fun a ha => ndb_prj o.k1 o.k4 (rkd_at rk ha) x.prj (h.2 a ha)⟩, fun r y hy h => ⟨x.clip r y hy h.1, fun a ha => ndb_clip (h.2 a ha)⟩, fun r y hr hy g => ⟨x.gb r y hr hy g, fun a ha => ?_⟩⟩
  obtain ⟨p, mp, o1, g1⟩ := gb_step o.b0 hy g ha
  obtain ⟨l, ml, ma⟩ := roomAt_mem ha
  have oc := clip_ok (t1 := b) (t2 := b) (t3 := b) (t4 := b) hy o.b0 o.b0 o.b0 o.b0
  refine ⟨_, oc.1, oc.2, fun r' e => ?_, p, mp, o1, x.gb _ _ (okR.pair l ml a ma p mp).2 o1 g1⟩
  cases e
  obtain ⟨c, d, e, f, rfl, _⟩ := hy
  show le4 [min b c, min b d, min b e, min b f] _ = true
  exact le4_iff.mpr ⟨by omega, by omega, by omega, by omega⟩
theorem BxX.few (x : BxX b kd R X) (o : SdOk b kd s1 s2 s3) (rk : RKd kd R) (f5 : s1 * (s2 * s3) * 5 < 4096) (sq : s1 * (s2 * s3) * (s1 * (s2 * s3) + 1) < 4096) : FewB (some b) R X (s1 * (s2 * s3)) := by
  refine fewB_of f5 (fun r _ as sub M c => ?_) sq (by omega) (fun r _ a ha M c => ?_)
  · exact (canon_cols o c (fun y hy h => ⟨x.prj r y hy h.1, fun a ha => ndb_prj o.k1 o.k4 (rkd_at rk (sub a ha)) x.prj (h.2 a ha)⟩) fun y hy h => ⟨x.clip r y hy h.1, fun a ha => ndb_clip (h.2 a ha)⟩).1
  · exact (canon_cols o c (fun y hy h => ndb_prj o.k1 o.k4 (rkd_at rk ha) x.prj h) fun y hy h => ndb_clip h).1
/-- two lists alike: nothing changes any more -/
theorem BxX.settled {L : List (List (List Int))} (x : BxX b kd R X) (okR : RmOk R) (o1 : RowOk R.length X L) (o2 : RowOk R.length (PBn (some b) R X) L) : RowOk R.length (GB b R) L := by
  have e : ∀ r y, r < R.length → Ok4 y → X r y → PBn (some b) R X r y := fun r y hr hy h => by
    obtain ⟨l, hl, cl⟩ := o1.at hr
    exact ((o2.can r l hl).up y hy).mp ((cl.up y hy).mpr h)
  have all : ∀ n r y, r < R.length → Ok4 y → X r y → PB (some b) R n r y := fun n => by
    induction n with
    | zero => exact fun _ _ _ _ _ => True.intro
    | succ n ih => exact fun r y hr hy h => ⟨ih r y hr hy h, fun a ha => ((e r y hr hy h).2 a ha).imp fun p mp z oz hz => by
        obtain ⟨l, ml, ma⟩ := roomAt_mem ha
        exact ih _ _ (okR.pair l ml a ma p mp).2 oz hz⟩
  exact o1.congr fun r hr y hy => ⟨fun h n => all n r y hr hy h, x.gb r y hr hy⟩
/-- the stores of X that cover one in the box -/
def XB (b : Int) (X : Nat → List Int → Prop) (r : Nat) (x : List Int) : Prop := ∃ z, Ok4 z ∧ le4 z x = true ∧ InB (some b) z ∧ X r z
theorem xb_canon {r : Nat} {M : List (List Int)} (c : Canon M (X r)) : Canon (M.filter (inB (some b))) (XB b X r) := by
  refine ⟨fun x hx => c.ok x (List.mem_filter.mp hx).1, c.srt.sublist List.filter_sublist, fun x hx y hy => c.anti x (List.mem_filter.mp hx).1 y (List.mem_filter.mp hy).1, fun x hx => ?_⟩
  constructor
  · rintro ⟨y, hy, l⟩
    obtain ⟨my, iy⟩ := List.mem_filter.mp hy
    have oy := c.ok y my
    exact ⟨y, oy, l, inB_iff.mp iy, (c.up y oy).mp ⟨y, my, le4_refl oy⟩⟩
  · rintro ⟨z, oz, lz, iz, h⟩
    obtain ⟨y, my, l⟩ := (c.up z oz).mpr h
    exact ⟨y, List.mem_filter.mpr ⟨my, inB_iff.mpr (iz.down l)⟩, le4_trans l lz⟩
theorem xb_box (b0 : 0 ≤ b) (k1 : 1 ≤ kd) (k4 : kd ≤ 4) (hp : ∀ r x, Ok4 x → X r x → X r (prj kd x)) (hg : ∀ r x, r < R.length → Ok4 x → GB b R r x → X r x) : BxX b kd R (XB b X) := by
  refine ⟨fun r x hx => ?_, fun r x hx => ?_, fun r x hr hx g => ?_⟩
  · rintro ⟨z, oz, lz, iz, h⟩
    obtain ⟨op, lp⟩ := prj_ok oz k1 k4
    exact ⟨_, op, prj_le k1 k4 lz, iz.down lp, hp r z oz h⟩
  · rintro ⟨z, oz, lz, iz, h⟩
    exact ⟨z, oz, le4_in lz iz, iz, h⟩
  · have oc := clip_ok (t1 := b) (t2 := b) (t3 := b) (t4 := b) hx b0 b0 b0 b0
    refine ⟨_, oc.1, oc.2, fun r' e => ?_, hg r _ hr oc.1 fun n => pb_clip n (g n)⟩
    cases e
    obtain ⟨c, d, e, f, rfl, _⟩ := hx
    show le4 [min b c, min b d, min b e, min b f] _ = true
    exact le4_iff.mpr ⟨by omega, by omega, by omega, by omega⟩
/-- what lasts within a box lasts each number of asks, and within each greater box -/
theorem pb_wider {b' : Option Int} (h : ∀ z, InB (some b) z → InB b' z) : ∀ (n r : Nat) (x : List Int), PB (some b) R n r x → PB b' R n r x
  | 0, _, _, _ => True.intro
  | n + 1, r, x, g => ⟨pb_wider h n r x g.1, fun a ha => by
    obtain ⟨z, oz, lz, iz, p, mp, o1, q⟩ := g.2 a ha
    exact ⟨z, oz, lz, h z iz, p, mp, o1, pb_wider h n _ _ q⟩⟩
theorem inB_none (z : List Int) : InB none z := fun r e => nomatch e
theorem inB_wider {b c : Int} (h : b ≤ c) {z : List Int} (hz : InB (some b) z) : InB (some c) z := fun r e => by
  cases e
  obtain ⟨x1, x2, x3, x4, y1, y2, y3, y4, rfl, e, h1, h2, h3, h4⟩ := le4_len (hz b rfl)
  injection e with e1 e
  injection e with e2 e
  injection e with e3 e
  injection e with e4 _
  exact le4_iff.mpr ⟨by omega, by omega, by omega, by omega⟩
end
/-! ### a box of a chart: the object -/
def sBox : Stmt := topS 27
def sBxInit : Stmt := inClass sBox 0
def sBxGo : Stmt := inClass sBox 1
structure BxTxt (K : PySem.W.Frag) (C : Addr) : Prop where
  cl : L2.Cls K C
  nF : NoAttr K C "found"
  nS : NoAttr K C "settled"
  nR : NoAttr K C "_rooms"
  nK : NoAttr K C "_kinds"
  nB : NoAttr K C "_b"
  nL : NoAttr K C "_left"
def bf (fv : V) (st : Bool) (rv : V) (kd b : Nat) (left : Int) : List (Str × V) :=
  putF "_left" (.int left) (putF "_b" (.int (b : Int)) (putF "_kinds" (.int (kd : Int)) (putF "_rooms" rv (putF "settled" (.bl st) (putF "found" fv [])))))
theorem ne_str : (("found" : Str) = "settled") = False ∧ (("found" : Str) = "_rooms") = False ∧ (("found" : Str) = "_kinds") = False ∧ (("found" : Str) = "_b") = False ∧ (("found" : Str) = "_left") = False ∧
    (("settled" : Str) = "_rooms") = False ∧ (("settled" : Str) = "_kinds") = False ∧ (("settled" : Str) = "_b") = False ∧ (("settled" : Str) = "_left") = False ∧ (("_rooms" : Str) = "_kinds") = False ∧ (("_rooms" : Str) = "_b") = False ∧ (("_rooms" : Str) = "_left") = False ∧
    (("_kinds" : Str) = "_b") = False ∧ (("_kinds" : Str) = "_left") = False ∧ (("_b" : Str) = "_left") = False := by
  refine ⟨?_, ?_, ?_, ?_, ?_, ?_, ?_, ?_, ?_, ?_, ?_, ?_, ?_, ?_, ?_⟩ <;> exact eq_false (by decide +kernel)
theorem bf_is (fv : V) (st : Bool) (rv : V) (kd b : Nat) (left : Int) : bf fv st rv kd b left = [(("found" : Str), fv), (("settled" : Str), .bl st), (("_rooms" : Str), rv), (("_kinds" : Str), .int (kd : Int)), (("_b" : Str), .int (b : Int)), (("_left" : Str), .int left)] := by
  obtain ⟨h1, h2, h3, h4, h5, h6, h7, h8, h9, h10, h11, h12, h13, h14, h15⟩ := ne_str
  unfold bf
  simp only [putF, h1, h2, h3, h4, h5, h6, h7, h8, h9, h10, h11, h12, h13, h14, h15, if_false]
theorem bf_found (fv v : V) (st : Bool) (rv : V) (kd b : Nat) (left : Int) : putF "found" v (bf fv st rv kd b left) = bf v st rv kd b left := by
  rw [bf_is, bf_is]
  simp only [putF, if_true]
theorem bf_settled (fv : V) (st t : Bool) (rv : V) (kd b : Nat) (left : Int) : putF "settled" (.bl t) (bf fv st rv kd b left) = bf fv t rv kd b left := by
  obtain ⟨h1, _⟩ := ne_str
  rw [bf_is, bf_is]
  simp only [putF, if_true, h1, if_false]
theorem bf_left (fv : V) (st : Bool) (rv : V) (kd b : Nat) (left l : Int) : putF "_left" (.int l) (bf fv st rv kd b left) = bf fv st rv kd b l := by
  obtain ⟨h1, h2, h3, h4, h5, h6, h7, h8, h9, h10, h11, h12, h13, h14, h15⟩ := ne_str
  rw [bf_is, bf_is]
  simp only [putF, if_true, h5, h9, h12, h14, h15, if_false]
theorem bf_get (fv : V) (st : Bool) (rv : V) (kd b : Nat) (left : Int) (f : Str) : (bf fv st rv kd b left).lookup f = if f = "_left" then some (.int left) else if f = "_b" then some (.int (b : Int)) else if f = "_kinds" then some (.int (kd : Int)) else if f = "_rooms" then some rv else if f = "settled" then some (.bl st) else if f = "found" then some fv else none := by
  unfold bf
  rw [lookup_putF, lookup_putF, lookup_putF, lookup_putF, lookup_putF, lookup_putF]
  rfl
theorem bg_left (fv : V) (st : Bool) (rv : V) (kd b : Nat) (left : Int) : (bf fv st rv kd b left).lookup ("_left" : Str) = some (.int left) := by rw [bf_get, if_pos rfl]
theorem bg_b (fv : V) (st : Bool) (rv : V) (kd b : Nat) (left : Int) : (bf fv st rv kd b left).lookup ("_b" : Str) = some (.int (b : Int)) := by
  rw [bf_get, if_neg (by decide +kernel), if_pos rfl]
theorem bg_kinds (fv : V) (st : Bool) (rv : V) (kd b : Nat) (left : Int) : (bf fv st rv kd b left).lookup ("_kinds" : Str) = some (.int (kd : Int)) := by
  rw [bf_get, if_neg (by decide +kernel), if_neg (by decide +kernel), if_pos rfl]
theorem bg_rooms (fv : V) (st : Bool) (rv : V) (kd b : Nat) (left : Int) : (bf fv st rv kd b left).lookup ("_rooms" : Str) = some rv := by
  rw [bf_get, if_neg (by decide +kernel), if_neg (by decide +kernel), if_neg (by decide +kernel), if_pos rfl]
theorem bg_settled (fv : V) (st : Bool) (rv : V) (kd b : Nat) (left : Int) : (bf fv st rv kd b left).lookup ("settled" : Str) = some (.bl st) := by
  rw [bf_get, if_neg (by decide +kernel), if_neg (by decide +kernel), if_neg (by decide +kernel), if_neg (by decide +kernel), if_pos rfl]
theorem bg_found (fv : V) (st : Bool) (rv : V) (kd b : Nat) (left : Int) : (bf fv st rv kd b left).lookup ("found" : Str) = some fv := by
  rw [bf_get, if_neg (by decide +kernel), if_neg (by decide +kernel), if_neg (by decide +kernel), if_neg (by decide +kernel), if_neg (by decide +kernel), if_pos rfl]
theorem bf_len (fv : V) (st : Bool) (rv : V) (kd b : Nat) (left : Int) : (bf fv st rv kd b left).length < 1000 := by
  rw [bf_is]
  show 6 < 1000
  decide
theorem putF_le (f : Str) (v : V) : ∀ fs : List (Str × V), (putF f v fs).length ≤ fs.length + 1
  | [] => Nat.le_refl _
  | (g, x) :: r => by
    unfold putF
    split
    · exact Nat.le_succ _
    · exact Nat.succ_le_succ (putF_le f v r)
theorem put_few {f : Str} {v : V} {fs : List (Str × V)} {n m : Nat} (h : fs.length ≤ n) (e : n + 1 ≤ m) : (putF f v fs).length ≤ m := Nat.le_trans (putF_le f v fs) (by omega)
structure BoxIn (K : PySem.W.Frag) (C : Addr) (H : Hp) (p dx ll : Addr) (us : List V) (fv : V) (st : Bool) (rv : V) (kd b s1 s2 s3 : Nat) (R : Rooms) (L : List (List (List Int))) (X : Nat → List Int → Prop) (left : Int) : Prop where
  hp : H p = some (.ins C dx (bf fv st rv kd b left))
  hl : H ll = some (.lst us)
  df : Dp K (rmv H ll) fv (lvD L)
  dr : Dp K (rmv H ll) rv (roomsD R)
  so : StOk kd b s1 s2 s3 R
  f5 : s1 * (s2 * s3) * 5 < 4096
  sq : s1 * (s2 * s3) * (s1 * (s2 * s3) + 1) < 4096
  ro : RowOk R.length X L
  bx : BxX (b : Int) kd R X
  st : st = true → RowOk R.length (GB (b : Int) R) L
def spBxInit (K : PySem.W.Frag) (C : Addr) : Sp := fun vs H Q _ => ∃ (p dx : Addr) (fv rv : V) (kd b s1 s2 s3 : Nat) (R : Rooms), vs = [.ref p, fv, rv, .int (kd : Int), .int (b : Int)] ∧ H p = some (.ins C dx []) ∧ Dp K H rv (roomsD R) ∧ StOk kd b s1 s2 s3 R ∧
  ∀ H', Kp p H H' → H' p = some (.ins C dx (bf fv false rv kd b ((s1 * (s2 * s3) * R.length : Nat) : Int))) → Q .non H'
section
variable {P : Program} {w : World} {K : PySem.W.Frag} {mg : Str → Option Value} {base : Heap}
theorem scBxInit : FnScope ["self", "begun", "rooms", "kinds", "b"] ["self", "begun", "rooms", "kinds", "b"] (defScope sBxInit) := ⟨rfl, rfl, rfl, by decide +kernel, rfl, by decide +kernel, by decide +kernel⟩
theorem ok_bxInit {f fS fC C : Addr} {fd fdS fdC : FuncData} {k : Nat} (F : Fun K "__init__" "Box.__init__" sBxInit f fd) (T : BxTxt K C)
    (GS : FnOk P w K mg base CX0 (k + 1) fS fdS ["kinds", "b"] (spSides K)) (kS : PySem.W.keepIn K (.ref fS) = true) (bS : Binds K fdS ["kinds", "b"] []) (gS : mg "sides_of" = some (.ref fS))
    (GC : FnOk P w K mg base CX0 (k + 1) fC fdC ["sides"] (spColumns K)) (kC : PySem.W.keepIn K (.ref fC) = true) (bC : Binds K fdC ["sides"] []) (gC : mg "columns_of" = some (.ref fC)) (ml : mg "len" = none) :
    FnOk P w K mg base CX0 (k + 2) f fd ["self", "begun", "rooms", "kinds", "b"] (spBxInit K C) := by
  refine F.ok scBxInit (fun vs H Q E h => ?_) (fun cdv A outer s0 H vs Q E hr h => ?_)
  · obtain ⟨p, dx, fv, rv, kd, b, s1, s2, s3, R, rfl, _⟩ := h
    rfl
  · obtain ⟨p, dx, fv, rv, kd, b, s1, s2, s3, R, rfl, hp, dr, so, q⟩ := h
    refine ⟨_, pss_cons (ps_fld (pv 0) (pv 1) rfl) (pss_cons (ps_fld (pv 0) pe_bl rfl) (pss_cons (ps_fld (pv 0) (pv 2) rfl) (pss_cons (ps_fld (pv 0) (pv 3) rfl) (pss_cons (ps_fld (pv 0) (pv 4) rfl)
      (pss_one (ps_fld (pv 0) (pe_op op_mul (pe_callB call_len_seq (by rfl) ml PySem.boot_len (pa_cons (pe_call GC hr (by rfl) gC kC bC .nil pass0 (pa_cons (pe_call GS hr (by rfl) gS kS bS .nil pass0 (pa_cons (pv 3) (pa_cons (pv 4) pa_nil))) pa_nil)) pa_nil)) (pe_callB call_len_seq (by rfl) ml PySem.boot_len (pa_cons (pv 2) pa_nil))) rfl)))))), ?_⟩
    obtain ⟨ra, rvs, rfl, hR, rall⟩ := lst_of dr
    have lr := mapD_len rall
    have few := so.few
    have lR := so.rm.few
    obtain ⟨o1, o2, o3, u1, u2, u3, few5⟩ := so.sides
    have l1 : (putF "found" fv []).length ≤ 1 := put_few (n := 0) (Nat.le_refl _) (Nat.le_refl _)
    have l2 : (putF "settled" (.bl false) (putF "found" fv [])).length ≤ 2 := put_few l1 (Nat.le_refl _)
    have l3 : (putF "_rooms" (.ref ra) (putF "settled" (.bl false) (putF "found" fv []))).length ≤ 3 := put_few l2 (Nat.le_refl _)
    have l4 : (putF "_kinds" (.int (kd : Int)) (putF "_rooms" (.ref ra) (putF "settled" (.bl false) (putF "found" fv [])))).length ≤ 4 := put_few l3 (Nat.le_refl _)
    have l5 : (putF "_b" (.int (b : Int)) (putF "_kinds" (.int (kd : Int)) (putF "_rooms" (.ref ra) (putF "settled" (.bl false) (putF "found" fv []))))).length ≤ 5 := put_few l4 (Nat.le_refl _)
    refine ⟨_, rfl, _, rfl, p, C, dx, _, rfl, hp, T.cl, T.nF, by show 0 < 1000; decide, ?_⟩
    have k1 := kp_upd p H (.ins C dx (putF "found" fv []))
    have h1 : upd H p (.ins C dx (putF "found" fv [])) p = some (.ins C dx (putF "found" fv [])) := upd_same
    generalize upd H p (.ins C dx (putF "found" fv [])) = H1 at k1 h1 ⊢
    refine ⟨_, rfl, p, C, dx, _, rfl, h1, T.cl, T.nS, by omega, ?_⟩
    have k2 := k1.trans (kp_upd p H1 (.ins C dx (putF "settled" (.bl false) (putF "found" fv []))))
    have h2 : upd H1 p (.ins C dx (putF "settled" (.bl false) (putF "found" fv []))) p = some (.ins C dx (putF "settled" (.bl false) (putF "found" fv []))) := upd_same
    generalize upd H1 p (.ins C dx (putF "settled" (.bl false) (putF "found" fv []))) = H2 at k2 h2 ⊢
    refine ⟨_, rfl, _, rfl, p, C, dx, _, rfl, h2, T.cl, T.nR, by omega, ?_⟩
    have k3 := k2.trans (kp_upd p H2 (.ins C dx (putF "_rooms" (.ref ra) (putF "settled" (.bl false) (putF "found" fv [])))))
    have h3 : upd H2 p (.ins C dx (putF "_rooms" (.ref ra) (putF "settled" (.bl false) (putF "found" fv [])))) p = some (.ins C dx (putF "_rooms" (.ref ra) (putF "settled" (.bl false) (putF "found" fv [])))) := upd_same
    generalize upd H2 p (.ins C dx (putF "_rooms" (.ref ra) (putF "settled" (.bl false) (putF "found" fv [])))) = H3 at k3 h3 ⊢
    refine ⟨_, rfl, _, rfl, p, C, dx, _, rfl, h3, T.cl, T.nK, by omega, ?_⟩
    have k4 := k3.trans (kp_upd p H3 (.ins C dx (putF "_kinds" (.int (kd : Int)) (putF "_rooms" (.ref ra) (putF "settled" (.bl false) (putF "found" fv []))))))
    have h4 : upd H3 p (.ins C dx (putF "_kinds" (.int (kd : Int)) (putF "_rooms" (.ref ra) (putF "settled" (.bl false) (putF "found" fv []))))) p = some (.ins C dx (putF "_kinds" (.int (kd : Int)) (putF "_rooms" (.ref ra) (putF "settled" (.bl false) (putF "found" fv []))))) := upd_same
    generalize upd H3 p (.ins C dx (putF "_kinds" (.int (kd : Int)) (putF "_rooms" (.ref ra) (putF "settled" (.bl false) (putF "found" fv []))))) = H4 at k4 h4 ⊢
    refine ⟨_, rfl, _, rfl, p, C, dx, _, rfl, h4, T.cl, T.nB, by omega, ?_⟩
    have k5 := k4.trans (kp_upd p H4 (.ins C dx (putF "_b" (.int (b : Int)) (putF "_kinds" (.int (kd : Int)) (putF "_rooms" (.ref ra) (putF "settled" (.bl false) (putF "found" fv [])))))))
    have h5 : upd H4 p (.ins C dx (putF "_b" (.int (b : Int)) (putF "_kinds" (.int (kd : Int)) (putF "_rooms" (.ref ra) (putF "settled" (.bl false) (putF "found" fv [])))))) p = some (.ins C dx (putF "_b" (.int (b : Int)) (putF "_kinds" (.int (kd : Int)) (putF "_rooms" (.ref ra) (putF "settled" (.bl false) (putF "found" fv [])))))) := upd_same
    generalize upd H4 p (.ins C dx (putF "_b" (.int (b : Int)) (putF "_kinds" (.int (kd : Int)) (putF "_rooms" (.ref ra) (putF "settled" (.bl false) (putF "found" fv [])))))) = H5 at k5 h5 ⊢
    have hR5 := k5.seqI hp hR
    refine ⟨_, rfl, _, rfl, kd, b, rfl, fun sa H6 sm1 ns hs => ?_⟩
    rw [← so.e1, ← so.e2, ← so.e3] at hs
    refine ⟨sa, s1, s2, s3, rfl, SqL.of hs, few5, u1, u2, u3, fun ca H7 cps sm2 nc hc dcs => ?_⟩
    have lc := sts_len dcs
    rw [colsL_len] at lc
    have sm := sm1.trans sm2
    refine ⟨ca, cps, rfl, .inl (SqL.of hc), _, rfl, ra, rvs, rfl, .inl (sm.seq hR5), rI_mul ⟨by omega, by omega⟩ ⟨_, rfl, p, C, dx, _, rfl, sm _ _ h5, T.cl, T.nL, by omega, ?_⟩⟩
    refine q _ (fun b' o e n => ?_) ?_
    · rw [upd_ne n]
      exact sm _ _ (k5 _ _ e n)
    · rw [upd_same, lc, lr, ← Int.natCast_mul]
      rfl
end
/-! ### a box goes on -/
def spBxGo (K : PySem.W.Frag) (C : Addr) : Sp := fun vs H Q _ => ∃ (p dx ll : Addr) (us : List V) (fv rv : V) (kd b s1 s2 s3 : Nat) (R : Rooms) (L : List (List (List Int))) (X : Nat → List Int → Prop) (left : Int), vs = [.ref p] ∧ BoxIn K C H p dx ll us fv false rv kd b s1 s2 s3 R L X left ∧
  ∀ (H' : Hp) (fv' : V) (st' : Bool) (L' : List (List (List Int))) (X' : Nat → List Int → Prop) (left' : Int), Kp p H H' → BoxIn K C H' p dx ll us fv' st' rv kd b s1 s2 s3 R L' X' left' →
    (st' = false → 0 < left ∧ ((left' < left) ∨ (left' = left ∧ L' ≠ L ∧ ∀ l ∈ L', l = []))) → Q .non H'
abbrev rLenS (K : PySem.W.Frag) : List V → Hp → VK → Prop := fun xs H Q => ∃ p ys, xs = [.ref p] ∧ (SqL K H p ys ∨ SqT K H p ys) ∧ Q (.int ys.length) H
abbrev rMaxI : List V → Hp → VK → Prop := fun xs H Q => ∃ i j, xs = [.int i, .int j] ∧ Q (.int (if j > i then j else i)) H
theorem BoxIn.np {K : PySem.W.Frag} {C : Addr} {H : Hp} {p dx ll : Addr} {us : List V} {fv rv : V} {st : Bool} {kd b s1 s2 s3 : Nat} {R : Rooms} {L : List (List (List Int))} {X : Nat → List Int → Prop} {left : Int} (c : BoxIn K C H p dx ll us fv st rv kd b s1 s2 s3 R L X left) : p ≠ ll := by
  intro e
  have := c.hp
  rw [e, c.hl] at this
  cases this
/-- a field is set: data that stands elsewhere stays -/
theorem dp_set {K : PySem.W.Frag} {H : Hp} {p ll C dx : Addr} {fs gs : List (Str × V)} {v : V} {d : PyData} (hp : H p = some (.ins C dx fs)) (n : p ≠ ll) (h : Dp K (rmv H ll) v d) : Dp K (rmv (upd H p (.ins C dx gs)) ll) v d := by
  refine dp_ki (p := p) (C := C) (dx := dx) (fs := fs) (fun b o e nb => ?_) (by rw [rmv_ne n]; exact hp) h
  obtain ⟨n2, e⟩ := rmv_some e
  rw [rmv_ne n2, upd_ne nb]
  exact e
def wOf (l : List (List Int)) : Int := (l.length : Int) * (if (l.length : Int) / 60 > 1 then (l.length : Int) / 60 else 1)
theorem wOf_pos (l : List (List Int)) : 0 ≤ wOf l ∧ (wOf l = 0 → l = []) := by
  unfold wOf
  have m : 1 ≤ (if (l.length : Int) / 60 > 1 then (l.length : Int) / 60 else 1) := by
    split <;> omega
  generalize (if (l.length : Int) / 60 > 1 then (l.length : Int) / 60 else 1) = k at m
  refine ⟨Int.mul_nonneg (by omega) (by omega), fun e => ?_⟩
  rcases Int.mul_eq_zero.mp e with e | e
  · exact List.eq_nil_of_length_eq_zero (by omega)
  · omega
theorem wOf_sum : ∀ L : List (List (List Int)), 0 ≤ (L.map wOf).sum ∧ ((L.map wOf).sum = 0 → ∀ l ∈ L, l = [])
  | [] => ⟨Int.le_refl _, fun _ l h => nomatch h⟩
  | a :: L => by
    obtain ⟨h1, h2⟩ := wOf_sum L
    obtain ⟨g1, g2⟩ := wOf_pos a
    rw [List.map_cons, List.sum_cons]
    refine ⟨by omega, fun e l hl => ?_⟩
    rcases List.mem_cons.mp hl with rfl | hl
    · exact g2 (by omega)
    · exact h2 (by omega) l hl
theorem eqv_stsA2 : ∀ L : List (List (List Int)), PyData.eqvAll (L.map stsD) (L.map stsD) = true
  | [] => rfl
  | a :: L => by
    simp only [List.map_cons, PyData.eqvAll, Bool.and_eq_true]
    exact ⟨eqv_sts_self a, eqv_stsA2 L⟩
theorem eqv_lv_self (L : List (List (List Int))) : PyData.eqv (lvD L) (lvD L) = true := by
  simp only [PyData.eqv]
  exact eqv_stsA2 L
theorem gb_box {b : Int} {kd : Nat} {R : Rooms} (k1 : 1 ≤ kd) (k4 : kd ≤ 4) (rk : RKd kd R) : BxX b kd R (GB b R) := ⟨fun r x _ h n => pb_prj k1 k4 rk n r x (h n), fun r x _ h n => pb_clip n (h n), fun r x _ _ h => h⟩
theorem BoxIn.small {K : PySem.W.Frag} {C : Addr} {H : Hp} {p dx ll : Addr} {us : List V} {fv rv : V} {st : Bool} {kd b s1 s2 s3 : Nat} {R : Rooms} {L : List (List (List Int))} {X : Nat → List Int → Prop} {left : Int} (c : BoxIn K C H p dx ll us fv st rv kd b s1 s2 s3 R L X left) : ∀ l ∈ L, l.length ≤ s1 * (s2 * s3) ∧ ∀ s ∈ l, InB (some (b : Int)) s := fun l hl => by
  obtain ⟨r, hr⟩ := List.mem_iff_getElem?.mp hl
  exact canon_cols c.so.sdOk (c.ro.can r l hr) (c.bx.prj r) (c.bx.clip r)
section
variable {P : Program} {w : World} {K : PySem.W.Frag} {mg : Str → Option Value} {base : Heap}
theorem scBxGo : FnScope ["self", "before", "stores"] ["self"] (defScope sBxGo) := ⟨rfl, rfl, rfl, by decide +kernel, rfl, by decide +kernel, by decide +kernel⟩
theorem ok_bxGo {f fO fT C : Addr} {fd fdO fdT : FuncData} {k : Nat} {tk : Tok} (F : Fun K "go_on" "Box.go_on" sBxGo f fd) (T : BxTxt K C)
    (GO : FnOk P w K mg base CX0 (k + 5) fO fdO ["rooms", "before", "b"] (spOneMore K)) (kO : PySem.W.keepIn K (.ref fO) = true) (bO : Binds K fdO ["rooms", "before", "b"] []) (gO : mg "least_one_more" = some (.ref fO))
    (GT : FnOk P w K mg base CX0 (k + 5) fT fdT ["begun", "rooms", "kinds", "b"] (spSettled K)) (kT : PySem.W.keepIn K (.ref fT) = true) (bT : Binds K fdT ["begun", "rooms", "kinds", "b"] []) (gT : mg "least_settled" = some (.ref fT))
    (gM : mg "MANY" = some (.int 60 tk)) (ml : mg "len" = none) (ms : mg "sum" = none) (mx : mg "max" = none) : FnOk P w K mg base CX0 (k + 6) f fd ["self"] (spBxGo K C) := by
  refine F.ok scBxGo (fun vs H Q E h => ?_) (fun cdv A outer s0 H vs Q E hr h => ?_)
  · obtain ⟨p, dx, ll, us, fv, rv, kd, b, s1, s2, s3, R, L, X, left, rfl, _⟩ := h
    rfl
  · obtain ⟨p, dx, ll, us, fv, rv, kd, b, s1, s2, s3, R, L, X, left, rfl, bx, q⟩ := h
    refine ⟨_, pss_one (ps_if (pt_cmpR op_gt (pe_fld (pv 0) rfl) pe_int (nomark _))
      (pss_cons (ps_set (i := 1) scBxGo.nd rfl (.inl rfl) (pe_fld (pv 0) rfl))
      (pss_cons (ps_fld (pv 0) (pe_call GO hr (by rfl) gO kO bO .nil pass0 (pa_cons (pe_fld (pv 0) rfl) (pa_cons (pv 1) (pa_cons (pe_fld (pv 0) rfl) pa_nil)))) rfl)
      (pss_cons (ps_fld (pv 0) (pe_cmpR (op_eqD hr.units) (pe_fld (pv 0) rfl) (pv 1) (nomark _)) rfl)
      (pss_one (ps_fldaug (pv 0) (pe_callB (cr_sum rfl) (by rfl) ms (by decide +kernel) (pa_cons
          (pe_lc (own := [("stores", 2)]) (g := gName 2) (tt := tYes) (te := tOp (rI CMul fun i j => .int (i * j)) (tCB (rLenS K) (tCons (tVar 2) tNil)) (tCB rMaxI (tCons (tC (.int 1)) (tCons (tOp (rI CDiv fun i j => .int (i / j)) (tCB (rLenS K) (tCons (tVar 2) tNil)) (tC (.int 60))) tNil)))) rfl scBxGo.nd (pi_list (pe_fld (pv 0) rfl))
            (blkOk_by (N := ["self", "before", "stores"]) (sc := defScope sBxGo) (by decide +kernel))
            (fun _ _ _ _ _ => by exact pg_name (i := 2) scBxGo.nd rfl (.inl rfl)) (fun _ _ _ _ _ => pts_nil)
            (fun _ _ _ _ _ => by exact pe_op op_mul (pe_callB call_len_seq (by rfl) ml PySem.boot_len (pa_cons (pv 2) pa_nil)) (pe_callB (call_max2 rfl) (by rfl) mx (by decide +kernel) (pa_cons pe_int (pa_cons (pe_op op_fdiv (pe_callB call_len_seq (by rfl) ml PySem.boot_len (pa_cons (pv 2) pa_nil)) (pe_glob (v := .int 60) (by rfl) gM ⟨_, rfl⟩)) pa_nil))))) pa_nil)) iop_sub)))))
      (pss_cons (ps_fld (pv 0) (pe_call GT hr (by rfl) gT kT bT .nil pass0 (pa_cons (pe_fld (pv 0) rfl) (pa_cons (pe_fld (pv 0) rfl) (pa_cons (pe_fld (pv 0) rfl) (pa_cons (pe_fld (pv 0) rfl) pa_nil))))) rfl)
      (pss_one (ps_fld (pv 0) pe_bl rfl)))), ?_⟩
    have hp := bx.hp
    have hl := bx.hl
    have np := bx.np
    have toH : Same (rmv H ll) H := rmv_same fun b' o _ e => e
    refine ⟨_, rfl, p, C, dx, _, _, rfl, hp, T.cl, T.nL, bg_left _ _ _ _ _ _, _, _, rfl, rfl, _, rfl, ite2 (fun c => ?_) fun c => ?_⟩
    · have lpos : 0 < left := of_decide_eq_true c
      have few := bx.bx.few bx.so.sdOk bx.so.rk bx.f5 bx.sq
      refine ⟨_, rfl, p, C, dx, _, _, rfl, hp, T.cl, T.nF, bg_found _ _ _ _ _ _, ?_⟩
      refine ⟨_, rfl, p, C, dx, _, _, rfl, hp, T.cl, T.nR, bg_rooms _ _ _ _ _ _, _, rfl, _, rfl, p, C, dx, _, _, rfl, hp, T.cl, T.nB, bg_b _ _ _ _ _ _, rv, fv, some (b : Int), R, L, X, _, ll, us, rfl, hl, bx.dr, bx.df, bx.so.rm, bx.ro, few, fun q2 H2 M s2 nq dq oM => ?_⟩
      have h2 := s2 _ _ hp
      have hl2 := s2 _ _ hl
      refine ⟨_, rfl, p, C, dx, _, rfl, h2, T.cl, T.nF, bf_len _ _ _ _ _ _, ?_⟩
      rw [bf_found]
      have k3 := kp_upd p H2 (.ins C dx (bf (.ref q2) false rv kd b left))
      have h3 : upd H2 p (.ins C dx (bf (.ref q2) false rv kd b left)) p = some (.ins C dx (bf (.ref q2) false rv kd b left)) := upd_same
      have dq3 := dp_set (gs := bf (.ref q2) false rv kd b left) h2 np dq
      have df3 := dp_set (gs := bf (.ref q2) false rv kd b left) h2 np (dp_same (rmv_to s2) bx.df)
      have dr3 := dp_set (gs := bf (.ref q2) false rv kd b left) h2 np (dp_same (rmv_to s2) bx.dr)
      have hl3 : upd H2 p (.ins C dx (bf (.ref q2) false rv kd b left)) ll = some (.lst us) := by rw [upd_ne np.symm]; exact hl2
      generalize upd H2 p (.ins C dx (bf (.ref q2) false rv kd b left)) = H3 at k3 h3 dq3 df3 dr3 hl3 ⊢
      have to3 : Same (rmv H3 ll) H3 := rmv_same fun b' o _ e => e
      refine ⟨_, rfl, p, C, dx, _, _, rfl, h3, T.cl, T.nF, bg_found _ _ _ _ _ _, _, rfl, _, _, dp_same to3 dq3, dp_same to3 df3, lv_shaped _, lv_shaped _, _, rfl, p, C, dx, _, rfl, h3, T.cl, T.nS, bf_len _ _ _ _ _ _, ?_⟩
      rw [bf_settled]
      obtain ⟨st', est⟩ : ∃ st', PyData.eqv (lvD M) (lvD L) = st' := ⟨_, rfl⟩
      rw [est]
      have k4 := k3.trans (kp_upd p H3 (.ins C dx (bf (.ref q2) st' rv kd b left)))
      have h4 : upd H3 p (.ins C dx (bf (.ref q2) st' rv kd b left)) p = some (.ins C dx (bf (.ref q2) st' rv kd b left)) := upd_same
      have dq4 := dp_set (gs := bf (.ref q2) st' rv kd b left) h3 np dq3
      have dr4 := dp_set (gs := bf (.ref q2) st' rv kd b left) h3 np dr3
      have hl4 : upd H3 p (.ins C dx (bf (.ref q2) st' rv kd b left)) ll = some (.lst us) := by rw [upd_ne np.symm]; exact hl3
      generalize upd H3 p (.ins C dx (bf (.ref q2) st' rv kd b left)) = H4 at k4 h4 dq4 dr4 hl4 ⊢
      have to4 : Same (rmv H4 ll) H4 := rmv_same fun b' o _ e => e
      have bx2 := bx.bx.next bx.so.sdOk bx.so.rm bx.so.rk
      obtain ⟨_, qvs, e, hQ, qall⟩ := lst_of (dp_same to4 dq4)
      cases e
      have lq := mapD_len qall
      have fewN := bx.so.few
      have lMR := oM.len
      have lR := bx.so.rm.few
      refine ⟨_, rfl, p, C, dx, _, _, rfl, h4, T.cl, T.nL, bg_left _ _ _ _ _ _, ?_⟩
      refine ⟨_, rfl, p, C, dx, _, _, rfl, h4, T.cl, T.nF, bg_found _ _ _ _ _ _, q2, rfl, ⟨_, hQ⟩, fun D nD => ?_⟩
      have sD := same_upd (o := .lst []) nD
      refine lc_list (K := K) (a := q2) (xs := qvs) (fun j H5 => Same H4 H5 ∧ H5 D = some (.lst (((M.take j).map wOf).map V.int))) ⟨sD, upd_same⟩ (fun j H5 _ ⟨s5, _⟩ => s5.seq hQ) ?_ ?_
      · rintro j v H5 hj ⟨s5, hD⟩
        obtain ⟨l, hl0, dl⟩ := mapD_get qall hj
        have jl := (List.getElem?_eq_some_iff.mp hl0).1
        have lN := (canon_cols bx.so.sdOk (oM.can j l hl0) (bx2.prj j) (bx2.clip j)).1
        obtain ⟨a, avs, rfl, hA, aall⟩ := sts_of dl
        have la := sts_len aall
        have hA5 := s5.seq hA
        refine ⟨rfl, ?_⟩
        refine ⟨_, rfl, a, _, rfl, .inl hA5, _, rfl, a, _, rfl, .inl hA5, _, _, rfl, rfl, ⟨by decide, by decide⟩, _, _, rfl, rI_mul ⟨by omega, by omega⟩ ⟨_, hD, line_of (by rw [List.length_map, List.length_map, List.length_take]; omega), fun b' o e => ?_, ?_⟩⟩
        · rw [upd_ne (ne_of_none e nD)]
          exact s5 _ _ e
        · rw [upd_same, take_snoc hl0, List.map_append (l₁ := M.take j), List.map_append (f := V.int), la]
          rfl
      · rintro H5 ⟨s5, hD⟩
        rw [lq, List.take_length] at hD
        have h5 := s5 _ _ h4
        refine ⟨D, _, rfl, SqL.of hD, _, _, rfl, rfl, dx, _, h5, bf_len _ _ _ _ _ _, ?_⟩
        rw [bf_left]
        obtain ⟨w0, w1⟩ := wOf_sum M
        refine q _ (.ref q2) st' M _ (left - (M.map wOf).sum) (fun b' o e n => ?_) ⟨upd_same, ?_, dp_set h5 np (dp_same (rmv_to s5) dq4), dp_set h5 np (dp_same (rmv_to s5) dr4), bx.so, bx.f5, bx.sq, oM, bx2, fun e => ?_⟩ fun e => ⟨lpos, ?_⟩
        · rw [upd_ne n]
          exact s5 _ _ (k4 _ _ (s2 _ _ e) n)
        · rw [upd_ne np.symm]
          exact s5 _ _ hl4
        · rw [e] at est
          have eM := eqv_lv est
          subst eM
          exact bx.bx.settled bx.so.rm bx.ro oM
        · by_cases z : (M.map wOf).sum = 0
          · refine .inr ⟨by omega, fun eM => ?_, w1 z⟩
            rw [eM, eqv_lv_self] at est
            rw [← est] at e
            cases e
          · exact .inl (by omega)
    · have sm := bx.small
      refine ⟨_, rfl, p, C, dx, _, _, rfl, hp, T.cl, T.nF, bg_found _ _ _ _ _ _, _, rfl, p, C, dx, _, _, rfl, hp, T.cl, T.nR, bg_rooms _ _ _ _ _ _, _, rfl, p, C, dx, _, _, rfl, hp, T.cl, T.nK, bg_kinds _ _ _ _ _ _, _, rfl, p, C, dx, _, _, rfl, hp, T.cl, T.nB, bg_b _ _ _ _ _ _,
        fv, rv, kd, b, s1, s2, s3, R, L, X, ll, us, rfl, hl, dp_same toH bx.df, dp_same toH bx.dr, bx.so, bx.ro, fun l hl => (sm l hl).2, fun l hl => by have := (sm l hl).1; have := bx.so.few; omega, bx.bx.gb, fun q2 H2 M s2 nq dq oM => ?_⟩
      have h2 := s2 _ _ hp
      have hl2 := s2 _ _ hl
      refine ⟨_, rfl, p, C, dx, _, rfl, h2, T.cl, T.nF, bf_len _ _ _ _ _ _, ?_⟩
      rw [bf_found]
      have k3 := kp_upd p H2 (.ins C dx (bf (.ref q2) false rv kd b left))
      have h3 : upd H2 p (.ins C dx (bf (.ref q2) false rv kd b left)) p = some (.ins C dx (bf (.ref q2) false rv kd b left)) := upd_same
      have dq3 := dp_set (gs := bf (.ref q2) false rv kd b left) h2 np dq
      have dr3 := dp_set (gs := bf (.ref q2) false rv kd b left) h2 np (dp_same (rmv_to s2) bx.dr)
      have hl3 : upd H2 p (.ins C dx (bf (.ref q2) false rv kd b left)) ll = some (.lst us) := by rw [upd_ne np.symm]; exact hl2
      generalize upd H2 p (.ins C dx (bf (.ref q2) false rv kd b left)) = H3 at k3 h3 dq3 dr3 hl3 ⊢
      refine ⟨_, rfl, p, C, dx, _, rfl, h3, T.cl, T.nS, bf_len _ _ _ _ _ _, ?_⟩
      rw [bf_settled]
      refine q _ (.ref q2) true M _ left (fun b' o e n => ?_) ⟨upd_same, ?_, dp_set h3 np dq3, dp_set h3 np dr3, bx.so, bx.f5, bx.sq, oM, gb_box bx.so.k1 bx.so.k4 bx.so.rk, fun _ => oM⟩ fun e => nomatch e
      · rw [upd_ne n]
        exact k3 _ _ (s2 _ _ e) n
      · rw [upd_ne np.symm]
        exact hl3
end
/-! ### the next great box -/
def sGreat : Stmt := topS 26
def greats : List Int := [1, 2, 3, 4, 6, 8, 12, 16]
def greatOf (b : Int) : Int := minOr b (greats.filter fun g => decide (b ≤ g))
def spGreat (K : PySem.W.Frag) : Sp := fun vs H Q _ => ∃ b : Int, vs = [.int b] ∧ ∀ H', Same H H' → Q (.int (greatOf b)) H'
theorem great_ge (b : Int) : b ≤ greatOf b := by
  unfold greatOf
  refine (minOr_le _ _ _).mpr ?_
  by_cases e : greats.filter (fun g => decide (b ≤ g)) = []
  · exact .inl ⟨e, Int.le_refl _⟩
  · exact .inr ⟨e, fun n hn => of_decide_eq_true (List.mem_filter.mp hn).2⟩
theorem great_in (b : Int) : greatOf b = b ∨ greatOf b ∈ greats := by
  unfold greatOf
  by_cases e : greats.filter (fun g => decide (b ≤ g)) = []
  · rw [e]
    exact .inl rfl
  · exact .inr (List.mem_filter.mp (minOr_mem e)).1
theorem great_same {g : Int} (h : g ∈ greats) : greatOf g = g := by
  unfold greats at h
  simp only [List.mem_cons, List.not_mem_nil, or_false] at h
  rcases h with rfl | rfl | rfl | rfl | rfl | rfl | rfl | rfl <;> decide
theorem great_twice (b : Int) : greatOf (greatOf b) = greatOf b := by
  rcases great_in b with e | h
  · rw [e, e]
  · exact great_same h
theorem great_le {b : Int} (h : b ≤ 16) : greatOf b ≤ 16 := by
  rcases great_in b with e | e
  · rw [e]
    exact h
  · unfold greats at e
    simp only [List.mem_cons, List.not_mem_nil, or_false] at e
    omega
section
variable {P : Program} {w : World} {K : PySem.W.Frag} {mg : Str → Option Value} {base : Heap}
theorem scGreat : FnScope ["b", "great"] ["b"] (defScope sGreat) := ⟨rfl, rfl, rfl, by decide +kernel, rfl, by decide +kernel, by decide +kernel⟩
theorem ok_great {f ag : Addr} {fd : FuncData} {k : Nat} (F : Fun K "next_great" "next_great" sGreat f fd) (gG : mg "GREAT_BOXES" = some (.ref ag)) (hG : ∀ H : Hp, SqT K H ag (greats.map V.int)) (mm : mg "min" = none) : FnOk P w K mg base CX0 (k + 1) f fd ["b"] (spGreat K) := by
  refine F.ok scGreat (fun vs H Q E h => ?_) (fun cdv A outer s0 H vs Q E hr h => ?_)
  · obtain ⟨b, rfl, _⟩ := h
    rfl
  · obtain ⟨b, rfl, q⟩ := h
    refine ⟨_, pss_one (ps_ret (pe_minDef rfl hr (by rfl) mm
      (pe_lc (own := [("great", 1)]) (g := gName 1) (tt := tGe 1 0) (te := tVar 1) rfl scGreat.nd (pi_tup (pe_glob (v := .ref ag) (by rfl) gG rfl))
        (blkOk_by (N := ["b", "great"]) (sc := defScope sGreat) (by decide +kernel))
        (fun _ _ _ _ _ => by exact pg_name (i := 1) scGreat.nd rfl (.inl rfl)) (fun _ _ _ _ _ => by exact pts_one (pt_cmpR op_ge (pv 1) (pv 0) (nomark _)))
        (fun _ _ _ _ _ => by exact pv 1)) (pv 0))), ?_⟩
    refine ⟨ag, rfl, ⟨_, hG _⟩, fun D nD => ?_⟩
    have sD := same_upd (o := .lst []) nD
    refine lc_tup (K := K) (a := ag) (xs := greats.map V.int) (fun j H1 => Same H H1 ∧ H1 D = some (.lst (((greats.take j).filter fun g => decide (b ≤ g)).map V.int))) ⟨sD, upd_same⟩ (fun j H1 _ _ => hG _) ?_ ?_
    · rintro j v H1 hj ⟨s1, hD⟩
      obtain ⟨z, hz, rfl⟩ := ints_get hj
      have ll := List.length_filter_le (fun g => decide (b ≤ g)) (greats.take j)
      rw [List.length_take] at ll
      have lg : greats.length = 8 := rfl
      refine ⟨rfl, ?_⟩
      refine ge_vars rfl rfl (ite2 (fun c => ?_) fun c => ?_)
      · refine ⟨_, rfl, _, hD, line_of (by rw [List.length_map]; omega), fun b' o e => ?_, ?_⟩
        · rw [upd_ne (ne_of_none e nD)]
          exact s1 _ _ e
        · rw [upd_same, take_snoc hz, List.filter_append, List.filter_cons, if_pos c, List.map_append]
          rfl
      · refine ⟨s1, ?_⟩
        rw [take_snoc hz, List.filter_append, List.filter_cons, if_neg c, List.filter_nil, List.append_nil]
        exact hD
    · rintro H1 ⟨s1, hD⟩
      rw [show (greats.map V.int).length = greats.length by rw [List.length_map], List.take_length] at hD
      exact ⟨_, rfl, D, _, b, rfl, rfl, SqL.of hD, q H1 s1⟩
end
/-! ### the stores of a box, on a list of their own; a chart's boxes -/
def spNoMoreB (K : PySem.W.Frag) : Sp := fun vs H Q _ => ∃ (x : V) (b : Int) (S : List (List Int)), vs = [.int b, x] ∧ Dp K H x (stsD S) ∧ (∀ t ∈ S, t.length = 4) ∧ S.length ≤ 5000 ∧ ∀ q H' ps, Same H H' → H q = none → H' q = some (.lst ps) → DpAll K H' ps ((S.filter (inB (some b))).map wayD) → Q (.ref q) H'
section
variable {P : Program} {w : World} {K : PySem.W.Frag} {mg : Str → Option Value} {base : Heap}
theorem ok_noMoreB {f : Addr} {fd : FuncData} {k : Nat} (F : Fun K "no_more_than" "no_more_than" sNoMore f fd) (mx : mg "max" = none) : FnOk P w K mg base CX0 (k + 1) f fd ["b", "stores"] (spNoMoreB K) := by
  refine F.ok scNoMore (fun vs H Q E h => ?_) (fun cdv A outer s H vs Q E hr h => ?_)
  · obtain ⟨x, b, S, rfl, _⟩ := h
    rfl
  · obtain ⟨x, r, S, rfl, hx, l4, fw, q⟩ := h
    refine ⟨_, pss_one (ps_ret (pe_ifExp (pt_cmp (pc_isN (pv 0))) (pv 1)
      (pe_lc (own := [("store", 2)]) (g := gName 2) (tt := tTest (tOp (rI0 fun i j => .bl (decide (i ≤ j))) (tCB (rMaxT K) (tCons (tVar 2) tNil)) (tVar 0))) rfl scNoMore.nd (pi_list (pv 1))
        (blkOk_by (N := ["b", "stores", "store"]) (sc := defScope sNoMore) (by decide +kernel))
        (fun _ _ _ _ _ => by exact pg_name (i := 2) scNoMore.nd rfl (.inl rfl)) (fun _ _ _ _ _ => by exact pts_one (pt_cmpR op_le (pe_callB (cr_maxT rfl hr) (by rfl) mx (by decide +kernel) (pa_cons (pv 2) pa_nil)) (pv 0) (nomark _)))
        (fun _ _ _ _ _ => by exact pv 2)))), ?_⟩
    obtain ⟨l, vs, rfl, hL, hall⟩ := sts_of hx
    have lv := sts_len hall
    refine ⟨_, rfl, false, rfl, ifF rfl ⟨_, rfl, l, rfl, ⟨_, hL⟩, fun D nD => ?_⟩⟩
    have sD := same_upd (o := .lst []) nD
    refine lc_list (K := K) (a := l) (xs := vs) (fun j H1 => Same H H1 ∧ ∃ ps, H1 D = some (.lst ps) ∧ DpAll K H1 ps (((S.take j).filter (inB (some r))).map wayD)) ⟨sD, [], upd_same, .nil⟩ (fun j H1 _ ⟨s1, _⟩ => s1.seq hL) ?_ ?_
    · rintro j v H1 hj ⟨s1, ps, hD, dps⟩
      obtain ⟨t, ht, dv⟩ := sts_get hall hj
      obtain ⟨ta, rfl, hT⟩ := way_of dv
      obtain ⟨a, b, c, d, rfl⟩ := four_of (l4 t (List.mem_of_getElem? ht))
      have lp := sts_len dps
      have lf := List.length_filter_le (inB (some r)) (S.take j)
      rw [List.length_take] at lf
      refine ⟨rfl, _, rfl, ta, a, [b, c, d], rfl, s1.seqT hT, _, rfl, _, r, rfl, rfl, _, rfl, ?_⟩
      rw [max4_le, take_snoc ht, List.filter_append]
      refine ite2 (fun y => ?_) fun y => ?_
      · rw [show [[a, b, c, d]].filter (inB (some r)) = [[a, b, c, d]] by rw [List.filter_cons, if_pos y]; rfl]
        refine ⟨_, rfl, ps, hD, small_line (by omega), fun b2 o e2 => ?_, ps ++ [.ref ta], upd_same, ?_⟩
        · rw [upd_ne (ne_of_none e2 nD)]
          exact s1 _ _ e2
        · rw [List.map_append]
          exact dpAll_put hD (dpAll_app dps (.cons (dp_same s1 dv) .nil)) (noL_app _ [[a, b, c, d]])
      · rw [show [[a, b, c, d]].filter (inB (some r)) = [] by rw [List.filter_cons, if_neg y]; rfl, List.append_nil]
        exact ⟨s1, ps, hD, dps⟩
    · rintro H1 ⟨s1, ps, hD, dps⟩
      rw [take_all lv] at dps
      exact q D H1 ps s1 nD hD dps
end
/-- a box that nobody touched -/
theorem BoxIn.kp {K : PySem.W.Frag} {C D dy : Addr} {H H' : Hp} {p p' dx ll : Addr} {us : List V} {fv rv : V} {st : Bool} {kd b s1 s2 s3 : Nat} {R : Rooms} {L : List (List (List Int))} {X : Nat → List Int → Prop} {left : Int} {fs : List (Str × V)}
    (c : BoxIn K C H p dx ll us fv st rv kd b s1 s2 s3 R L X left) (k : Kp p' H H') (h' : H p' = some (.ins D dy fs)) (n : p ≠ p') : BoxIn K C H' p dx ll us fv st rv kd b s1 s2 s3 R L X left := by
  have nl : p' ≠ ll := fun e => by
    have := c.hl
    rw [← e, h'] at this
    cases this
  have kr : Kp p' (rmv H ll) (rmv H' ll) := fun b' o e nb => by
    obtain ⟨n2, e⟩ := rmv_some e
    rw [rmv_ne n2]
    exact k _ _ e nb
  have hr : rmv H ll p' = some (.ins D dy fs) := by rw [rmv_ne nl]; exact h'
  exact ⟨k _ _ c.hp n, k _ _ c.hl nl.symm, dp_ki kr hr c.df, dp_ki kr hr c.dr, c.so, c.f5, c.sq, c.ro, c.bx, c.st⟩
theorem BoxIn.same {K : PySem.W.Frag} {C : Addr} {H H' : Hp} {p dx ll : Addr} {us : List V} {fv rv : V} {st : Bool} {kd b s1 s2 s3 : Nat} {R : Rooms} {L : List (List (List Int))} {X : Nat → List Int → Prop} {left : Int}
    (c : BoxIn K C H p dx ll us fv st rv kd b s1 s2 s3 R L X left) (s : Same H H') : BoxIn K C H' p dx ll us fv st rv kd b s1 s2 s3 R L X left :=
  ⟨s _ _ c.hp, s _ _ c.hl, dp_same (rmv_to s) c.df, dp_same (rmv_to s) c.dr, c.so, c.f5, c.sq, c.ro, c.bx, c.st⟩
/-- the last lists have grown -/
theorem BoxIn.lists {K : PySem.W.Frag} {C : Addr} {H H' : Hp} {p dx ll : Addr} {us us' : List V} {fv rv : V} {st : Bool} {kd b s1 s2 s3 : Nat} {R : Rooms} {L : List (List (List Int))} {X : Nat → List Int → Prop} {left : Int}
    (c : BoxIn K C H p dx ll us fv st rv kd b s1 s2 s3 R L X left) (k : Kp ll H H') (h' : H' ll = some (.lst us')) : BoxIn K C H' p dx ll us' fv st rv kd b s1 s2 s3 R L X left := by
  have sr : Same (rmv H ll) (rmv H' ll) := rmv_rmv fun b' o n e => k _ _ e n
  exact ⟨k _ _ c.hp c.np, h', dp_same sr c.df, dp_same sr c.dr, c.so, c.f5, c.sq, c.ro, c.bx, c.st⟩
/-- the boxes of a chart: each is one of its own -/
structure BxSt (K : PySem.W.Frag) (C : Addr) (H : Hp) (bb ll : Addr) (us : List V) (rv : V) (kd : Nat) (R : Rooms) (kvs : List (Key × V)) : Prop where
  hb : H bb = some (.dK kvs)
  bx : ∀ k v, (k, v) ∈ kvs → ∃ (b : Nat) (p dx : Addr) (fv : V) (st : Bool) (s1 s2 s3 : Nat) (L : List (List (List Int))) (X : Nat → List Int → Prop) (left : Int), k = .inl (b : Int) ∧ v = .ref p ∧ BoxIn K C H p dx ll us fv st rv kd b s1 s2 s3 R L X left
  inj : ∀ k1 k2 v, (k1, v) ∈ kvs → (k2, v) ∈ kvs → k1 = k2
/-! ### a chart's box -/
def sChBoxM : Stmt := inClass sChart 4
theorem hu_room {k : Nat} {A : Around} (r : Room k A) : A.units + 1 < cLine := by
  have := r.un
  omega
/-! data that doesn't lean on a dict -/
theorem same_ins2 {H : Hp} {x dx C : Addr} (nx : H x = none) (ndx : H dx = none) : Same H (upd (upd H dx (.own x)) x (.ins C dx [])) := fun b o e => by
  rw [upd_ne (ne_of_none e nx), upd_ne (ne_of_none e ndx)]
  exact e
theorem Kp.seqD {K : PySem.W.Frag} {p a : Addr} {H H' : Hp} {kvs : List (Key × V)} {xs : List V} (e : Kp p H H') (hp : H p = some (.dK kvs)) (h : SqL K H a xs) : SqL K H' a xs := by
  rcases h with (h | ⟨o, h⟩) | h
  · exact .inl (.inl (e _ _ h fun z => by rw [z, hp] at h; cases h))
  · exact .inl (.inr ⟨o, e _ _ h fun z => by rw [z, hp] at h; cases h⟩)
  · exact .inr h
theorem Kp.seqTD {K : PySem.W.Frag} {p a : Addr} {H H' : Hp} {kvs : List (Key × V)} {xs : List V} (e : Kp p H H') (hp : H p = some (.dK kvs)) (h : SqT K H a xs) : SqT K H' a xs := by
  rcases h with (h | ⟨o, h⟩) | h
  · exact .inl (.inl (e _ _ h fun z => by rw [z, hp] at h; cases h))
  · exact .inl (.inr ⟨o, e _ _ h fun z => by rw [z, hp] at h; cases h⟩)
  · exact .inr h
mutual
theorem dp_kd {K : PySem.W.Frag} {p : Addr} {H H' : Hp} {kvs : List (Key × V)} (s : Kp p H H') (hp : H p = some (.dK kvs)) : ∀ {v : V} {d : PyData}, Dp K H v d → Dp K H' v d
  | _, _, .non => .non
  | _, _, .bl b => .bl b
  | _, _, .int i => .int i
  | _, _, .str x => .str x
  | _, _, .lst q r => .lst (s.seqD hp q) (dpAll_kd s hp r)
  | _, _, .tup q r => .tup (s.seqTD hp q) (dpAll_kd s hp r)
theorem dpAll_kd {K : PySem.W.Frag} {p : Addr} {H H' : Hp} {kvs : List (Key × V)} (s : Kp p H H') (hp : H p = some (.dK kvs)) : ∀ {v : List V} {d : List PyData}, DpAll K H v d → DpAll K H' v d
  | _, _, .nil => .nil
  | _, _, .cons q r => .cons (dp_kd s hp q) (dpAll_kd s hp r)
end
theorem BoxIn.kd {K : PySem.W.Frag} {C bb : Addr} {H H' : Hp} {kvs : List (Key × V)} {p dx ll : Addr} {us : List V} {fv rv : V} {st : Bool} {kd b s1 s2 s3 : Nat} {R : Rooms} {L : List (List (List Int))} {X : Nat → List Int → Prop} {left : Int}
    (c : BoxIn K C H p dx ll us fv st rv kd b s1 s2 s3 R L X left) (k : Kp bb H H') (hb : H bb = some (.dK kvs)) : BoxIn K C H' p dx ll us fv st rv kd b s1 s2 s3 R L X left := by
  have nl : bb ≠ ll := fun e => by
    have := c.hl
    rw [← e, hb] at this
    cases this
  have np : p ≠ bb := fun e => by
    have := c.hp
    rw [e, hb] at this
    cases this
  have kr : Kp bb (rmv H ll) (rmv H' ll) := fun b' o e nb => by
    obtain ⟨n2, e⟩ := rmv_some e
    rw [rmv_ne n2]
    exact k _ _ e nb
  have hr : rmv H ll bb = some (.dK kvs) := by rw [rmv_ne nl]; exact hb
  exact ⟨k _ _ c.hp np, k _ _ c.hl nl.symm, dp_kd kr hr c.df, dp_kd kr hr c.dr, c.so, c.f5, c.sq, c.ro, c.bx, c.st⟩
theorem valV_mem {kvs : List (Key × V)} {k : Key} {v : V} (h : valV kvs k = some v) : (k, v) ∈ kvs := by
  unfold valV at h
  obtain ⟨kv, h1, h2⟩ := Option.map_eq_some_iff.mp h
  have e := List.find?_some h1
  have e := of_decide_eq_true e
  have m := List.mem_of_find?_eq_some h1
  obtain ⟨k', v'⟩ := kv
  dsimp only at e h2
  subst e h2
  exact m
theorem valV_none {kvs : List (Key × V)} {k : Key} (h : valV kvs k = none) : ∀ v, (k, v) ∉ kvs := fun v m => by
  unfold valV at h
  rw [Option.map_eq_none_iff, List.find?_eq_none] at h
  exact h _ m (decide_eq_true rfl)
theorem putK_new {kvs : List (Key × V)} {k : Key} {v : V} (h : valV kvs k = none) : putK kvs k v = kvs ++ [(k, v)] ∧ valV (kvs ++ [(k, v)]) k = some v := by
  have n : ∀ kv ∈ kvs, ¬ kv.1 = k := fun kv m e => valV_none h kv.2 (by rw [← e]; exact m)
  refine ⟨?_, ?_⟩
  · unfold putK
    rw [if_neg]
    rw [List.any_eq_true]
    rintro ⟨kv, m, e⟩
    exact n kv m (of_decide_eq_true e)
  · unfold valV
    rw [List.find?_append]
    have e : kvs.find? (fun kv => decide (kv.1 = k)) = none := List.find?_eq_none.mpr fun kv m e => n kv m (of_decide_eq_true e)
    rw [e, Option.none_or]
    simp
def spChBox (K : PySem.W.Frag) (C CB : Addr) : Sp := fun vs H Q _ => ∃ (p dx : Addr) (rv : V) (ll bb : Addr) (kd : Nat) (R : Rooms) (us : List V) (Ls : List (List (List (List Int)))) (b s1 s2 s3 : Nat) (kvs : List (Key × V)),
  vs = [.ref p, .int (b : Int)] ∧ ChartIn K C H p dx rv ll bb kd R us Ls ∧ BxSt K CB H bb ll us rv kd R kvs ∧ StOk kd b s1 s2 s3 R ∧ s1 * (s2 * s3) * 5 < 4096 ∧ s1 * (s2 * s3) * (s1 * (s2 * s3) + 1) < 4096 ∧ FewP none R (Ls.length - 1) ∧ kvs.length ≤ 1000 ∧
  ∀ (q : Addr) (H' : Hp) (kvs' : List (Key × V)), Kp bb H H' → BxSt K CB H' bb ll us rv kd R kvs' → valV kvs' (.inl (b : Int)) = some (.ref q) → (H q = none ∨ ∃ k, (k, V.ref q) ∈ kvs) → kvs'.length ≤ kvs.length + 1 → (∀ kk v, (kk, v) ∈ kvs' → (kk, v) ∈ kvs ∨ v = .ref q) → Q (.ref q) H'
section
variable {P : Program} {w : World} {K : PySem.W.Frag} {mg : Str → Option Value} {base : Heap}
theorem scChBox : FnScope ["self", "b", "great", "lists", "begun", "stores"] ["self", "b"] (defScope sChBoxM) := ⟨rfl, rfl, rfl, by decide +kernel, rfl, by decide +kernel, by decide +kernel⟩
theorem ok_chBox {f fG fN fi C CB : Addr} {fd fdG fdN di : FuncData} {k : Nat} (F : Fun K "_box" "Chart._box" sChBoxM f fd) (T : ChTxt K C) (TB : BxTxt K CB) (MB : Mk K CB fi) (gB : mg "Box" = some (.ref CB))
    (GI : FnOk P w K mg base CX0 (k + 2) fi di ["self", "begun", "rooms", "kinds", "b"] (spBxInit K CB)) (bI : Binds K di ["self", "begun", "rooms", "kinds", "b"] [])
    (GG : FnOk P w K mg base CX0 (k + 2) fG fdG ["b"] (spGreat K)) (kG : PySem.W.keepIn K (.ref fG) = true) (bG : Binds K fdG ["b"] []) (gG : mg "next_great" = some (.ref fG))
    (GN : FnOk P w K mg base CX0 (k + 2) fN fdN ["b", "stores"] (spNoMoreB K)) (kN : PySem.W.keepIn K (.ref fN) = true) (bN : Binds K fdN ["b", "stores"] []) (gN : mg "no_more_than" = some (.ref fN)) :
    FnOk P w K mg base CX0 (k + 4) f fd ["self", "b"] (spChBox K C CB) := by
  refine F.ok scChBox (fun vs H Q E h => ?_) (fun cdv A outer s0 H vs Q E hr h => ?_)
  · obtain ⟨p, dx, rv, ll, bb, kd, R, us, Ls, b, s1, s2, s3, kvs, rfl, _⟩ := h
    rfl
  · obtain ⟨p, dx, rv, ll, bb, kd, R, us, Ls, b, z1, z2, z3, kvs, rfl, cc, bs, so, f5, sq, fw, lk, q⟩ := h
    have h2 : Room (k + 2) _ := hr.mono (by omega)
    have h3 : Room (k + 3) _ := hr.mono (by omega)
    refine ⟨_, pss_cut (ps_if (pt_cmp (pc_dnotin (hu_room hr) (pv 1) (pe_fld (pv 0) rfl)))
        (pss_cons (ps_set (i := 2) scChBox.nd rfl (.inl rfl) (pe_dget2 (hu_room hr) (pe_fld (pv 0) rfl) (pe_call GG h2 (by rfl) gG kG bG .nil pass0 (pa_cons (pv 1) pa_nil)) pe_non ⟨rfl, rfl, rfl, rfl⟩))
        (pss_cut (ps_set (i := 3) scChBox.nd rfl (.inl rfl) (pe_ifExp (pt_cmpR op_isN (pv 2) pe_non (nomark _)) (pe_ix ix_list (pe_fld (pv 0) rfl) (pe_un un_neg pe_int) (fun _ _ => rfl)) (pe_fld (pv 2) rfl)))
        (pss_cons (ps_setLc (i := 4) (own := [("stores", 5)]) (g := gName 5) (tt := tYes) (te := tCall (spNoMoreB K) [] E0 (tCons (tVar 1) (tCons (tVar 5) tNil))) rfl scChBox.nd rfl rfl (sw_true rfl rfl rfl (by decide +kernel)) (pi_list (pv 3))
            (blkOk_by (N := ["self", "b", "great", "lists", "begun", "stores"]) (sc := defScope sChBoxM) (by decide +kernel))
            (fun _ _ _ _ _ => by exact pg_name (i := 5) scChBox.nd rfl (.inl rfl)) (fun _ _ _ _ _ => pts_nil)
            (fun _ _ _ _ _ => by exact pe_call GN h2 (by rfl) gN kN bN .nil pass0 (pa_cons (pv 1) (pa_cons (pv 5) pa_nil))))
        (pss_one (ps_dput (hu_room hr) (pe_fld (pv 0) rfl) (pv 1) (pe_make MB GI h3 rfl gB bI .nil pass0 (pa_cons (pv 4) (pa_cons (pe_fld (pv 0) rfl) (pa_cons (pe_fld (pv 0) rfl) (pa_cons (pv 1) pa_nil))))) rfl))))) pss_nil)
      (pss_one (ps_ret (pe_dget (hu_room hr) (pe_fld (pv 0) rfl) (pv 1) (fun _ _ => rfl)))), ?_⟩
    have hp := cc.hp
    have hb := bs.hb
    have np := cc.np
    have nbp : p ≠ bb := fun e => by rw [e, hb] at hp; cases hp
    refine ⟨fun σ' H' => ∃ (y2 y3 y4 : Option V) (q0 : Addr) (kvs' : List (Key × V)), σ' = [some (.ref p), some (.int (b : Int)), y2, y3, y4, none] ∧ Kp bb H H' ∧ H' p = some (.ins C dx (cf kd rv ll bb)) ∧ BxSt K CB H' bb ll us rv kd R kvs' ∧ valV kvs' (.inl (b : Int)) = some (.ref q0) ∧ (H q0 = none ∨ ∃ k, (k, V.ref q0) ∈ kvs) ∧ kvs'.length ≤ kvs.length + 1 ∧ (∀ kk v, (kk, v) ∈ kvs' → (kk, v) ∈ kvs ∨ v = .ref q0), ?_, ?_⟩
    · refine ⟨_, rfl, _, rfl, p, C, dx, _, _, rfl, hp, T.cl, T.nB, cf_boxes _ _ _ _, bb, _, rfl, DGet.k (k := .inl (b : Int)) hb, _, rfl, ?_⟩
      cases ev : valV kvs (.inl (b : Int)) with
      | some v =>
        refine ifF rfl ?_
        obtain ⟨_, q0, _, _, _, _, _, _, _, _, _, _, rfl, _⟩ := bs.bx _ _ (valV_mem ev)
        exact ⟨_, _, _, q0, kvs, rfl, Kp.refl _ _, hp, bs, ev, .inr ⟨_, valV_mem ev⟩, Nat.le_succ _, fun _ _ m => .inl m⟩
      | none =>
        refine ifT rfl ?_
        refine ⟨_, rfl, p, C, dx, _, _, rfl, hp, T.cl, T.nB, cf_boxes _ _ _ _, bb, rfl, .inl ⟨kvs, .inl hb⟩, _, rfl, (b : Int), rfl, fun H1 s1 => ?_⟩
        have hb1 := s1 _ _ hb
        refine ⟨valV kvs (.inl (greatOf (b : Int))), DGet.k (k := .inl (greatOf (b : Int))) hb1, ?_⟩
        refine ⟨fun σ' H' => ∃ (y2 : Option V) (lv : V) (Lz : List (List (List Int))) (X0 : Nat → List Int → Prop), σ' = [some (.ref p), some (.int (b : Int)), y2, some lv, none, none] ∧ Same H H' ∧ Dp K (rmv H' ll) lv (lvD Lz) ∧ RowOk R.length X0 Lz ∧ (∀ r x, Ok4 x → X0 r x → X0 r (prj kd x)) ∧
            (∀ r x, r < R.length → Ok4 x → GB (b : Int) R r x → X0 r x) ∧ ∀ l ∈ Lz, l.length ≤ 5000, ?_, ?_⟩
        · cases eg : valV kvs (.inl (greatOf (b : Int))) with
          | none =>
            refine ⟨_, rfl, rfl, _, rfl, ifT (decide_eq_true rfl) ?_⟩
            obtain ⟨Us, Lz, eLs⟩ : ∃ Us Lz, Ls = Us ++ [Lz] := ⟨Ls.dropLast, Ls.getLast (by intro z; have := cc.one; rw [z] at this; simp at this), (List.dropLast_concat_getLast _).symm⟩
            have lUs : Ls.length = Us.length + 1 := by rw [eLs]; simp
            have tL : Ls[Us.length]? = some Lz := by rw [eLs]; simp
            have lu := cc.len
            obtain ⟨vz, hvz, dvz⟩ := mapD_at cc.dl tL
            obtain ⟨ws, eus⟩ : ∃ ws, us = ws ++ [vz] := by
              refine ⟨us.take Us.length, ?_⟩
              have e := take_snoc hvz
              rw [List.take_of_length_le (by omega)] at e
              exact e
            have atz : atI us (-1) = some vz := by
              rw [eus]
              exact atI_last _ _
            have rz := cc.lv _ _ tL
            rw [show Ls.length - 1 = Us.length by omega] at fw
            refine ⟨_, rfl, p, C, dx, _, _, rfl, s1 _ _ hp, T.cl, T.nL, cf_lists _ _ _ _, 1, rfl, ll, us, _, vz, rfl, rfl, SqL.of (s1 _ _ cc.hl), atz, ?_⟩
            refine ⟨_, vz, Lz, PB none R Us.length, rfl, s1, dp_same (rmv_to s1) dvz, rz, fun r x _ h => pb_prj so.k1 so.k4 so.rk _ r x h, fun r x _ _ g => pb_wider (fun z _ => inB_none z) _ r x (g _), fun l hl => ?_⟩
            have := (fw.len rz l hl).1
            omega
          | some v =>
            obtain ⟨b', g, dg, fv, st, t1, t2, t3, L, X, left, ek, rfl, bi⟩ := bs.bx _ _ (valV_mem eg)
            have ek : greatOf (b : Int) = (b' : Int) := Sum.inl.inj ek
            refine ⟨_, rfl, rfl, _, rfl, ifF (decide_eq_false fun z => nomatch z) ?_⟩
            refine ⟨_, rfl, g, CB, dg, _, _, rfl, s1 _ _ bi.hp, TB.cl, TB.nF, bg_found _ _ _ _ _ _, ?_⟩
            refine ⟨_, fv, L, X, rfl, s1, dp_same (rmv_to s1) bi.df, bi.ro, bi.bx.prj, fun r x hr hx g => bi.bx.gb r x hr hx fun n => pb_wider (fun z hz => inB_wider (by have := great_ge (b : Int); omega) hz) n r x (g n), fun l hl => ?_⟩
            have := (bi.small l hl).1
            have := bi.so.few
            omega
        · rintro σ' H2 ⟨y2, lv, Lz, X0, rfl, s2, dlv, ro, pj, gb, l5⟩
          obtain ⟨la, lvs, rfl, hLa, lall⟩ := lst_of dlv
          have to2 : Same (rmv H2 ll) H2 := rmv_same fun b' o _ e => e
          have hLa2 := to2.seq hLa
          have ll' := mapD_len lall
          have lLz := ro.len
          have lR := so.rm.few
          have hl2 := s2 _ _ cc.hl
          refine ⟨_, rfl, la, rfl, ⟨_, hLa2⟩, fun D nD => ?_⟩
          have sD := same_upd (o := .lst []) nD
          have nDl : D ≠ ll := (ne_of_none hl2 nD).symm
          refine lc_list (K := K) (a := la) (xs := lvs) (fun j H3 => Same H2 H3 ∧ ∃ ps, H3 D = some (.lst ps) ∧ DpAll K (rmv (rmv H3 ll) D) ps (((Lz.take j).map fun l => l.filter (inB (some (b : Int)))).map stsD)) ⟨sD, [], upd_same, .nil⟩ (fun j H3 _ ⟨s3', _⟩ => s3'.seq hLa2) ?_ ?_
          · rintro j v H3 hj ⟨s3', ps, hD, dps⟩
            obtain ⟨l, hl0, dl⟩ := mapD_get lall hj
            have ml := List.mem_of_getElem? hl0
            have jl := (List.getElem?_eq_some_iff.mp hl0).1
            have c0 := ro.can j l hl0
            have lp := mapD_len dps
            simp only [List.length_map, List.length_take] at lp
            refine ⟨rfl, ?_⟩
            refine ⟨_, rfl, _, rfl, v, (b : Int), l, rfl, dp_same (to2.trans s3') dl, fun t ht => ok4_len (c0.ok t ht), l5 l ml, fun q4 H4 qs s4 nq hq dq => ?_⟩
            have hD4 := s4 _ _ hD
            have hl4 := s4 _ _ (s3' _ _ hl2)
            have nqD : q4 ≠ D := (ne_of_none hD nq).symm
            have nql : q4 ≠ ll := (ne_of_none (s3' _ _ hl2) nq).symm
            refine ⟨ps, hD4, small_line (by omega), fun b' o e => ?_, ps ++ [.ref q4], upd_same, ?_⟩
            · rw [upd_ne (ne_of_none e nD)]
              exact s4 _ _ (s3' _ _ e)
            · rw [take_snoc hl0, List.map_append (l₁ := Lz.take j)]
              have fr : Same (rmv (rmv H3 ll) D) (rmv (rmv (upd H4 D (.lst (ps ++ [.ref q4]))) ll) D) := rmv_rmv fun b' o n e => by
                obtain ⟨n2, e⟩ := rmv_some e
                rw [rmv_ne n2, upd_ne n]
                exact s4 _ _ e
              refine dpAll_app1 (dpAll_same fr dps) (.lst (SqL.of (xs := qs) (by rw [rmv_ne nqD, rmv_ne nql, upd_ne nqD]; exact hq)) ?_)
              have d1 := dpAll_kp (kp_upd D H4 (.lst (ps ++ [.ref q4]))) hD4 dq (noLAll_map noL_way _)
              have d2 := dpAll_kp (rmv_kp (upd H4 D (.lst (ps ++ [.ref q4]))) ll) (by rw [upd_ne nDl.symm]; exact hl4) d1 (noLAll_map noL_way _)
              exact dpAll_kp (rmv_kp _ D) (by rw [rmv_ne nDl]; exact upd_same) d2 (noLAll_map noL_way _)
          rintro H3 ⟨s3', ps, hD, dps⟩
          rw [ll', List.take_length] at dps
          have s03 := s2.trans s3'
          have hp3 := s03 _ _ hp
          have to3 : Same (rmv H3 ll) H3 := rmv_same fun b' o _ e => e
          have dr3 := dp_same (rmv_to s03) cc.dr
          have dD : Dp K (rmv H3 ll) (.ref D) (lvD (Lz.map fun l => l.filter (inB (some (b : Int))))) := .lst (SqL.of (by rw [rmv_ne nDl]; exact hD)) (dpAll_same (rmv_same fun b' o _ e => e) dps)
          refine ⟨_, rfl, _, rfl, p, C, dx, _, _, rfl, hp3, T.cl, T.nR, cf_rooms _ _ _ _, _, rfl, p, C, dx, _, _, rfl, hp3, T.cl, T.nK, cf_kinds _ _ _ _, _, rfl, fun x dy nx ndy nex => ?_⟩
          have si := same_ins2 (C := CB) nx ndy
          refine ⟨x, dy, .ref D, rv, kd, b, z1, z2, z3, R, rfl, upd_same, dp_same (to3.trans si) dr3, so, fun H6 k6 h6 => ⟨rfl, ?_⟩⟩
          have s36 : Same H3 H6 := fun b' o e => k6 _ _ (si _ _ e) (ne_of_none e nx)
          have s06 := s03.trans s36
          have hb6 := s06 _ _ hb
          have nxH : H x = none := s03.free nx
          have nxb : x ≠ bb := (ne_of_none (s03 _ _ hb) nx).symm
          obtain ⟨pk1, pk2⟩ := putK_new (kvs := kvs) (k := .inl (b : Int)) (v := .ref x) ev
          refine ⟨_, rfl, p, C, dx, _, _, rfl, s06 _ _ hp, T.cl, T.nB, cf_boxes _ _ _ _, _, rfl, bb, _, rfl, DPut.k (k := .inl (b : Int)) hb6 (small_line (by omega)), ?_⟩
          rw [pk1]
          have kb := kp_upd bb H6 (.dK (kvs ++ [(.inl (b : Int), .ref x)]))
          have bnew : BoxIn K CB H6 x dy ll us (.ref D) false rv kd b z1 z2 z3 R (Lz.map fun l => l.filter (inB (some (b : Int)))) (XB (b : Int) X0) ((z1 * (z2 * z3) * R.length : Nat) : Int) := by
            refine ⟨h6, s06 _ _ cc.hl, dp_same (rmv_to s36) dD, dp_same (rmv_to s36) dr3, so, f5, sq, ⟨by rw [List.length_map]; exact lLz, fun r l hl => ?_⟩, xb_box (by omega) so.k1 so.k4 pj gb, fun e => nomatch e⟩
            rw [List.getElem?_map] at hl
            obtain ⟨l0, h0, rfl⟩ := Option.map_eq_some_iff.mp hl
            exact xb_canon (ro.can r l0 h0)
          refine ⟨_, _, _, x, _, rfl, fun b' o e n => ?_, ?_, ⟨upd_same, fun kk v m => ?_, fun k1 k2 v m1 m2 => ?_⟩, pk2, .inl nxH, by rw [List.length_append]; exact Nat.le_refl _, fun kk v m => (List.mem_append.mp m).imp id fun m => (Prod.mk.inj (List.mem_singleton.mp m)).2⟩
          · rw [upd_ne n]
            exact s06 _ _ e
          · rw [upd_ne nbp]
            exact s06 _ _ hp
          · rcases List.mem_append.mp m with m | m
            · obtain ⟨b', p', dx', fv, st, t1, t2, t3, L, X, left, ek, ev', bi⟩ := bs.bx kk v m
              exact ⟨b', p', dx', fv, st, t1, t2, t3, L, X, left, ek, ev', (bi.same s06).kd kb hb6⟩
            · obtain ⟨rfl, rfl⟩ := Prod.mk.inj (List.mem_singleton.mp m)
              exact ⟨b, x, dy, _, _, _, _, _, _, _, _, rfl, rfl, bnew.kd kb hb6⟩
          · have old : ∀ kk, (kk, v) ∈ kvs → v ≠ .ref x := fun kk m e => by
              obtain ⟨_, p', _, _, _, _, _, _, _, _, _, _, ev', bi⟩ := bs.bx kk v m
              rw [e] at ev'
              cases ev'
              have := bi.hp
              rw [nxH] at this
              cases this
            rcases List.mem_append.mp m1 with m1 | m1
            · rcases List.mem_append.mp m2 with m2 | m2
              · exact bs.inj _ _ _ m1 m2
              · exact absurd (Prod.mk.inj (List.mem_singleton.mp m2)).2 (old _ m1)
            · rcases List.mem_append.mp m2 with m2 | m2
              · exact absurd (Prod.mk.inj (List.mem_singleton.mp m1)).2 (old _ m2)
              · rw [(Prod.mk.inj (List.mem_singleton.mp m1)).1, (Prod.mk.inj (List.mem_singleton.mp m2)).1]
    · rintro σ' H' ⟨y2, y3, y4, q0, kvs', rfl, k', hp', bs', ev, nw, lk', nm⟩
      refine ⟨_, rfl, p, C, dx, _, _, rfl, hp', T.cl, T.nB, cf_boxes _ _ _ _, _, rfl, bb, .ref q0, rfl, ?_, q q0 H' kvs' k' bs' ev nw lk' nm⟩
      have := DGet.k (k := .inl (b : Int)) bs'.hb
      rw [ev] at this
      exact this
end
/-! ### within a box -/
def sChWithin : Stmt := inClass sChart 2
/-- all stays but the dict of boxes and the boxes in it -/
def Kb (bb : Addr) (kvs : List (Key × V)) (H H' : Hp) : Prop := ∀ b o, H b = some o → b ≠ bb → (∀ k, (k, V.ref b) ∉ kvs) → H' b = some o
def bxMu (st : Bool) (left : Int) (L : List (List (List Int))) : Nat := if st = true then 0 else if left ≤ 0 then 1 else 2 * left.toNat + (if L.all List.isEmpty = true then 0 else 1) + 1
theorem all_empty : ∀ {L : List (List (List Int))}, L.all List.isEmpty = true ↔ ∀ l ∈ L, l = [] := fun {L} => by
  rw [List.all_eq_true]
  exact forall_congr' fun l => forall_congr' fun _ => List.isEmpty_iff
theorem empty_same {L M : List (List (List Int))} (h : L.length = M.length) (hL : ∀ l ∈ L, l = []) (hM : ∀ l ∈ M, l = []) : L = M := by
  refine List.ext_getElem h fun i h1 h2 => ?_
  rw [hL _ (List.getElem_mem h1), hM _ (List.getElem_mem h2)]
theorem bxMu_less {st' : Bool} {left left' : Int} {L L' : List (List (List Int))} (len : L'.length = L.length) (h : st' = false → 0 < left ∧ ((left' < left) ∨ (left' = left ∧ L' ≠ L ∧ ∀ l ∈ L', l = []))) : bxMu st' left' L' < bxMu false left L := by
  have pos : 1 ≤ bxMu false left L := by
    unfold bxMu
    rw [if_neg (by decide)]
    split <;> omega
  cases st' with
  | true => exact pos
  | false =>
    obtain ⟨l0, h⟩ := h rfl
    have e : bxMu false left L = 2 * left.toNat + (if L.all List.isEmpty = true then 0 else 1) + 1 := by
      unfold bxMu
      rw [if_neg (by decide), if_neg (by omega)]
    rw [e]
    rcases h with h | ⟨rfl, ne, emp⟩
    · unfold bxMu
      rw [if_neg (by decide)]
      split
      · omega
      · split <;> split <;> omega
    · have nz : ¬ L.all List.isEmpty = true := fun z => ne (empty_same len emp (all_empty.mp z))
      unfold bxMu
      rw [if_neg (by decide), if_neg (by omega), if_neg nz, if_pos (all_empty.mpr emp)]
      omega
def spChWithin (K : PySem.W.Frag) (C CB : Addr) : Sp := fun vs H Q _ => ∃ (p dx : Addr) (rv : V) (ll bb : Addr) (kd : Nat) (R : Rooms) (us : List V) (Ls : List (List (List (List Int)))) (b s1 s2 s3 : Nat) (kvs : List (Key × V)),
  vs = [.ref p, .int (b : Int)] ∧ ChartIn K C H p dx rv ll bb kd R us Ls ∧ BxSt K CB H bb ll us rv kd R kvs ∧ StOk kd b s1 s2 s3 R ∧ s1 * (s2 * s3) * 5 < 4096 ∧ s1 * (s2 * s3) * (s1 * (s2 * s3) + 1) < 4096 ∧ FewP none R (Ls.length - 1) ∧ kvs.length ≤ 1000 ∧
  ∀ (v : V) (H' : Hp) (kvs' : List (Key × V)) (L : List (List (List Int))), Kb bb kvs H H' → BxSt K CB H' bb ll us rv kd R kvs' → kvs'.length ≤ kvs.length + 1 → Dp K (rmv H' ll) v (lvD L) → RowOk R.length (GB (b : Int) R) L → (∀ l ∈ L, l.length ≤ 4096) → Q v H'
section
variable {P : Program} {w : World} {K : PySem.W.Frag} {mg : Str → Option Value} {base : Heap}
theorem scChWithin : FnScope ["self", "b", "box"] ["self", "b"] (defScope sChWithin) := ⟨rfl, rfl, rfl, by decide +kernel, rfl, by decide +kernel, by decide +kernel⟩
theorem ok_chWithin {f fB fG C CB : Addr} {fd dB dG : FuncData} {k : Nat} (F : Fun K "within" "Chart.within" sChWithin f fd) (T : ChTxt K C) (TB : BxTxt K CB)
    (GB' : FnOk P w K mg base CX0 (k + 6) fB dB ["self", "b"] (spChBox K C CB)) (mB : Meth K C "_box" fB) (bB : Binds K dB ["self", "b"] [])
    (GG : FnOk P w K mg base CX0 (k + 6) fG dG ["self"] (spBxGo K CB)) (mG : Meth K CB "go_on" fG) (bG : Binds K dG ["self"] []) : FnOk P w K mg base CX0 (k + 7) f fd ["self", "b"] (spChWithin K C CB) := by
  refine F.ok scChWithin (fun vs H Q E h => ?_) (fun cdv A outer s0 H vs Q E hr h => ?_)
  · obtain ⟨p, dx, rv, ll, bb, kd, R, us, Ls, b, s1, s2, s3, kvs, rfl, _⟩ := h
    rfl
  · obtain ⟨p, dx, rv, ll, bb, kd, R, us, Ls, b, z1, z2, z3, kvs, rfl, cc, bs, so, f5, sq, fw, lk, q⟩ := h
    refine ⟨_, pss_cons (ps_set (i := 2) scChWithin.nd rfl (.inl rfl) (pe_meth (pv 0) T.cl mB GB' hr bB .nil pass0 (pa_cons (pv 1) pa_nil)))
      (pss_cons (ps_while PassesOwn.never (pt_not (pt_val (pe_fld (pv 2) rfl)))
        (pss_one (ps_expr (pe_meth0 (pv 2) TB.cl mG GG hr bG .nil pass0))))
      (pss_one (ps_ret (pe_fld (pv 2) rfl)))), ?_⟩
    refine ⟨_, rfl, p, dx, _, rfl, cc.hp, cf_no _ _ _ _ (by decide +kernel) (by decide +kernel) (by decide +kernel) (by decide +kernel), _, rfl, ?_⟩
    refine ⟨p, dx, rv, ll, bb, kd, R, us, Ls, b, z1, z2, z3, kvs, rfl, cc, bs, so, f5, sq, fw, lk, fun q0 H1 kvs1 k1 bs1 ev nw lk1 _ => ?_⟩
    obtain ⟨b', p0, dy, fv0, st0, t1, t2, t3, L0, X0, left0, ek, ep, bi⟩ := bs1.bx _ _ (valV_mem ev)
    cases ep
    have eb : b = b' := by
      have := Sum.inl.inj ek
      omega
    subst eb
    refine ⟨fun t σ H2 => ∃ (fv : V) (st : Bool) (L : List (List (List Int))) (X : Nat → List Int → Prop) (left : Int), σ = [some (.ref p), some (.int (b : Int)), some (.ref q0)] ∧ Kp q0 H1 H2 ∧ BoxIn K CB H2 q0 dy ll us fv st rv kd b t1 t2 t3 R L X left ∧ t = bxMu st left L, ⟨_, fv0, st0, L0, X0, left0, rfl, Kp.refl _ _, bi, rfl⟩, ?_⟩
    rintro t σ H2 ⟨fv, st, L, X, left, rfl, k2, b2, rfl⟩
    refine ⟨_, rfl, q0, CB, dy, _, _, rfl, b2.hp, TB.cl, TB.nS, bg_settled _ _ _ _ _ _, st, rfl, ?_⟩
    cases st with
    | true =>
      refine ifF rfl ?_
      refine ⟨_, rfl, q0, CB, dy, _, _, rfl, b2.hp, TB.cl, TB.nF, bg_found _ _ _ _ _ _, ?_⟩
      have nb : bb ≠ q0 := fun e => by
        have h1 := bs1.hb
        rw [e, bi.hp] at h1
        cases h1
      refine q fv H2 kvs1 L (fun b' o e n n2 => ?_) ⟨k2 _ _ bs1.hb nb, fun kk v m => ?_, bs1.inj⟩ lk1 b2.df (b2.st rfl) fun l hl => ?_
      · have e1 := k1 _ _ e n
        refine k2 _ _ e1 fun z => ?_
        subst z
        rcases nw with z | ⟨kk, z⟩
        · rw [e] at z
          cases z
        · exact n2 kk z
      · obtain ⟨b'', p', dx', fv', st', u1, u2, u3, L', X', left', ek', ev', bi'⟩ := bs1.bx kk v m
        by_cases z : p' = q0
        · subst z
          have e2 := bs1.inj _ _ _ (valV_mem ev) (by rw [← ev']; exact m)
          exact ⟨b, p', dy, fv, true, t1, t2, t3, L, X, left, e2.symm, ev', b2⟩
        · exact ⟨b'', p', dx', fv', st', u1, u2, u3, L', X', left', ek', ev', bi'.kp k2 bi.hp z⟩
      · have := (b2.small l hl).1
        have := b2.so.few
        omega
    | false =>
      refine ifT rfl ⟨fun σ' H' => ∃ m', m' < bxMu false left L ∧ ∃ (fv : V) (st : Bool) (L : List (List (List Int))) (X : Nat → List Int → Prop) (left : Int), σ' = [some (.ref p), some (.int (b : Int)), some (.ref q0)] ∧ Kp q0 H1 H' ∧ BoxIn K CB H' q0 dy ll us fv st rv kd b t1 t2 t3 R L X left ∧ m' = bxMu st left L, fun _ _ z => z, ?_⟩
      refine ⟨_, rfl, q0, dy, _, rfl, b2.hp, by rw [bf_get]; rfl, ?_⟩
      refine ⟨q0, dy, ll, us, fv, rv, kd, b, t1, t2, t3, R, L, X, left, rfl, b2, fun H3 fv' st' L' X' left' k3 b3 less => ?_⟩
      exact ⟨_, bxMu_less (b3.ro.len.trans b2.ro.len.symm) less, fv', st', L', X', left', rfl, k2.trans k3, b3, rfl⟩
end
/-! ### within_there, by way of the chart -/
def sWithinThere : Stmt := topS 37
def spWithinThere (K : PySem.W.Frag) : Sp := fun vs H Q _ => ∃ (y : V) (P : Rooms) (kd b s1 s2 s3 : Nat), vs = [y, .int (b : Int)] ∧ Dp K H y (planD kd P) ∧ PlOk P kd ∧ StOk kd b s1 s2 s3 (R4 P) ∧ s1 * (s2 * s3) * 5 < 4096 ∧ s1 * (s2 * s3) * (s1 * (s2 * s3) + 1) < 4096 ∧
  ∀ (q : Addr) (H' : Hp) (as : List Addr) (L : List (List (List Int))), Same H H' → H q = none → H' q = some (.lst (as.map V.ref)) → as.length = L.length → as.Nodup → q ∉ as → RowOk P.length (GB (b : Int) (R4 P)) L → (∀ l ∈ L, l.length ≤ s1 * (s2 * s3)) →
    (∀ (i : Nat) (a : Addr) (l : List (List Int)), as[i]? = some a → L[i]? = some l → H a = none ∧ ∃ ps, H' a = some (.lst ps) ∧ DpAll K H' ps ((l.map fun x => x.take kd).map wayD)) → Q (.ref q) H'
/-- where the class and its methods stand -/
structure WtFns (P : Program) (w : World) (K : PySem.W.Frag) (mg : Str → Option Value) (base : Heap) (k : Nat) (C CB fi fw ft : Addr) (di dw dt : FuncData) : Prop where
  T : ChTxt K C
  M : Mk K C fi
  gC : mg "Chart" = some (.ref C)
  GI : FnOk P w K mg base CX0 (k + 2) fi di ["self", "plan"] (spChInit K C)
  bI : Binds K di ["self", "plan"] []
  GW : FnOk P w K mg base CX0 (k + 7) fw dw ["self", "b"] (spChWithin K C CB)
  mW : Meth K C "within" fw
  bW : Binds K dw ["self", "b"] []
  GT : FnOk P w K mg base CX0 (k + 1) ft dt ["self", "lists"] (spChTold K C)
  mT : Meth K C "told" ft
  bT : Binds K dt ["self", "lists"] []
theorem PlOk.rkd {P : Rooms} {kd : Nat} (o : PlOk P kd) : RKd kd (R4 P) := fun l hl a ha p hp => by
  obtain ⟨l0, h0, rfl⟩ := List.mem_map.mp hl
  obtain ⟨a0, h1, rfl⟩ := List.mem_map.mp ha
  obtain ⟨p0, h2, rfl⟩ := List.mem_map.mp hp
  exact ⟨p0.1, (o.pair l0 h0 a0 h1 p0 h2).1, rfl⟩
section
variable {P : Program} {w : World} {K : PySem.W.Frag} {mg : Str → Option Value} {base : Heap}
theorem scWithinThere : FnScope ["plan", "b", "chart"] ["plan", "b"] (defScope sWithinThere) := ⟨rfl, rfl, rfl, by decide +kernel, rfl, by decide +kernel, by decide +kernel⟩
theorem ok_withinThere {f C CB fi fw ft : Addr} {fd di dw dt : FuncData} {k : Nat} (F : Fun K "within_there" "within_there" sWithinThere f fd) (c : WtFns P w K mg base k C CB fi fw ft di dw dt) : FnOk P w K mg base CX0 (k + 8) f fd ["plan", "b"] (spWithinThere K) := by
  refine F.ok scWithinThere (fun vs H Q E h => ?_) (fun cdv A outer s0 H vs Q E hr h => ?_)
  · obtain ⟨y, P, kd, b, s1, s2, s3, rfl, _⟩ := h
    rfl
  · obtain ⟨y, P, kd, b, z1, z2, z3, rfl, dy, o, so, f5, sq, q⟩ := h
    have h1 : Room (k + 1) _ := hr.mono (by omega)
    have h3 : Room (k + 3) _ := hr.mono (by omega)
    refine ⟨_, pss_cons (ps_set (i := 2) scWithinThere.nd rfl (.inl rfl) (pe_make c.M c.GI h3 rfl c.gC c.bI .nil pass0 (pa_cons (pv 0) pa_nil)))
      (pss_one (ps_ret (pe_meth (pv 2) c.T.cl c.mT c.GT h1 c.bT .nil pass0 (pa_cons (pe_meth (pv 2) c.T.cl c.mW c.GW hr c.bW .nil pass0 (pa_cons (pv 1) pa_nil)) pa_nil)))), ?_⟩
    refine ⟨_, rfl, fun x dx nx ndx nex => ?_⟩
    have s0 := same_ins2 (C := C) nx ndx
    refine ⟨x, dx, y, P, kd, rfl, upd_same, dp_same s0 dy, o, fun H1 rv ll bb us k1 nll nbb hbb cc => ⟨rfl, ?_⟩⟩
    have nbb0 : H bb = none := s0.free nbb
    have s1 : Same H H1 := fun b' o e => k1 _ _ (s0 _ _ e) (ne_of_none e nx)
    have nxb : x ≠ bb := fun e => by
      have h := cc.hp
      rw [e, hbb] at h
      cases h
    refine ⟨_, rfl, x, dx, _, rfl, cc.hp, cf_no _ _ _ _ (by decide +kernel) (by decide +kernel) (by decide +kernel) (by decide +kernel), ?_⟩
    refine ⟨_, rfl, x, dx, _, rfl, cc.hp, cf_no _ _ _ _ (by decide +kernel) (by decide +kernel) (by decide +kernel) (by decide +kernel), _, rfl, ?_⟩
    refine ⟨x, dx, rv, ll, bb, kd, R4 P, us, _, b, z1, z2, z3, [], rfl, cc, ⟨hbb, fun k v m => (nomatch m), fun k1 k2 v m => (nomatch m)⟩, so, f5, sq, fun j hj => absurd hj (Nat.not_lt_zero j), Nat.zero_le _, fun v H2 kvs' M k2 bs2 _ dM rM lM => ?_⟩
    have s2 : Same H H2 := fun b' o e => k2 _ _ (s1 _ _ e) (ne_of_none e nbb0) (fun k m => nomatch m)
    have hp2 := k2 _ _ cc.hp nxb (fun k m => nomatch m)
    have toL : Same (rmv H2 ll) H2 := rmv_same fun b o _ e => e
    have e : (R4 P).length = P.length := List.length_map ..
    have cols : ∀ l ∈ M, l.length ≤ z1 * (z2 * z3) := fun l hl => by
      obtain ⟨r, hr⟩ := List.mem_iff_getElem?.mp hl
      have gx := gb_box (b := (b : Int)) so.k1 so.k4 so.rk
      exact (canon_cols so.sdOk (rM.can r l hr) (gx.prj r) (gx.clip r)).1
    refine ⟨x, dx, rv, ll, bb, kd, v, M, rfl, hp2, dp_same toL dM, o.k4, o.k1, by have := rM.len; have := o.few; omega, fun l hl => ⟨by have := lM l hl; omega, fun t ht => by
      obtain ⟨r, hr⟩ := List.mem_iff_getElem?.mp hl
      exact ok4_len ((rM.can r l hr).ok t ht)⟩, fun qn H3 as s3 nq hq las nd nqa all => ?_⟩
    exact q qn H3 as M (s2.trans s3) (s2.free nq) hq las nd nqa (by rw [e] at rM; exact rM) cols fun i a l hi hl => ⟨s2.free (all i a l hi hl).1, (all i a l hi hl).2⟩
end
/-- what lasts within a rim, told in two ways -/
theorem pb_lb {b : Int} {A : Asks} (b0 : 0 ≤ b) {lb : Nat → List Int → Prop} (z0 : ∀ x, lb 0 x) (step : ∀ n x, lb (n + 1) x ↔ ∃ z, Ok4 z ∧ le4 z x = true ∧ InB (some b) z ∧ ∀ a ∈ A, ∃ w ∈ a, Ok4 (add4 z w) ∧ lb n (add4 z w)) (mono : ∀ n x y, lb n x → le4 x y = true → lb n y) (down : ∀ n x, lb (n + 1) x → lb n x) :
    ∀ (n : Nat) (x : List Int), Ok4 x → (lb n x ↔ PB (some b) (oneR A) n 0 x)
  | 0, x, _ => ⟨fun _ => True.intro, fun _ => z0 x⟩
  | n + 1, x, hx => by
    have ih := pb_lb b0 z0 step mono down n
    constructor
    · intro h
      refine ⟨(ih x hx).mp (down n x h), fun a ha => ?_⟩
      rw [roomAt_one] at ha
      obtain ⟨a0, h0, rfl⟩ := List.mem_map.mp ha
      obtain ⟨z, oz, lz, iz, all⟩ := (step n x).mp h
      obtain ⟨w, mw, o1, l1⟩ := all a0 h0
      exact ⟨z, oz, lz, iz, (w, 0), List.mem_map.mpr ⟨w, mw, rfl⟩, o1, (ih _ o1).mp l1⟩
    · rintro ⟨_, h⟩
      have oc := clip_ok (t1 := b) (t2 := b) (t3 := b) (t4 := b) hx b0 b0 b0 b0
      refine (step n x).mpr ⟨_, oc.1, oc.2, fun r e => ?_, fun a ha => ?_⟩
      · cases e
        obtain ⟨c, d, e, f, rfl, _⟩ := hx
        show le4 [min b c, min b d, min b e, min b f] _ = true
        exact le4_iff.mpr ⟨by omega, by omega, by omega, by omega⟩
      · obtain ⟨z, oz, lz, iz, p, mp, o1, q⟩ := h (a.map fun w => (w, 0)) (by rw [roomAt_one]; exact List.mem_map.mpr ⟨a, ha, rfl⟩)
        obtain ⟨w, mw, rfl⟩ := List.mem_map.mp mp
        obtain ⟨o2, l2⟩ := add4_le (le4_in lz iz) o1
        exact ⟨w, mw, o2, mono n _ _ ((ih _ o1).mpr q) l2⟩
/-! ### least_within of a house -/
def sLeastW : Stmt := topS 44
def spLeastW (K : PySem.W.Frag) : Sp := fun vs H Q _ => ∃ (x : V) (h : Asks) (kd b s1 s2 s3 : Nat), vs = [x, .int (b : Int)] ∧ Dp K H x (houseD h) ∧ HsOk h kd ∧ StOk kd b s1 s2 s3 (R4 (planOf h)) ∧ s1 * (s2 * s3) * 5 < 4096 ∧ s1 * (s2 * s3) * (s1 * (s2 * s3) + 1) < 4096 ∧
  ∀ (q : Addr) (H' : Hp) (ps : List V) (M : List (List Int)), Same H H' → H q = none → H' q = some (.lst ps) → DpAll K H' ps ((M.map fun x => x.take kd).map wayD) → Canon M (GB (b : Int) (oneR (asks4 h)) 0) → M.length ≤ s1 * (s2 * s3) → Q (.ref q) H'
section
variable {P : Program} {w : World} {K : PySem.W.Frag} {mg : Str → Option Value} {base : Heap}
theorem scLeastW : FnScope ["house", "b"] ["house", "b"] (defScope sLeastW) := ⟨rfl, rfl, rfl, by decide +kernel, rfl, by decide +kernel, by decide +kernel⟩
theorem ok_leastW {f fP fW : Addr} {fd fdP fdW : FuncData} {k : Nat} (F : Fun K "least_within" "least_within" sLeastW f fd)
    (GP : FnOk P w K mg base CX0 (k + 8) fP fdP ["house"] (spPlanOf K)) (kP : PySem.W.keepIn K (.ref fP) = true) (bP : Binds K fdP ["house"] []) (gP : mg "plan_of" = some (.ref fP))
    (GW : FnOk P w K mg base CX0 (k + 8) fW fdW ["plan", "b"] (spWithinThere K)) (kW : PySem.W.keepIn K (.ref fW) = true) (bW : Binds K fdW ["plan", "b"] []) (gW : mg "within_there" = some (.ref fW)) : FnOk P w K mg base CX0 (k + 9) f fd ["house", "b"] (spLeastW K) := by
  refine F.ok scLeastW (fun vs H Q E h => ?_) (fun cdv A outer s0 H vs Q E hr h => ?_)
  · obtain ⟨x, h, kd, b, s1, s2, s3, rfl, _⟩ := h
    rfl
  · obtain ⟨x, h, kd, b, z1, z2, z3, rfl, hx, o, so, f5, sq, q⟩ := h
    refine ⟨_, pss_one (ps_ret (pe_ix ix_list (pe_call GW hr (by rfl) gW kW bW .nil pass0 (pa_cons (pe_call GP hr (by rfl) gP kP bP .nil pass0 (pa_cons (pv 0) pa_nil)) (pa_cons (pv 1) pa_nil))) pe_int (fun _ _ => rfl))), ?_⟩
    refine ⟨_, rfl, x, h, kd, rfl, hx, o, fun v H1 s1 dv => ⟨_, rfl, v, planOf h, kd, b, z1, z2, z3, rfl, dv, o.plan, so, f5, sq, fun qn H2 as L s2 nq hq las nd nqa ro lens all => ?_⟩⟩
    have lL := ro.len
    have l1 : (planOf h).length = 1 := rfl
    obtain ⟨a0, ea⟩ : ∃ a0, as = [a0] := by
      match as, las with
      | [a], _ => exact ⟨a, rfl⟩
      | [], e => exact absurd e (by rw [lL, l1]; decide)
      | _ :: _ :: _, e => exact absurd e (by rw [lL, l1]; simp)
    subst ea
    obtain ⟨l0, hl0, c0⟩ := ro.at (show 0 < (planOf h).length from Nat.one_pos)
    obtain ⟨na, ps, ha, dps⟩ := all 0 a0 l0 rfl hl0
    rw [r4_one] at c0
    exact ⟨qn, _, 0, .ref a0, rfl, rfl, SqL.of hq, rfl, q a0 H2 ps l0 (s1.trans s2) (s1.free na) ha dps c0 (lens l0 (List.mem_of_getElem? hl0))⟩
end
/-! ### above of a house -/
def sAbove : Stmt := topS 45
def spAboveW (K : PySem.W.Frag) : Sp := fun vs H Q _ => ∃ (x y : V) (h : Asks) (kd b s1 s2 s3 : Nat) (s : List Int), vs = [x, .int (b : Int), y] ∧ Dp K H x (houseD h) ∧ HsOk h kd ∧ StOk kd b s1 s2 s3 (R4 (planOf h)) ∧ s1 * (s2 * s3) * 5 < 4096 ∧ s1 * (s2 * s3) * (s1 * (s2 * s3) + 1) < 4096 ∧ Dp K H y (wayD s) ∧ s.length = kd ∧ (∀ z ∈ s, 0 ≤ z) ∧
  ∀ (q : Addr) (H' : Hp) (ps : List V) (M : List (List Int)), Same H H' → H q = none → H' q = some (.lst ps) → DpAll K H' ps ((M.map fun x => x.take kd).map wayD) → Canon M (fun z => le4 (four s) z = true ∧ GB (b : Int) (oneR (asks4 h)) 0 z) → M.length ≤ s1 * (s2 * s3) → Q (.ref q) H'
section
variable {P : Program} {w : World} {K : PySem.W.Frag} {mg : Str → Option Value} {base : Heap}
theorem scAbove : FnScope ["house", "b", "store", "stores", "one"] ["house", "b", "store"] (defScope sAbove) := ⟨rfl, rfl, rfl, by decide +kernel, rfl, by decide +kernel, by decide +kernel⟩
theorem ok_above {f fW fF fL fJ fK : Addr} {fd fdW fdF fdL fdJ fdK : FuncData} {k : Nat} (F : Fun K "above" "above" sAbove f fd)
    (GW : FnOk P w K mg base CX0 (k + 9) fW fdW ["house", "b"] (spLeastW K)) (kW : PySem.W.keepIn K (.ref fW) = true) (bW : Binds K fdW ["house", "b"] []) (gW : mg "least_within" = some (.ref fW))
    (GF : FnOk P w K mg base CX0 (k + 9) fF fdF ["numbers"] (spInFour K)) (kF : PySem.W.keepIn K (.ref fF) = true) (bF : Binds K fdF ["numbers"] []) (gF : mg "in_four" = some (.ref fF))
    (GL : FnOk P w K mg base CX0 (k + 9) fL fdL ["stores"] (spLeastOf K)) (kL : PySem.W.keepIn K (.ref fL) = true) (bL : Binds K fdL ["stores"] []) (gL : mg "least_of" = some (.ref fL))
    (GJ : FnOk P w K mg base CX0 (k + 9) fJ fdJ ["store", "stores"] (spNeeded K join4)) (kJ : PySem.W.keepIn K (.ref fJ) = true) (bJ : Binds K fdJ ["store", "stores"] []) (gJ : mg "joined" = some (.ref fJ))
    (GK : FnOk P w K mg base CX0 (k + 9) fK fdK ["house"] (spKindsOf K)) (kK : PySem.W.keepIn K (.ref fK) = true) (bK : Binds K fdK ["house"] []) (gK : mg "kinds_of" = some (.ref fK)) : FnOk P w K mg base CX0 (k + 10) f fd ["house", "b", "store"] (spAboveW K) := by
  refine F.ok scAbove (fun vs H Q E h => ?_) (fun cdv A outer s0 H vs Q E hr h => ?_)
  · obtain ⟨x, y, h, kd, b, s1, s2, s3, s, rfl, _⟩ := h
    rfl
  · obtain ⟨x, y, h, kd, b, z1, z2, z3, s, rfl, hx, o, so, f5, sq, hy, ls, s0', q⟩ := h
    refine ⟨_, pss_cons (ps_setLc (i := 3) (own := [("one", 4)]) (g := gName 4) (tt := tYes) (te := tCall (spInFour K) [] E0 (tCons (tVar 4) tNil)) rfl scAbove.nd rfl rfl (sw_true rfl rfl rfl (by decide +kernel)) (pi_list (pe_call GW hr (by rfl) gW kW bW .nil pass0 (pa_cons (pv 0) (pa_cons (pv 1) pa_nil))))
          (blkOk_by (N := ["house", "b", "store", "stores", "one"]) (sc := defScope sAbove) (by decide +kernel))
          (fun _ _ _ _ _ => by exact pg_name (i := 4) scAbove.nd rfl (.inl rfl)) (fun _ _ _ _ _ => pts_nil)
          (fun _ _ _ _ _ => by exact pe_call GF hr (by rfl) gF kF bF .nil pass0 (pa_cons (pv 4) pa_nil)))
      (pss_one (ps_ret (pe_lc (own := [("one", 4)]) (g := gName 4) (tt := tYes) rfl scAbove.nd (pi_list (pe_call GL hr (by rfl) gL kL bL .nil pass0 (pa_cons (pe_call GJ hr (by rfl) gJ kJ bJ .nil pass0 (pa_cons (pe_call GF hr (by rfl) gF kF bF .nil pass0 (pa_cons (pv 2) pa_nil)) (pa_cons (pv 3) pa_nil))) pa_nil)))
          (blkOk_by (N := ["house", "b", "store", "stores", "one"]) (sc := defScope sAbove) (by decide +kernel))
          (fun _ _ _ _ _ => by exact pg_name (i := 4) scAbove.nd rfl (.inl rfl)) (fun _ _ _ _ _ => pts_nil)
          (fun _ _ _ _ _ => by exact pe_slice (r := rSlN K) sl_tupN (pv 4) po_none (po_some (pe_call GK hr (by rfl) gK kK bK .nil pass0 (pa_cons (pv 0) pa_nil))))))), ?_⟩
    have k1 := so.k1
    have k4 := so.k4
    have fewN := so.few
    have gx := gb_box (b := (b : Int)) so.k1 so.k4 so.rk
    rw [r4_one] at gx
    refine ⟨_, rfl, _, rfl, x, h, kd, b, z1, z2, z3, rfl, hx, o, so, f5, sq, fun q1 H1 ps1 M s1 nq1 hq1 d1 can lM => ⟨q1, rfl, ⟨_, SqL.of hq1⟩, fun D nD => ?_⟩⟩
    have sD := same_upd (o := .lst []) nD
    have lp1 := sts_len d1
    rw [List.length_map] at lp1
    have pj := canon_prj can k1 k4 (gx.prj 0)
    refine lc_list (K := K) (a := q1) (xs := ps1) (fun j H2 => Same H1 H2 ∧ ∃ ps, H2 D = some (.lst ps) ∧ DpAll K H2 ps ((M.take j).map wayD)) ⟨sD, [], upd_same, .nil⟩ (fun j H2 _ ⟨s2, _⟩ => SqL.of (s2 _ _ hq1)) ?_ ?_
    · rintro j v H2 hj ⟨s2, ps, hD, dps⟩
      obtain ⟨t, ht, dv⟩ := sts_get d1 hj
      rw [List.getElem?_map] at ht
      obtain ⟨m, hm, rfl⟩ := Option.map_eq_some_iff.mp ht
      have mm := List.mem_of_getElem? hm
      have m4 := ok4_len (can.ok m mm)
      have jl := (List.getElem?_eq_some_iff.mp hm).1
      have lp := sts_len dps
      rw [List.length_take] at lp
      refine ⟨rfl, ?_⟩
      refine ⟨_, rfl, v, m.take kd, rfl, dp_same s2 dv, by rw [List.length_take]; omega, by rw [List.length_take]; omega, fun v' H3 s3 dv' => ?_⟩
      have e : four (m.take kd) = m := pj m mm
      rw [e] at dv'
      have hD3 := s3 _ _ hD
      refine ⟨ps, hD3, small_line (by omega), fun b' o' e' => ?_, ps ++ [v'], upd_same, ?_⟩
      · rw [upd_ne (ne_of_none e' nD)]
        exact s3 _ _ (s2 _ _ e')
      · rw [take_snoc hm, List.map_append]
        exact dpAll_put hD3 (dpAll_app (dpAll_same s3 dps) (.cons dv' .nil)) (noL_app _ [m])
    · rintro H2 ⟨s2, ps, hD, dps⟩
      rw [lp1, List.take_length] at dps
      have s02 := s1.trans s2
      have ok4s : Ok4 (four s) := four_ok (by omega) (by omega) s0'
      refine ⟨_, rfl, y, s, rfl, dp_same s02 hy, by omega, by omega, fun v4 H3 s3 d4 => ⟨_, rfl, v4, .ref D, four s, M, rfl, d4, dp_same s3 (.lst (SqL.of hD) dps), ok4_len ok4s, fun t ht => ok4_len (can.ok t ht), by omega, fun q4 H4 ps4 s4 nq4 hq4 d5 => ?_⟩⟩
      refine ⟨.ref q4, M.map (join4 (four s)), rfl, .lst (SqL.of hq4) d5, fun t ht => ?_, by rw [List.length_map]; omega, fun q5 H5 ps5 N s5 nq5 hq5 d6 cN lN => ?_⟩
      · obtain ⟨m, mm, rfl⟩ := List.mem_map.mp ht
        exact join4_ok ok4s (can.ok m mm)
      have s05 := ((s02.trans s3).trans s4).trans s5
      refine ⟨q5, rfl, ⟨_, SqL.of hq5⟩, fun G nG => ?_⟩
      have sG := same_upd (o := .lst []) nG
      have lp5 := sts_len d6
      rw [List.length_map] at lN
      have cU : Canon N (fun z => le4 (four s) z = true ∧ GB (b : Int) (oneR (asks4 h)) 0 z) := cN.congr fun z hz => by
        constructor
        · rintro ⟨t, ht, le⟩
          obtain ⟨m, mm, rfl⟩ := List.mem_map.mp ht
          obtain ⟨l1, l2⟩ := (join4_le ok4s (can.ok m mm) hz).mp le
          exact ⟨l1, (can.up z hz).mp ⟨m, mm, l2⟩⟩
        · rintro ⟨l1, g⟩
          obtain ⟨m, mm, l2⟩ := (can.up z hz).mpr g
          exact ⟨_, List.mem_map.mpr ⟨m, mm, rfl⟩, (join4_le ok4s (can.ok m mm) hz).mpr ⟨l1, l2⟩⟩
      refine lc_list (K := K) (a := q5) (xs := ps5) (fun j H6 => Same H5 H6 ∧ ∃ ps, H6 G = some (.lst ps) ∧ DpAll K H6 ps (((N.take j).map fun x => x.take kd).map wayD)) ⟨sG, [], upd_same, .nil⟩ (fun j H6 _ ⟨s6, _⟩ => SqL.of (s6 _ _ hq5)) ?_ ?_
      · rintro j v H6 hj ⟨s6, ps, hG, dps⟩
        obtain ⟨t, ht, dv⟩ := sts_get d6 hj
        obtain ⟨ta, rfl, hT⟩ := way_of dv
        have jl := (List.getElem?_eq_some_iff.mp ht).1
        have t4 := ok4_len (cN.ok t (List.mem_of_getElem? ht))
        have lp := sts_len dps
        rw [List.length_map, List.length_take] at lp
        refine ⟨rfl, ?_⟩
        refine ⟨_, rfl, _, rfl, x, h, kd, rfl, dp_same (s05.trans s6) hx, o, ?_⟩
        refine ⟨_, rfl, ta, _, rfl, s6.seqT hT, fun c H7 s7 hc => ?_⟩
        rw [cut_take (by omega)] at hc
        have hG7 := s7 _ _ hG
        refine ⟨ps, hG7, small_line (by omega), fun b' o' e' => ?_, ps ++ [.ref c], upd_same, ?_⟩
        · rw [upd_ne (ne_of_none e' nG)]
          exact s7 _ _ (s6 _ _ e')
        · rw [take_snoc ht, List.map_append, List.map_append]
          exact dpAll_put hG7 (dpAll_app (dpAll_same s7 dps) (.cons (of_way hc) .nil)) (noL_app _ [t.take kd])
      · rintro H6 ⟨s6, ps, hG, dps⟩
        rw [lp5, List.take_length] at dps
        exact q G H6 ps N (s05.trans s6) ((s05.trans (Same.refl _)).free nG) hG dps cU (by omega)
end
/-! ### what a stand lasts within a box, by the boxes of the chart -/
def sChLW : Stmt := inClass sChart 3
/-- all stays but instances and dicts -/
def KD (H H' : Hp) : Prop := ∀ b o, H b = some o → (∀ kvs, o ≠ .dK kvs) → (∀ C dx fs, o ≠ .ins C dx fs) → H' b = some o
theorem KD.seq {K : PySem.W.Frag} {a : Addr} {H H' : Hp} {xs : List V} (e : KD H H') (h : SqL K H a xs) : SqL K H' a xs := by
  rcases h with (h | ⟨o, h⟩) | h
  · exact .inl (.inl (e _ _ h (fun _ z => nomatch z) fun _ _ _ z => nomatch z))
  · exact .inl (.inr ⟨o, e _ _ h (fun _ z => nomatch z) fun _ _ _ z => nomatch z⟩)
  · exact .inr h
theorem KD.seqT {K : PySem.W.Frag} {a : Addr} {H H' : Hp} {xs : List V} (e : KD H H') (h : SqT K H a xs) : SqT K H' a xs := by
  rcases h with (h | ⟨o, h⟩) | h
  · exact .inl (.inl (e _ _ h (fun _ z => nomatch z) fun _ _ _ z => nomatch z))
  · exact .inl (.inr ⟨o, e _ _ h (fun _ z => nomatch z) fun _ _ _ z => nomatch z⟩)
  · exact .inr h
mutual
theorem dp_KD {K : PySem.W.Frag} {H H' : Hp} (s : KD H H') : ∀ {v : V} {d : PyData}, Dp K H v d → Dp K H' v d
  | _, _, .non => .non
  | _, _, .bl b => .bl b
  | _, _, .int i => .int i
  | _, _, .str x => .str x
  | _, _, .lst q r => .lst (s.seq q) (dpAll_KD s r)
  | _, _, .tup q r => .tup (s.seqT q) (dpAll_KD s r)
theorem dpAll_KD {K : PySem.W.Frag} {H H' : Hp} (s : KD H H') : ∀ {v : List V} {d : List PyData}, DpAll K H v d → DpAll K H' v d
  | _, _, .nil => .nil
  | _, _, .cons q r => .cons (dp_KD s q) (dpAll_KD s r)
end
theorem KD.rmv {H H' : Hp} (k : KD H H') (a : Addr) : KD (My.rmv H a) (My.rmv H' a) := fun b o e n1 n2 => by
  obtain ⟨n, e⟩ := rmv_some e
  rw [rmv_ne n]
  exact k b o e n1 n2
theorem Kp.toKD {H H' : Hp} {p C dx : Addr} {fs : List (Str × V)} (k : Kp p H H') (h : H p = some (.ins C dx fs)) : KD H H' := fun b o e _ n2 => k b o e fun z => by
  rw [z, h] at e
  exact n2 _ _ _ (Option.some.inj e).symm
theorem _root_.L2.Same.toKD {H H' : Hp} (s : Same H H') : KD H H' := fun b o e _ _ => s b o e
theorem KD.trans {H H1 H2 : Hp} (a : KD H H1) (b : KD H1 H2) : KD H H2 := fun c o e n1 n2 => b c o (a c o e n1 n2) n1 n2
/-- each entry was there, or is of an address that was free -/
def BxNew (H : Hp) (kvs kvs' : List (Key × V)) : Prop := ∀ k a, (k, V.ref a) ∈ kvs' → (∃ k', (k', V.ref a) ∈ kvs) ∨ H a = none
theorem BxNew.refl (H : Hp) (kvs : List (Key × V)) : BxNew H kvs kvs := fun k _ m => .inl ⟨k, m⟩
theorem Kb.refl (bb : Addr) (kvs : List (Key × V)) (H : Hp) : Kb bb kvs H H := fun _ _ e _ _ => e
theorem Kb.trans {bb : Addr} {kvs kvs1 : List (Key × V)} {H H1 H2 : Hp} (a : Kb bb kvs H H1) (n : BxNew H kvs kvs1) (b : Kb bb kvs1 H1 H2) : Kb bb kvs H H2 := fun c o e n1 n2 => b c o (a c o e n1 n2) n1 fun k m => by
  rcases n k c m with ⟨k', m'⟩ | z
  · exact n2 k' m'
  · rw [e] at z
    cases z
theorem BxNew.trans {bb : Addr} {kvs kvs1 kvs2 : List (Key × V)} {H H1 : Hp} (a : BxNew H kvs kvs1) (k : Kb bb kvs H H1) (hb : ∃ o, H bb = some o) (b : BxNew H1 kvs1 kvs2) (nb : ∀ k, (k, V.ref bb) ∉ kvs2) : BxNew H kvs kvs2 := fun kk c m => by
  rcases b kk c m with ⟨k', m'⟩ | z
  · exact a k' c m'
  · by_cases h : ∃ k', (k', V.ref c) ∈ kvs
    · exact .inl h
    · refine .inr ?_
      cases e : H c with
      | none => rfl
      | some o =>
        have nc : c ≠ bb := fun e => nb kk (by rw [← e]; exact m)
        rw [k c o e nc fun k' m' => h ⟨k', m'⟩] at z
        cases z
section
variable {K : PySem.W.Frag} {C CB : Addr} {H H' : Hp} {p dx bb ll : Addr} {us : List V} {rv : V} {kd : Nat} {R : Rooms} {kvs : List (Key × V)} {Ls : List (List (List (List Int)))}
theorem BxSt.no_bb (bs : BxSt K CB H bb ll us rv kd R kvs) : ∀ k, (k, V.ref bb) ∉ kvs := fun k m => by
  obtain ⟨_, p, _, _, _, _, _, _, _, _, _, _, ev, bi⟩ := bs.bx _ _ m
  cases ev
  have := bi.hp
  rw [bs.hb] at this
  cases this
theorem Kb.toKD (bs : BxSt K CB H bb ll us rv kd R kvs) (k : Kb bb kvs H H') : KD H H' := fun b o e n1 n2 => k b o e (fun z => by
    rw [z, bs.hb] at e
    exact n1 _ (Option.some.inj e).symm) fun kk m => by
  obtain ⟨_, p, _, _, _, _, _, _, _, _, _, _, ev, bi⟩ := bs.bx _ _ m
  cases ev
  rw [bi.hp] at e
  exact n2 _ _ _ (Option.some.inj e).symm
theorem cf_len (kd : Nat) (rv : V) (ll bb : Addr) : (cf kd rv ll bb).lookup ("found" : Str) = none := cf_no _ _ _ _ (by decide +kernel) (by decide +kernel) (by decide +kernel) (by decide +kernel)
theorem ChartIn.nbox (c : ChartIn K C H p dx rv ll bb kd R us Ls) (bs : BxSt K CB H bb ll us rv kd R kvs) : p ≠ bb ∧ ∀ k, (k, V.ref p) ∉ kvs := by
  refine ⟨fun e => ?_, fun k m => ?_⟩
  · have := c.hp
    rw [e, bs.hb] at this
    cases this
  · obtain ⟨_, p', _, fv, _, _, _, _, _, _, _, _, ev, bi⟩ := bs.bx _ _ m
    cases ev
    have h := bi.hp
    rw [c.hp] at h
    obtain ⟨_, _, h⟩ := HO.ins.inj (Option.some.inj h)
    have h1 := cf_len kd rv ll bb
    rw [h, bg_found] at h1
    cases h1
theorem ChartIn.kb (c : ChartIn K C H p dx rv ll bb kd R us Ls) (bs : BxSt K CB H bb ll us rv kd R kvs) (k : Kb bb kvs H H') : ChartIn K C H' p dx rv ll bb kd R us Ls := by
  obtain ⟨n1, n2⟩ := c.nbox bs
  have kd' := k.toKD bs
  exact ⟨k _ _ c.hp n1 n2, kd' _ _ c.hl (fun _ z => nomatch z) (fun _ _ _ z => nomatch z), dpAll_KD (kd'.rmv ll) c.dl, dp_KD (kd'.rmv ll) c.dr, c.one, c.lv⟩
theorem bx_go {q0 dy : Addr} {H1 H2 : Hp} {fv0 fv : V} {st0 st : Bool} {b t1 t2 t3 : Nat} {L0 L : List (List (List Int))} {X0 X : Nat → List Int → Prop} {left0 left : Int} (bs : BxSt K CB H1 bb ll us rv kd R kvs) (ev : valV kvs (.inl (b : Int)) = some (.ref q0))
    (bi : BoxIn K CB H1 q0 dy ll us fv0 st0 rv kd b t1 t2 t3 R L0 X0 left0) (k : Kp q0 H1 H2) (b2 : BoxIn K CB H2 q0 dy ll us fv st rv kd b t1 t2 t3 R L X left) : BxSt K CB H2 bb ll us rv kd R kvs := by
  have nb : bb ≠ q0 := fun e => by
    have h1 := bs.hb
    rw [e, bi.hp] at h1
    cases h1
  refine ⟨k _ _ bs.hb nb, fun kk v m => ?_, bs.inj⟩
  obtain ⟨b'', p', dx', fv', st', u1, u2, u3, L', X', left', ek', ev', bi'⟩ := bs.bx kk v m
  by_cases z : p' = q0
  · subst z
    have e2 := bs.inj _ _ _ (valV_mem ev) (by rw [← ev']; exact m)
    exact ⟨b, p', dy, fv, st, t1, t2, t3, L, X, left, e2.symm, ev', b2⟩
  · exact ⟨b'', p', dx', fv', st', u1, u2, u3, L', X', left', ek', ev', bi'.kp k bi.hp z⟩
end
/-- so far as a box may be asked for -/
structure BxAsk (kd b s1 s2 s3 : Nat) (R : Rooms) : Prop where
  so : StOk kd b s1 s2 s3 R
  f5 : s1 * (s2 * s3) * 5 < 4096
  sq : s1 * (s2 * s3) * (s1 * (s2 * s3) + 1) < 4096
/-- n: how deep it may go: to a great box, or from any -/
def spChLW (K : PySem.W.Frag) (C CB : Addr) (n : Nat) : Sp := fun vs H Q _ => ∃ (p dx : Addr) (rv : V) (ll bb : Addr) (kd : Nat) (R : Rooms) (us : List V) (Ls : List (List (List (List Int)))) (b r : Nat) (y : V) (s : List Int) (kvs : List (Key × V)),
  vs = [.ref p, y, .int (b : Int)] ∧ (n = 1 ∧ greatOf (b : Int) = b ∨ 2 ≤ n ∧ n ≤ 50) ∧ ChartIn K C H p dx rv ll bb kd R us Ls ∧ BxSt K CB H bb ll us rv kd R kvs ∧ (∀ c : Nat, (c = b ∨ (c : Int) = greatOf (b : Int)) → ∃ s1 s2 s3, BxAsk kd c s1 s2 s3 R) ∧ FewP none R (Ls.length - 1) ∧ kvs.length ≤ 900 ∧
  Dp K H y (standD r s) ∧ r < R.length ∧ 1 ≤ s.length ∧ s.length ≤ 4 ∧ (∀ z ∈ s, 0 ≤ z) ∧
  ∀ (res : Bool) (H' : Hp) (kvs' : List (Key × V)), Kb bb kvs H H' → BxSt K CB H' bb ll us rv kd R kvs' → BxNew H kvs kvs' → kvs'.length ≤ kvs.length + n → (res = true ↔ GB (b : Int) R r (four s)) → Q (.bl res) H'
section
variable {P : Program} {w : World} {K : PySem.W.Frag} {mg : Str → Option Value} {base : Heap}
theorem scChLW : FnScope ["self", "stand", "b", "great", "room", "store", "there", "box"] ["self", "stand", "b"] (defScope sChLW) := ⟨rfl, rfl, rfl, by decide +kernel, rfl, by decide +kernel, by decide +kernel⟩
theorem ok_chLW {f fB fG fI fC fN C CB : Addr} {fd dB dG fdI fdC fdN : FuncData} {k : Nat} (F : Fun K "lasts_within" "Chart.lasts_within" sChLW f fd) (T : ChTxt K C) (TB : BxTxt K CB) (mW : Meth K C "lasts_within" f) (bW : Binds K fd ["self", "stand", "b"] [])
    (GB' : FnOk P w K mg base CX0 (k + 6) fB dB ["self", "b"] (spChBox K C CB)) (mB : Meth K C "_box" fB) (bB : Binds K dB ["self", "b"] [])
    (GG : FnOk P w K mg base CX0 (k + 6) fG dG ["self"] (spBxGo K CB)) (mG : Meth K CB "go_on" fG) (bG : Binds K dG ["self"] [])
    (GI : FnOk P w K mg base CX0 (k + 6) fI fdI ["numbers"] (spInFour K)) (kI : PySem.W.keepIn K (.ref fI) = true) (bI : Binds K fdI ["numbers"] []) (gI : mg "in_four" = some (.ref fI))
    (GC : FnOk P w K mg base CX0 (k + 6) fC fdC ["store", "stores"] (spCovOne K)) (kC : PySem.W.keepIn K (.ref fC) = true) (bC : Binds K fdC ["store", "stores"] []) (gC : mg "covers_one" = some (.ref fC))
    (GN : FnOk P w K mg base CX0 (k + 6) fN fdN ["b"] (spGreat K)) (kN : PySem.W.keepIn K (.ref fN) = true) (bN : Binds K fdN ["b"] []) (gN : mg "next_great" = some (.ref fN)) : ∀ n, FnOk P w K mg base CX0 (k + 6 + n) f fd ["self", "stand", "b"] (spChLW K C CB n)
  | 0 => F.ok scChLW (fun vs H Q E h => by obtain ⟨_, _, _, _, _, _, _, _, _, _, _, _, _, _, _, ⟨h, _⟩ | h, _⟩ := h <;> omega) (fun cdv A outer s H vs Q E hr h => by obtain ⟨_, _, _, _, _, _, _, _, _, _, _, _, _, _, _, ⟨h, _⟩ | h, _⟩ := h <;> omega)
  | n + 1 => by
    have GW : FnOk P w K mg base CX0 (k + 6 + n) f fd ["self", "stand", "b"] (spChLW K C CB n) := ok_chLW F T TB mW bW GB' mB bB GG mG bG GI kI bI gI GC kC bC gC GN kN bN gN n
    refine F.ok scChLW (fun vs H Q E h => ?_) (fun cdv A outer s0 H vs Q E hr h => ?_)
    · obtain ⟨p, dx, rv, ll, bb, kd, R, us, Ls, b, r, y, s, kvs, rfl, _⟩ := h
      rfl
    · obtain ⟨p, dx, rv, ll, bb, kd, R, us, Ls, b, r, y, s, kvs, rfl, dep, cc, bs, asks, fw, lk, dy, rR, t1, t4, t0, q⟩ := h
      have h6 : Room (k + 6) _ := hr.mono (Nat.le_add_right (k + 6) n)
      refine ⟨_, pss_cons (ps_set (i := 3) scChLW.nd rfl (.inl rfl) (pe_call GN h6 (by rfl) gN kN bN .nil pass0 (pa_cons (pv 2) pa_nil)))
        (pss_cut (ps_if (PW.pt (pw_and (pt_cmpR op_gt (pv 3) (pv 2) (nomark _)) (pw_and1 (pt_not (pt_val (pe_meth (pv 0) T.cl mW GW hr bW .nil pass0 (pa_cons (pv 1) (pa_cons (pv 3) pa_nil)))))))) (pss_one (ps_ret pe_bl)) pss_nil)
        (pss_cons (ps_asg (pv 1) (pg_tup (by rfl) (pgs_cons (pg_name (i := 4) scChLW.nd rfl (.inl rfl)) (pgs_cons (pg_name (i := 5) scChLW.nd rfl (.inl rfl)) pgs_nil))))
        (pss_cons (ps_set (i := 6) scChLW.nd rfl (.inl rfl) (pe_call GI h6 (by rfl) gI kI bI .nil pass0 (pa_cons (pv 5) pa_nil)))
        (pss_cons (ps_set (i := 7) scChLW.nd rfl (.inl rfl) (pe_meth (pv 0) T.cl mB GB' h6 bB .nil pass0 (pa_cons (pv 2) pa_nil)))
        (pss_cons (ps_while PassesOwn.never (pt_val (pe_call GC h6 (by rfl) gC kC bC .nil pass0 (pa_cons (pv 6) (pa_cons (pe_ix ix_list (pe_fld (pv 7) rfl) (pv 4) (fun _ _ => rfl)) pa_nil))))
          (pss_cons (ps_if (pt_val (pe_fld (pv 7) rfl)) (pss_one (ps_ret pe_bl)) pss_nil)
          (pss_one (ps_expr (pe_meth0 (pv 7) TB.cl mG GG h6 bG .nil pass0)))))
        (pss_one (ps_ret pe_bl))))))), ?_⟩
      have ok4 := four_ok t1 t4 t0
      have gge := great_ge (b : Int)
      refine ⟨_, rfl, (b : Int), rfl, fun H1 sN => ?_⟩
      have cc1 := cc.same sN
      have bs1 : BxSt K CB H1 bb ll us rv kd R kvs := ⟨sN _ _ bs.hb, fun kk v m => by
        obtain ⟨b', p', dx', fv, st, u1, u2, u3, L, X, left, ek, ev, bi⟩ := bs.bx kk v m
        exact ⟨b', p', dx', fv, st, u1, u2, u3, L, X, left, ek, ev, bi.same sN⟩, bs.inj⟩
      have dy1 := dp_same sN dy
      have kN1 : Kb bb kvs H H1 := fun b o e _ _ => sN b o e
      refine ⟨fun σ' H' => ∃ kvs', σ' = [some (.ref p), some y, some (.int (b : Int)), some (.int (greatOf (b : Int))), none, none, none, none] ∧ Kb bb kvs H H' ∧ BxSt K CB H' bb ll us rv kd R kvs' ∧ BxNew H kvs kvs' ∧ kvs'.length ≤ kvs.length + n, ?_, ?_⟩
      · refine ⟨_, rfl, _, rfl, _, _, rfl, rfl, _, rfl, ite2 (fun gt => ?_) fun le => ?_⟩
        · have gt : (b : Int) < greatOf (b : Int) := of_decide_eq_true gt
          obtain ⟨g, eg⟩ : ∃ g : Nat, greatOf (b : Int) = (g : Int) := ⟨(greatOf (b : Int)).toNat, by omega⟩
          have tw := great_twice (b : Int)
          refine ⟨_, rfl, p, dx, _, rfl, cc1.hp, cf_no _ _ _ _ (by decide +kernel) (by decide +kernel) (by decide +kernel) (by decide +kernel), _, rfl, _, rfl, ?_⟩
          refine ⟨p, dx, rv, ll, bb, kd, R, us, Ls, g, r, y, s, kvs, by rw [eg]; rfl, ?_, cc1, bs1, fun c hc => asks c (.inr ?_), fw, lk, dy1, rR, t1, t4, t0, fun res H2 kvs2 k2 bs2 nw2 l2 iff => ?_⟩
          · rw [← eg, tw]
            rcases dep with ⟨_, e⟩ | ⟨d, d50⟩
            · omega
            · by_cases n1 : n = 1
              · exact .inl ⟨n1, rfl⟩
              · exact .inr ⟨by omega, by omega⟩
          · rcases hc with rfl | hc
            · exact eg.symm
            · rw [hc, ← eg, tw]
          · refine ⟨_, rfl, ?_⟩
            cases res with
            | true =>
              refine ifF rfl ⟨kvs2, rfl, kN1.trans (BxNew.refl _ _) k2, bs2, BxNew.trans (BxNew.refl _ _) kN1 ⟨_, bs.hb⟩ nw2 bs2.no_bb, l2⟩
            | false =>
              refine ifT rfl ?_
              refine q false H2 kvs2 (kN1.trans (BxNew.refl _ _) k2) bs2 (BxNew.trans (BxNew.refl _ _) kN1 ⟨_, bs.hb⟩ nw2 bs2.no_bb) (by omega) ⟨fun z => (nomatch z), fun gb => ?_⟩
              refine iff.mpr fun m => ?_
              rw [← eg]
              exact pb_wider (fun z hz => inB_wider gge hz) m r _ (gb m)
        · exact ⟨kvs, rfl, kN1, bs1, BxNew.refl _ _, by omega⟩
      · rintro σ' H2 ⟨kvs2, rfl, k2, bs2, nw2, l2⟩
        have cc2 := cc.kb bs k2
        have dy2 := dp_KD (k2.toKD bs) dy
        obtain ⟨z1, z2, z3, so, f5, sq⟩ := asks b (.inl rfl)
        cases dy2 with
        | @tup ya yvs _ hY yall =>
        cases yall with
        | @cons v1 _ _ _ d1 r1 =>
        cases r1 with
        | @cons v2 _ _ _ d2 r2 =>
        cases r2
        cases d1
        refine ⟨_, rfl, ya, _, rfl, hY, rfl, _, _, rfl, _, _, rfl, rfl, ?_⟩
        refine ⟨_, rfl, v2, s, rfl, d2, t1, t4, fun tv H3 s3 dT => ?_⟩
        have cc3 := cc2.same s3
        have bs3 : BxSt K CB H3 bb ll us rv kd R kvs2 := ⟨s3 _ _ bs2.hb, fun kk v m => by
          obtain ⟨b', p', dx', fv, st, u1, u2, u3, L, X, left, ek, ev, bi⟩ := bs2.bx kk v m
          exact ⟨b', p', dx', fv, st, u1, u2, u3, L, X, left, ek, ev, bi.same s3⟩, bs2.inj⟩
        have k3 : Kb bb kvs H H3 := fun b o e n1 n2 => s3 _ _ (k2 b o e n1 n2)
        refine ⟨_, rfl, p, dx, _, rfl, cc3.hp, cf_no _ _ _ _ (by decide +kernel) (by decide +kernel) (by decide +kernel) (by decide +kernel), _, rfl, ?_⟩
        refine ⟨p, dx, rv, ll, bb, kd, R, us, Ls, b, z1, z2, z3, kvs2, rfl, cc3, bs3, so, f5, sq, fw, by rcases dep with ⟨d, _⟩ | ⟨d, _⟩ <;> omega, fun q0 H4 kvs4 k4 bs4 ev nw lk4 nm => ?_⟩
        obtain ⟨b', p0, dyy, fv0, st0, u1, u2, u3, L0, X0, left0, ek, ep, bi⟩ := bs4.bx _ _ (valV_mem ev)
        cases ep
        obtain rfl : b = b' := by
          have := Sum.inl.inj ek
          omega
        have k4b : Kb bb kvs2 H3 H4 := fun b o e n1 _ => k4 b o e n1
        have nw4 : BxNew H3 kvs2 kvs4 := fun kk a m => by
          rcases nm kk _ m with m | e
          · exact .inl ⟨_, m⟩
          · cases e
            exact nw.symm
        have k04 : Kb bb kvs H H4 := k3.trans nw2 k4b
        have nw04 : BxNew H kvs kvs4 := nw2.trans k3 ⟨_, bs.hb⟩ nw4 bs4.no_bb
        have dT4 := dp_KD (k4b.toKD bs3) dT
        have nq0 : ∀ b o, H b = some o → b ≠ bb → (∀ k, (k, V.ref b) ∉ kvs) → b ≠ q0 := fun b o e n1 n2 z => by
          subst z
          rcases nw04 _ _ (valV_mem ev) with ⟨k', m'⟩ | z
          · exact n2 k' m'
          · rw [e] at z
            cases z
        refine ⟨fun t σ H5 => ∃ (fv : V) (st : Bool) (L : List (List (List Int))) (X : Nat → List Int → Prop) (left : Int), σ = [some (.ref p), some (.ref ya), some (.int (b : Int)), some (.int (greatOf (b : Int))), some (.int (r : Int)), some v2, some tv, some (.ref q0)] ∧ Kp q0 H4 H5 ∧ BoxIn K CB H5 q0 dyy ll us fv st rv kd b u1 u2 u3 R L X left ∧ t = bxMu st left L,
          ⟨_, fv0, st0, L0, X0, left0, rfl, Kp.refl _ _, bi, rfl⟩, ?_⟩
        rintro t σ H5 ⟨fv, st, L, X, left, rfl, k5, b5, rfl⟩
        have dT5 := dp_KD (k5.toKD bi.hp) dT4
        obtain ⟨l, hl, cl⟩ := b5.ro.at rR
        have toL : Same (rmv H5 ll) H5 := rmv_same fun b o _ e => e
        obtain ⟨fa, fvs, rfl, hF, fall⟩ := lst_of (dp_same toL b5.df)
        obtain ⟨lv, hlv, dlv⟩ := mapD_at fall hl
        refine ⟨_, rfl, _, rfl, q0, CB, dyy, _, _, rfl, b5.hp, TB.cl, TB.nF, bg_found _ _ _ _ _ _, _, rfl, fa, fvs, (r : Int), lv, rfl, rfl, hF, atI_nat hlv, ?_⟩
        refine ⟨tv, lv, four s, l, rfl, dT5, dlv, ok4_len ok4, fun t ht => ok4_len (cl.ok t ht), fun H6 s6 => ?_⟩
        have k6 : Kp q0 H4 H6 := k5.same s6
        have b6 := b5.same s6
        have fin : ∀ res : Bool, (res = true ↔ GB (b : Int) R r (four s)) → Q (.bl res) H6 := fun res iff =>
          q res H6 kvs4 (fun b o e n1 n2 => k6 _ _ (k04 b o e n1 n2) (nq0 b o e n1 n2)) (bx_go bs4 ev bi k6 b6) nw04 (by omega) iff
        refine ⟨_, rfl, ?_⟩
        cases an : anyLe (four s) l with
        | false =>
          refine ifF rfl (fin false ⟨fun z => (nomatch z), fun gb => ?_⟩)
          have up := (cl.up _ ok4).mpr (b5.bx.gb r _ rR ok4 gb)
          have := anyLe_iff.mpr up
          rw [an] at this
          exact this
        | true =>
          have up := anyLe_iff.mp an
          refine ifT rfl ⟨fun σ' H' => ∃ m', m' < bxMu st left L ∧ ∃ (fv : V) (st : Bool) (L : List (List (List Int))) (X : Nat → List Int → Prop) (left : Int), σ' = [some (.ref p), some (.ref ya), some (.int (b : Int)), some (.int (greatOf (b : Int))), some (.int (r : Int)), some v2, some tv, some (.ref q0)] ∧ Kp q0 H4 H' ∧ BoxIn K CB H' q0 dyy ll us fv st rv kd b u1 u2 u3 R L X left ∧ m' = bxMu st left L, fun _ _ z => z, ?_⟩
          refine ⟨_, rfl, q0, CB, dyy, _, _, rfl, b6.hp, TB.cl, TB.nS, bg_settled _ _ _ _ _ _, st, rfl, ?_⟩
          cases st with
          | true =>
            refine ifT rfl (fin true ⟨fun _ => ?_, fun _ => rfl⟩)
            have c2 := (b6.st rfl).can r l hl
            exact (c2.up _ ok4).mp up
          | false =>
            refine ifF rfl ?_
            refine ⟨_, rfl, q0, dyy, _, rfl, b6.hp, by rw [bf_get]; rfl, ?_⟩
            refine ⟨q0, dyy, ll, us, _, rv, kd, b, u1, u2, u3, R, L, X, left, rfl, b6, fun H7 fv' st' L' X' left' k7 b7 less => ?_⟩
            exact ⟨_, bxMu_less (b7.ro.len.trans b6.ro.len.symm) less, fv', st', L', X', left', rfl, k6.trans k7, b7, rfl⟩
end
/-! ### the fate of a stand -/
def sChFate : Stmt := inClass sChart 6
def sChLife : Stmt := inClass sChart 7
/-- all stays but the list of lists, the dict of boxes and the boxes in it -/
def Kq (ll bb : Addr) (kvs : List (Key × V)) (H H' : Hp) : Prop := ∀ b o, H b = some o → b ≠ ll → b ≠ bb → (∀ k, (k, V.ref b) ∉ kvs) → H' b = some o
theorem Kq.refl (ll bb : Addr) (kvs : List (Key × V)) (H : Hp) : Kq ll bb kvs H H := fun _ _ e _ _ _ => e
theorem Kq.trans {ll bb : Addr} {kvs kvs1 : List (Key × V)} {H H1 H2 : Hp} (a : Kq ll bb kvs H H1) (n : BxNew H kvs kvs1) (b : Kq ll bb kvs1 H1 H2) : Kq ll bb kvs H H2 := fun c o e n0 n1 n2 => b c o (a c o e n0 n1 n2) n0 n1 fun k m => by
  rcases n k c m with ⟨k', m'⟩ | z
  · exact n2 k' m'
  · rw [e] at z
    cases z
theorem BxNew.transQ {ll bb : Addr} {kvs kvs1 kvs2 : List (Key × V)} {H H1 : Hp} (a : BxNew H kvs kvs1) (k : Kq ll bb kvs H H1) (hl : ∃ o, H1 ll = some o) (hb : ∃ o, H1 bb = some o) (b : BxNew H1 kvs1 kvs2) : BxNew H kvs kvs2 := fun kk c m => by
  rcases b kk c m with ⟨k', m'⟩ | z
  · exact a k' c m'
  · by_cases h : ∃ k', (k', V.ref c) ∈ kvs
    · exact .inl h
    · refine .inr ?_
      cases e : H c with
      | none => rfl
      | some o =>
        have n1 : c ≠ ll := fun e => by
          obtain ⟨o, ho⟩ := hl
          rw [e, ho] at z
          cases z
        have n2 : c ≠ bb := fun e => by
          obtain ⟨o, ho⟩ := hb
          rw [e, ho] at z
          cases z
        rw [k c o e n1 n2 fun k' m' => h ⟨k', m'⟩] at z
        cases z
theorem Kp.toKq {ll bb : Addr} {kvs : List (Key × V)} {H H' : Hp} (k : Kp ll H H') : Kq ll bb kvs H H' := fun b o e n _ _ => k b o e n
theorem Kb.toKq {ll bb : Addr} {kvs : List (Key × V)} {H H' : Hp} (k : Kb bb kvs H H') : Kq ll bb kvs H H' := fun b o e _ n m => k b o e n m
theorem _root_.L2.Same.toKq {ll bb : Addr} {kvs : List (Key × V)} {H H' : Hp} (k : Same H H') : Kq ll bb kvs H H' := fun b o e _ _ _ => k b o e
/-- a chart and its boxes -/
structure ChSt (K : PySem.W.Frag) (C CB : Addr) (H : Hp) (p dx : Addr) (rv : V) (ll bb : Addr) (kd : Nat) (R : Rooms) (us : List V) (Ls : List (List (List (List Int)))) (kvs : List (Key × V)) : Prop where
  c : ChartIn K C H p dx rv ll bb kd R us Ls
  b : BxSt K CB H bb ll us rv kd R kvs
section
variable {K : PySem.W.Frag} {C CB : Addr} {H H' : Hp} {p dx bb ll : Addr} {us us' : List V} {rv : V} {kd : Nat} {R : Rooms} {kvs kvs' : List (Key × V)} {Ls Ls' : List (List (List (List Int)))}
theorem BxSt.same (bs : BxSt K CB H bb ll us rv kd R kvs) (s : Same H H') : BxSt K CB H' bb ll us rv kd R kvs := ⟨s _ _ bs.hb, fun kk v m => by
  obtain ⟨b', p', dx', fv, st, u1, u2, u3, L, X, left, ek, ev, bi⟩ := bs.bx kk v m
  exact ⟨b', p', dx', fv, st, u1, u2, u3, L, X, left, ek, ev, bi.same s⟩, bs.inj⟩
theorem ChSt.same (c : ChSt K C CB H p dx rv ll bb kd R us Ls kvs) (s : Same H H') : ChSt K C CB H' p dx rv ll bb kd R us Ls kvs := ⟨c.c.same s, c.b.same s⟩
theorem ChSt.lists (c : ChSt K C CB H p dx rv ll bb kd R us Ls kvs) (k : Kp ll H H') (c' : ChartIn K C H' p dx rv ll bb kd R us' Ls') : ChSt K C CB H' p dx rv ll bb kd R us' Ls' kvs := by
  have nb : bb ≠ ll := fun e => by
    have := c.b.hb
    rw [e, c.c.hl] at this
    cases this
  exact ⟨c', k _ _ c.b.hb nb, fun kk v m => by
    obtain ⟨b', p', dx', fv, st, u1, u2, u3, L, X, left, ek, ev, bi⟩ := c.b.bx kk v m
    exact ⟨b', p', dx', fv, st, u1, u2, u3, L, X, left, ek, ev, bi.lists k c'.hl⟩, c.b.inj⟩
end
/-- the time, and whether it lasts for ever -/
structure FateAt (R : Rooms) (r : Nat) (x : List Int) (t : Nat) (res : Bool) : Prop where
  ahead : ∀ j, j < t → PB none R j r x ∧ ¬ GB (j : Int) R r x
  yes : res = true → PB none R t r x ∧ GB (t : Int) R r x
  no : res = false → ¬ PB none R t r x
/-- boxes up to so far may be asked for, and the great ones above these -/
def AskTo (kd : Nat) (R : Rooms) (n : Nat) : Prop := ∀ b : Nat, b < n → ∀ c : Nat, (c = b ∨ (c : Int) = greatOf (b : Int)) → ∃ s1 s2 s3, BxAsk kd c s1 s2 s3 R
def spChFate (K : PySem.W.Frag) (C CB : Addr) : Sp := fun vs H Q _ => ∃ (p dx : Addr) (rv : V) (ll bb : Addr) (kd : Nat) (R : Rooms) (us : List V) (Ls : List (List (List (List Int)))) (r T : Nat) (res : Bool) (y : V) (s : List Int) (kvs : List (Key × V)),
  vs = [.ref p, y] ∧ ChSt K C CB H p dx rv ll bb kd R us Ls kvs ∧ RmOk R ∧ FewP none R (max (Ls.length - 1) T) ∧ AskTo kd R (if res then T + 1 else T) ∧ T ≤ 100 ∧ Ls.length ≤ 1000 ∧ kvs.length ≤ 500 ∧
  Dp K H y (standD r s) ∧ r < R.length ∧ 1 ≤ s.length ∧ s.length ≤ 4 ∧ (∀ z ∈ s, 0 ≤ z) ∧ FateAt R r (four s) T res ∧
  ∀ (a : Addr) (H' : Hp) (us' : List V) (Ls' : List (List (List (List Int)))) (kvs' : List (Key × V)), Kq ll bb kvs H H' → ChSt K C CB H' p dx rv ll bb kd R us' Ls' kvs' → BxNew H kvs kvs' → Ls.length ≤ Ls'.length → Ls'.length ≤ max Ls.length (T + 1) → kvs'.length ≤ kvs.length + 2 * (T + 1) → (∀ o, H a = some o → a = ll ∨ a = bb ∨ ∃ k, (k, V.ref a) ∈ kvs) → H' a = some (.tup [.int (T : Int), .bl res]) → Q (.ref a) H'
def spChLife (K : PySem.W.Frag) (C CB : Addr) : Sp := fun vs H Q _ => ∃ (p dx : Addr) (rv : V) (ll bb : Addr) (kd : Nat) (R : Rooms) (us : List V) (Ls : List (List (List (List Int)))) (r T : Nat) (res : Bool) (y : V) (s : List Int) (kvs : List (Key × V)),
  vs = [.ref p, y] ∧ ChSt K C CB H p dx rv ll bb kd R us Ls kvs ∧ RmOk R ∧ FewP none R (max (Ls.length - 1) T) ∧ AskTo kd R (if res then T + 1 else T) ∧ T ≤ 100 ∧ Ls.length ≤ 1000 ∧ kvs.length ≤ 500 ∧
  Dp K H y (standD r s) ∧ r < R.length ∧ 1 ≤ s.length ∧ s.length ≤ 4 ∧ (∀ z ∈ s, 0 ≤ z) ∧ FateAt R r (four s) T res ∧
  ∀ (H' : Hp) (us' : List V) (Ls' : List (List (List (List Int)))) (kvs' : List (Key × V)), Kq ll bb kvs H H' → ChSt K C CB H' p dx rv ll bb kd R us' Ls' kvs' → BxNew H kvs kvs' → Ls.length ≤ Ls'.length → Ls'.length ≤ max Ls.length (T + 1) → kvs'.length ≤ kvs.length + 2 * (T + 1) → Q (if res then .non else .int ((T : Int) - 1)) H'
theorem noL_stand (r : Nat) (s : List Int) : noL (standD r s) = true := by
  unfold standD
  simp only [noL, noLAll, noL_way, Bool.and_true]
section
variable {P : Program} {w : World} {K : PySem.W.Frag} {mg : Str → Option Value} {base : Heap}
theorem scChFate : FnScope ["self", "stand", "room", "store", "there", "t"] ["self", "stand"] (defScope sChFate) := ⟨rfl, rfl, rfl, by decide +kernel, rfl, by decide +kernel, by decide +kernel⟩
theorem ok_chFate {f fW fL fI fC C CB : Addr} {fd fdW fdL fdI fdC : FuncData} {k : Nat} (F : Fun K "fate" "Chart.fate" sChFate f fd) (T : ChTxt K C)
    (GL : FnOk P w K mg base CX0 (k + 8) fL fdL ["self", "n"] (spChLeast K C)) (mL : Meth K C "least" fL) (bL : Binds K fdL ["self", "n"] [])
    (GW : FnOk P w K mg base CX0 (k + 8) fW fdW ["self", "stand", "b"] (spChLW K C CB 2)) (mW : Meth K C "lasts_within" fW) (bW : Binds K fdW ["self", "stand", "b"] [])
    (GI : FnOk P w K mg base CX0 (k + 8) fI fdI ["numbers"] (spInFour K)) (kI : PySem.W.keepIn K (.ref fI) = true) (bI : Binds K fdI ["numbers"] []) (gI : mg "in_four" = some (.ref fI))
    (GC : FnOk P w K mg base CX0 (k + 8) fC fdC ["store", "stores"] (spCovOne K)) (kC : PySem.W.keepIn K (.ref fC) = true) (bC : Binds K fdC ["store", "stores"] []) (gC : mg "covers_one" = some (.ref fC)) : FnOk P w K mg base CX0 (k + 9) f fd ["self", "stand"] (spChFate K C CB) := by
  refine F.ok scChFate (fun vs H Q E h => ?_) (fun cdv A outer s0 H vs Q E hr h => ?_)
  · obtain ⟨p, dx, rv, ll, bb, kd, R, us, Ls, r, T, res, y, s, kvs, rfl, _⟩ := h
    rfl
  · obtain ⟨p, dx, rv, ll, bb, kd, R, us, Ls, r, TT, res, y, s, kvs, rfl, cs, okR, fw, asks, T1, lL, lk, dy, rR, t1, t4, t0, fate, q⟩ := h
    refine ⟨_, pss_cons (ps_asg (pv 1) (pg_tup (by rfl) (pgs_cons (pg_name (i := 2) scChFate.nd rfl (.inl rfl)) (pgs_cons (pg_name (i := 3) scChFate.nd rfl (.inl rfl)) pgs_nil))))
      (pss_cons (ps_set (i := 4) scChFate.nd rfl (.inl rfl) (pe_call GI hr (by rfl) gI kI bI .nil pass0 (pa_cons (pv 3) pa_nil)))
      (pss_cons (ps_set (i := 5) scChFate.nd rfl (.inl rfl) pe_int)
      (pss_cons (ps_while PassesOwn.never (pt_val (pe_call GC hr (by rfl) gC kC bC .nil pass0 (pa_cons (pv 4) (pa_cons (pe_ix ix_list (pe_meth (pv 0) T.cl mL GL hr bL .nil pass0 (pa_cons (pv 5) pa_nil)) (pv 2) (fun _ _ => rfl)) pa_nil))))
        (pss_cons (ps_if (pt_val (pe_meth (pv 0) T.cl mW GW hr bW .nil pass0 (pa_cons (pv 1) (pa_cons (pv 5) pa_nil)))) (pss_one (ps_ret (pe_tup (pa_cons (pv 5) (pa_cons pe_bl pa_nil))))) pss_nil)
        (pss_one (ps_aug (i := 5) scChFate.nd rfl (.inl rfl) pe_int iop_add))))
      (pss_one (ps_ret (pe_tup (pa_cons (pv 5) (pa_cons pe_bl pa_nil)))))))), ?_⟩
    have ok4 := four_ok t1 t4 t0
    have dy0 := dy
    cases dy with
    | @tup ya yvs _ hY yall =>
    cases yall with
    | @cons v1 _ _ _ d1 r1 =>
    cases r1 with
    | @cons v2 _ _ _ d2 r2 =>
    cases r2
    cases d1
    refine ⟨_, rfl, ya, _, rfl, hY, rfl, _, _, rfl, _, _, rfl, rfl, ?_⟩
    refine ⟨_, rfl, v2, s, rfl, d2, t1, t4, fun tv H1 s1 dT => ?_⟩
    refine ⟨fun m σ H2 => ∃ (t : Nat) (us2 : List V) (Ls2 : List (List (List (List Int)))) (kvs2 : List (Key × V)), σ = [some (.ref p), some (.ref ya), some (.int (r : Int)), some v2, some tv, some (.int (t : Int))] ∧ Kq ll bb kvs H H2 ∧ ChSt K C CB H2 p dx rv ll bb kd R us2 Ls2 kvs2 ∧ BxNew H kvs kvs2 ∧
        Ls.length ≤ Ls2.length ∧ Ls2.length ≤ max Ls.length (t + 1) ∧ kvs2.length ≤ kvs.length + 2 * t ∧ Dp K H2 tv (wayD (four s)) ∧ Dp K H2 (.ref ya) (standD r s) ∧ t ≤ TT ∧ m = TT - t,
      ⟨TT, 0, us, Ls, kvs, rfl, s1.toKq, cs.same s1, BxNew.refl _ _, Nat.le_refl _, Nat.le_max_left _ _, by omega, dT, dp_same s1 dy0, Nat.zero_le _, rfl⟩, ?_⟩
    rintro m σ H2 ⟨t, us2, Ls2, kvs2, rfl, k2, c2, nw2, l1, l2, lk2, dT2, dy2, tT, rfl⟩
    -- the lists of t
    refine ⟨_, rfl, _, rfl, p, dx, _, rfl, c2.c.hp, cf_no _ _ _ _ (by decide +kernel) (by decide +kernel) (by decide +kernel) (by decide +kernel), _, rfl, ?_⟩
    refine ⟨p, dx, rv, ll, bb, kd, R, us2, Ls2, t, rfl, c2.c, okR, fw.le (by omega), by omega, by omega, fun v H3 us3 Ls3 M k3 cc3 g1 g2 dM rM => ?_⟩
    have c3 := c2.lists k3 cc3
    have hl2 := c2.c.hl
    have dT3 := dp_kp k3 hl2 dT2 (noL_way _)
    have dy3 := dp_kp k3 hl2 dy2 (noL_stand _ _)
    have k03 : Kq ll bb kvs H H3 := k2.trans nw2 k3.toKq
    have toL : Same (rmv H3 ll) H3 := rmv_same fun b o _ e => e
    obtain ⟨l, hl, cl⟩ := rM.at rR
    obtain ⟨fa, fvs, rfl, hF, fall⟩ := lst_of (dp_same toL dM)
    obtain ⟨lv, hlv, dlv⟩ := mapD_at fall hl
    refine ⟨_, rfl, fa, fvs, (r : Int), lv, rfl, rfl, hF, atI_nat hlv, ?_⟩
    refine ⟨tv, lv, four s, l, rfl, dT3, dlv, ok4_len ok4, fun t ht => ok4_len (cl.ok t ht), fun H4 s4 => ?_⟩
    have c4 := c3.same s4
    have k04 : Kq ll bb kvs H H4 := k03.trans nw2 s4.toKq
    have dT4 := dp_same s4 dT3
    have dy4 := dp_same s4 dy3
    have lsT : Ls3.length ≤ max Ls.length (TT + 1) := by omega
    refine ⟨_, rfl, ?_⟩
    have isP : anyLe (four s) l = true ↔ PB none R t r (four s) := anyLe_iff.trans (cl.up _ ok4)
    have ends : ∀ (b : Bool) (H5 : Hp) (us5 : List V) (Ls5 : List (List (List (List Int)))) (kvs5 : List (Key × V)), t = TT → b = res → Kq ll bb kvs H H5 → ChSt K C CB H5 p dx rv ll bb kd R us5 Ls5 kvs5 → BxNew H kvs kvs5 → Ls.length ≤ Ls5.length → Ls5.length ≤ max Ls.length (TT + 1) → kvs5.length ≤ kvs.length + 2 * (t + 1) → ∀ a, H5 a = none → Q (.ref a) (upd H5 a (.tup [.int (t : Int), .bl b])) := fun b H5 us5 Ls5 kvs5 e1 e2 k5 c5 n5 g3 g4 g5 a na => by
      subst e1 e2
      have sa := same_upd (o := .tup [V.int (t : Int), .bl b]) na
      refine q a _ us5 Ls5 kvs5 (k5.trans n5 sa.toKq) (c5.same sa) n5 g3 g4 g5 (fun o e => ?_) upd_same
      by_cases z1 : a = ll
      · exact .inl z1
      · by_cases z2 : a = bb
        · exact .inr (.inl z2)
        · by_cases m : ∃ k, (k, V.ref a) ∈ kvs
          · exact .inr (.inr m)
          · rw [k5 a o e z1 z2 fun kk m' => m ⟨kk, m'⟩] at na
            cases na
    cases an : anyLe (four s) l with
    | false =>
      have np : ¬ PB none R t r (four s) := fun h => by
        rw [isP.mpr h] at an
        cases an
      have eT : t = TT := by
        by_cases lt : t < TT
        · exact absurd (fate.ahead t lt).1 np
        · omega
      have eR : res = false := by
        cases res with
        | false => rfl
        | true => exact absurd (eT ▸ (fate.yes rfl).1) np
      refine ifF rfl ?_
      refine ⟨_, rfl, by show 2 ≤ sizeLine; decide, fun a na => ?_⟩
      exact ends false H4 us3 Ls3 kvs2 eT eR.symm k04 c4 nw2 (by omega) lsT (by omega) a na
    | true =>
      have isp := isP.mp an
      have resT : t = TT → res = true := fun e => by
        cases res with
        | true => rfl
        | false => exact absurd isp (e ▸ fate.no rfl)
      refine ifT rfl ⟨fun σ' H' => ∃ m', m' < TT - t ∧ ∃ (t : Nat) (us2 : List V) (Ls2 : List (List (List (List Int)))) (kvs2 : List (Key × V)), σ' = [some (.ref p), some (.ref ya), some (.int (r : Int)), some v2, some tv, some (.int (t : Int))] ∧ Kq ll bb kvs H H' ∧ ChSt K C CB H' p dx rv ll bb kd R us2 Ls2 kvs2 ∧ BxNew H kvs kvs2 ∧
        Ls.length ≤ Ls2.length ∧ Ls2.length ≤ max Ls.length (t + 1) ∧ kvs2.length ≤ kvs.length + 2 * t ∧ Dp K H' tv (wayD (four s)) ∧ Dp K H' (.ref ya) (standD r s) ∧ t ≤ TT ∧ m' = TT - t, fun _ _ z => z, ?_⟩
      refine ⟨_, rfl, p, dx, _, rfl, c4.c.hp, cf_no _ _ _ _ (by decide +kernel) (by decide +kernel) (by decide +kernel) (by decide +kernel), _, rfl, _, rfl, ?_⟩
      refine ⟨p, dx, rv, ll, bb, kd, R, us3, Ls3, t, r, .ref ya, s, kvs2, rfl, .inr ⟨by decide, by decide⟩, c4.c, c4.b, asks t (by
        by_cases e : t = TT
        · rw [resT e]
          show t < TT + 1
          omega
        · split <;> omega), fw.le (by omega), by omega, dy4, rR, t1, t4, t0, fun b H5 kvs5 k5 b5 nw5 l5 iff => ?_⟩
      have c5 : ChSt K C CB H5 p dx rv ll bb kd R us3 Ls3 kvs5 := ⟨c4.c.kb c4.b k5, b5⟩
      have k05 : Kq ll bb kvs H H5 := k04.trans nw2 k5.toKq
      have nw05 : BxNew H kvs kvs5 := nw2.transQ k04 ⟨_, c4.c.hl⟩ ⟨_, c4.b.hb⟩ nw5
      have kD := k5.toKD c4.b
      refine ⟨_, rfl, ?_⟩
      cases b with
      | true =>
        have gb := iff.mp rfl
        have eT : t = TT := by
          by_cases lt : t < TT
          · exact absurd gb (fate.ahead t lt).2
          · omega
        refine ifT rfl ?_
        refine ⟨_, rfl, by show 2 ≤ sizeLine; decide, fun a na => ?_⟩
        exact ends true H5 us3 Ls3 kvs5 eT (resT eT).symm k05 c5 nw05 (by omega) lsT (by omega) a na
      | false =>
        have ngb : ¬ GB (t : Int) R r (four s) := fun h => nomatch iff.mpr h
        have lt : t < TT := by
          by_cases e : t = TT
          · exact absurd (e ▸ (fate.yes (resT e)).2) ngb
          · omega
        refine ifF rfl ?_
        refine ⟨_, rfl, _, _, rfl, rfl, _, by omega, t + 1, us3, Ls3, kvs5, rfl, k05, c5, nw05, by omega, by omega, by omega, dp_KD kD dT4, dp_KD kD dy4, lt, rfl⟩
theorem scChLife : FnScope ["self", "stand", "t", "lasting"] ["self", "stand"] (defScope sChLife) := ⟨rfl, rfl, rfl, by decide +kernel, rfl, by decide +kernel, by decide +kernel⟩
theorem ok_chLife {f fF C CB : Addr} {fd fdF : FuncData} {k : Nat} (F : Fun K "life" "Chart.life" sChLife f fd) (T : ChTxt K C)
    (GF : FnOk P w K mg base CX0 (k + 9) fF fdF ["self", "stand"] (spChFate K C CB)) (mF : Meth K C "fate" fF) (bF : Binds K fdF ["self", "stand"] []) : FnOk P w K mg base CX0 (k + 10) f fd ["self", "stand"] (spChLife K C CB) := by
  refine F.ok scChLife (fun vs H Q E h => ?_) (fun cdv A outer s0 H vs Q E hr h => ?_)
  · obtain ⟨p, dx, rv, ll, bb, kd, R, us, Ls, r, T, res, y, s, kvs, rfl, _⟩ := h
    rfl
  · obtain ⟨p, dx, rv, ll, bb, kd, R, us, Ls, r, TT, res, y, s, kvs, rfl, cs, okR, fw, asks, T1, lL, lk, dy, rR, t1, t4, t0, fate, q⟩ := h
    refine ⟨_, pss_cons (ps_asg (pe_meth (pv 0) T.cl mF GF hr bF .nil pass0 (pa_cons (pv 1) pa_nil)) (pg_tup (by rfl) (pgs_cons (pg_name (i := 2) scChLife.nd rfl (.inl rfl)) (pgs_cons (pg_name (i := 3) scChLife.nd rfl (.inl rfl)) pgs_nil))))
      (pss_one (ps_ret (pe_ifExp (pt_val (pv 3)) pe_non (pe_op op_sub (pv 2) pe_int)))), ?_⟩
    refine ⟨_, rfl, p, dx, _, rfl, cs.c.hp, cf_no _ _ _ _ (by decide +kernel) (by decide +kernel) (by decide +kernel) (by decide +kernel), _, rfl, ?_⟩
    refine ⟨p, dx, rv, ll, bb, kd, R, us, Ls, r, TT, res, y, s, kvs, rfl, cs, okR, fw, asks, T1, lL, lk, dy, rR, t1, t4, t0, fate, fun a H1 us1 Ls1 kvs1 k1 c1 n1 g1 g2 g3 _ ha => ?_⟩
    refine ⟨a, _, rfl, SqT.of ha, rfl, _, _, rfl, _, _, rfl, rfl, ?_⟩
    have fin := q H1 us1 Ls1 kvs1 k1 c1 n1 g1 g2 g3
    refine ⟨_, rfl, _, rfl, ?_⟩
    cases res with
    | true => exact ifT rfl fin
    | false => exact ifF rfl ⟨_, rfl, _, _, rfl, rfl, fin⟩
end
/-! ### the life of a store of a house -/
def sLifeThere : Stmt := topS 39
def sLife : Stmt := topS 47
def spLifeThere (K : PySem.W.Frag) : Sp := fun vs H Q _ => ∃ (y z : V) (P : Rooms) (s : List Int) (kd r T : Nat) (res : Bool), vs = [y, z] ∧ Dp K H y (planD kd P) ∧ PlOk P kd ∧ FewP none (R4 P) T ∧ AskTo kd (R4 P) (if res then T + 1 else T) ∧ T ≤ 100 ∧ Dp K H z (standD r s) ∧ r < P.length ∧ 1 ≤ s.length ∧ s.length ≤ 4 ∧ (∀ z ∈ s, 0 ≤ z) ∧ FateAt (R4 P) r (four s) T res ∧
  ∀ H', Same H H' → Q (if res then .non else .int ((T : Int) - 1)) H'
def spLife (K : PySem.W.Frag) : Sp := fun vs H Q _ => ∃ (x y : V) (h : Asks) (s : List Int) (kd T : Nat) (res : Bool), vs = [x, y] ∧ Dp K H x (houseD h) ∧ Dp K H y (wayD s) ∧ HsOk h kd ∧ FewP none (oneR (asks4 h)) T ∧ AskTo kd (oneR (asks4 h)) (if res then T + 1 else T) ∧ T ≤ 100 ∧ 1 ≤ s.length ∧ s.length ≤ 4 ∧ (∀ z ∈ s, 0 ≤ z) ∧ FateAt (oneR (asks4 h)) 0 (four s) T res ∧
  ∀ H', Same H H' → Q (if res then .non else .int ((T : Int) - 1)) H'
/-- where the class and what tells a fate stand -/
structure FtFns (P : Program) (w : World) (K : PySem.W.Frag) (mg : Str → Option Value) (base : Heap) (k : Nat) (C CB fi ff fl : Addr) (di df dl : FuncData) : Prop where
  T : ChTxt K C
  M : Mk K C fi
  gC : mg "Chart" = some (.ref C)
  GI : FnOk P w K mg base CX0 (k + 2) fi di ["self", "plan"] (spChInit K C)
  bI : Binds K di ["self", "plan"] []
  GF : FnOk P w K mg base CX0 (k + 9) ff df ["self", "stand"] (spChFate K C CB)
  mF : Meth K C "fate" ff
  bF : Binds K df ["self", "stand"] []
  GL : FnOk P w K mg base CX0 (k + 10) fl dl ["self", "stand"] (spChLife K C CB)
  mL : Meth K C "life" fl
  bL : Binds K dl ["self", "stand"] []
section
variable {P : Program} {w : World} {K : PySem.W.Frag} {mg : Str → Option Value} {base : Heap}
theorem scLifeThere : FnScope ["plan", "stand"] ["plan", "stand"] (defScope sLifeThere) := ⟨rfl, rfl, rfl, by decide +kernel, rfl, by decide +kernel, by decide +kernel⟩
theorem ok_lifeThere {f C CB fi ff fl : Addr} {fd di df dl : FuncData} {k : Nat} (F : Fun K "life_there" "life_there" sLifeThere f fd) (c : FtFns P w K mg base k C CB fi ff fl di df dl) : FnOk P w K mg base CX0 (k + 11) f fd ["plan", "stand"] (spLifeThere K) := by
  refine F.ok scLifeThere (fun vs H Q E h => ?_) (fun cdv A outer s0 H vs Q E hr h => ?_)
  · obtain ⟨y, z, P, s, kd, r, T, res, rfl, _⟩ := h
    rfl
  · obtain ⟨y, z, P, s, kd, r, TT, res, rfl, dy, o, fw, asks, T1, dz, rR, t1, t4, t0, fate, q⟩ := h
    have h3 : Room (k + 3) _ := hr.mono (by omega)
    refine ⟨_, pss_one (ps_ret (pe_meth (pe_make c.M c.GI h3 rfl c.gC c.bI .nil pass0 (pa_cons (pv 0) pa_nil)) c.T.cl c.mL c.GL hr c.bL .nil pass0 (pa_cons (pv 1) pa_nil))), ?_⟩
    refine ⟨_, rfl, fun x dx nx ndx nex => ?_⟩
    have s0 := same_ins2 (C := C) nx ndx
    refine ⟨x, dx, y, P, kd, rfl, upd_same, dp_same s0 dy, o, fun H1 rv ll bb us k1 nll nbb hbb cc => ⟨rfl, ?_⟩⟩
    have nll0 : H ll = none := s0.free nll
    have nbb0 : H bb = none := s0.free nbb
    have s1 : Same H H1 := fun b' o e => k1 _ _ (s0 _ _ e) (ne_of_none e nx)
    have e : (R4 P).length = P.length := List.length_map ..
    refine ⟨x, dx, _, rfl, cc.hp, cf_no _ _ _ _ (by decide +kernel) (by decide +kernel) (by decide +kernel) (by decide +kernel), _, rfl, ?_⟩
    refine ⟨x, dx, rv, ll, bb, kd, R4 P, us, _, r, TT, res, z, s, [], rfl, ⟨cc, hbb, fun k v m => (nomatch m), fun k1 k2 v m => (nomatch m)⟩, o.rooms, ?_, asks, T1, by show 1 ≤ 1000; decide, Nat.zero_le _, dp_same s1 dz, by omega, t1, t4, t0, fate, fun H2 us2 Ls2 kvs2 k2 _ _ _ _ _ => ?_⟩
    · exact fw.le (by show max (1 - 1) TT ≤ TT; omega)
    · exact q H2 fun b' o e' => k2 _ _ (s1 _ _ e') (ne_of_none e' nll0) (ne_of_none e' nbb0) fun k m => nomatch m
theorem scLife : FnScope ["house", "store"] ["house", "store"] (defScope sLife) := ⟨rfl, rfl, rfl, by decide +kernel, rfl, by decide +kernel, by decide +kernel⟩
theorem ok_life {f fP fT : Addr} {fd fdP fdT : FuncData} {k : Nat} (F : Fun K "life" "life" sLife f fd)
    (GP : FnOk P w K mg base CX0 (k + 11) fP fdP ["house"] (spPlanOf K)) (kP : PySem.W.keepIn K (.ref fP) = true) (bP : Binds K fdP ["house"] []) (gP : mg "plan_of" = some (.ref fP))
    (GT : FnOk P w K mg base CX0 (k + 11) fT fdT ["plan", "stand"] (spLifeThere K)) (kT : PySem.W.keepIn K (.ref fT) = true) (bT : Binds K fdT ["plan", "stand"] []) (gT : mg "life_there" = some (.ref fT)) : FnOk P w K mg base CX0 (k + 12) f fd ["house", "store"] (spLife K) := by
  refine F.ok scLife (fun vs H Q E h => ?_) (fun cdv A outer s0 H vs Q E hr h => ?_)
  · obtain ⟨x, y, h, s, kd, T, res, rfl, _⟩ := h
    rfl
  · obtain ⟨x, y, h, s, kd, TT, res, rfl, hx, hy, o, fw, asks, T1, t1, t4, t0, fate, q⟩ := h
    refine ⟨_, pss_one (ps_ret (pe_call GT hr (by rfl) gT kT bT .nil pass0 (pa_cons (pe_call GP hr (by rfl) gP kP bP .nil pass0 (pa_cons (pv 0) pa_nil)) (pa_cons (pe_tup (pa_cons pe_int (pa_cons (pv 1) pa_nil))) pa_nil)))), ?_⟩
    refine ⟨_, rfl, x, h, kd, rfl, hx, o, fun pv H1 s1 dp => ?_⟩
    refine ⟨_, rfl, by show 2 ≤ sizeLine; decide, fun U nU => ?_⟩
    have sU := same_upd (o := .tup [V.int 0, y]) nU
    have dU := dp_tup nU (.cons (.int (((0 : Nat) : Int))) (.cons (dp_same s1 hy) .nil))
    refine ⟨pv, .ref U, planOf h, s, kd, 0, TT, res, rfl, dp_same sU dp, o.plan, by rw [r4_one]; exact fw, by rw [r4_one]; exact asks, T1, dU, by show 0 < 1; decide, t1, t4, t0, by rw [r4_one]; exact fate, fun H2 s2 => q H2 ((s1.trans sU).trans s2)⟩
end
/-! ### helpers of the laws: covers, drawn ways, stores, houses -/
def cov (s t : List Int) : Bool := (List.zipWith (fun a b => decide (b ≤ a)) s t).all id
theorem cov_le {s t : List Int} (e : s.length = t.length) (l4 : s.length ≤ 4) : cov s t = le4 (four t) (four s) := by
  rw [Bool.eq_iff_iff]
  match s, t, e, l4 with
  | [], [], _, _ => exact Iff.rfl
  | [a], [b], _, _ =>
    rw [show le4 (four [b]) (four [a]) = le4 [b, 0, 0, 0] [a, 0, 0, 0] from rfl, le4_iff]
    simp only [cov, List.zipWith_cons_cons, List.zipWith_nil_left, List.all_cons, List.all_nil, id, Bool.and_true, Bool.and_eq_true, decide_eq_true_eq]
    try omega
  | [a, a2], [b, b2], _, _ =>
    rw [show le4 (four [b, b2]) (four [a, a2]) = le4 [b, b2, 0, 0] [a, a2, 0, 0] from rfl, le4_iff]
    simp only [cov, List.zipWith_cons_cons, List.zipWith_nil_left, List.all_cons, List.all_nil, id, Bool.and_true, Bool.and_eq_true, decide_eq_true_eq]
    try omega
  | [a, a2, a3], [b, b2, b3], _, _ =>
    rw [show le4 (four [b, b2, b3]) (four [a, a2, a3]) = le4 [b, b2, b3, 0] [a, a2, a3, 0] from rfl, le4_iff]
    simp only [cov, List.zipWith_cons_cons, List.zipWith_nil_left, List.all_cons, List.all_nil, id, Bool.and_true, Bool.and_eq_true, decide_eq_true_eq]
    try omega
  | [a, a2, a3, a4], [b, b2, b3, b4], _, _ =>
    rw [show le4 (four [b, b2, b3, b4]) (four [a, a2, a3, a4]) = le4 [b, b2, b3, b4] [a, a2, a3, a4] from rfl, le4_iff]
    simp only [cov, List.zipWith_cons_cons, List.zipWith_nil_left, List.all_cons, List.all_nil, id, Bool.and_true, Bool.and_eq_true, decide_eq_true_eq]
    try omega
theorem inV_all : ∀ bs : List Bool, (!inV (.bl false) (bs.map V.bl)) = bs.all id
  | [] => rfl
  | b :: bs => by
    have ih := inV_all bs
    unfold inV at ih ⊢
    rw [List.map_cons, List.any_cons, List.all_cons, Bool.not_or, ih]
    cases b <;> rfl
theorem inV_any : ∀ bs : List Bool, inV (.bl true) (bs.map V.bl) = bs.any id
  | [] => rfl
  | b :: bs => by
    have ih := inV_any bs
    unfold inV at ih ⊢
    rw [List.map_cons, List.any_cons, List.any_cons, ih]
    cases b <;> rfl
theorem flat_bls : ∀ bs : List Bool, (bs.map V.bl).all flatV = true
  | [] => rfl
  | b :: bs => by
    rw [List.map_cons, List.all_cons, flat_bls bs]
    rfl
theorem zip_at {α β : Type} {a : List α} {b : List β} {γ : Type} {f : α → β → γ} {i : Nat} {x : α} {y : β} (h1 : a[i]? = some x) (h2 : b[i]? = some y) : (List.zipWith f a b)[i]? = some (f x y) := by
  rw [List.getElem?_zipWith, h1, h2]
theorem zip_take {α β γ : Type} {f : α → β → γ} {a : List α} {b : List β} {i : Nat} {x : α} {y : β} (h1 : a[i]? = some x) (h2 : b[i]? = some y) : (List.zipWith f a b).take (i + 1) = (List.zipWith f a b).take i ++ [f x y] := by
  have h : (List.zipWith f a b)[i]? = some (f x y) := zip_at h1 h2
  rw [List.take_add_one, h]
  rfl
def sCovLaw : Stmt := topS 55
def sAnyStore : Stmt := topS 54
def spCovLaw (K : PySem.W.Frag) : Sp := fun vs H Q _ => ∃ (x y : V) (s t : List Int), vs = [x, y] ∧ Dp K H x (wayD s) ∧ Dp K H y (wayD t) ∧ s.length = t.length ∧ s.length ≤ 4 ∧ ∀ H', Same H H' → Q (.bl (cov s t)) H'
def spAnyStore (K : PySem.W.Frag) : Sp := fun vs H Q _ => ∃ (p c : Addr) (ns : List Int) (m : Nat) (kinds most : Int), vs = [.ref p, .int kinds, .int most] ∧ Pen H p c ns m ∧ m + 10 < penMost ∧ (1 ≤ kinds ∧ kinds ≤ 4) ∧ (0 ≤ most ∧ most ≤ 1000) ∧
  ∀ v H' l, Kp p H H' → Pen H' p c ns (m + 10) → Dp K H' v (wayD l) → (l.length : Int) = kinds → (∀ z ∈ l, 0 ≤ z ∧ z ≤ most) → Q v H'
section
variable {P : Program} {w : World} {K : PySem.W.Frag} {mg : Str → Option Value} {base : Heap}
theorem scCovLaw : FnScope ["store", "other", "number", "fewer"] ["store", "other"] (defScope sCovLaw) := ⟨rfl, rfl, rfl, by decide +kernel, rfl, by decide +kernel, by decide +kernel⟩
theorem ok_covLaw {f : Addr} {fd : FuncData} {k : Nat} (F : Fun K "_law_covers" "_law_covers" sCovLaw f fd) (mz : mg "zip" = none) : FnOk P w K mg base CX0 (k + 1) f fd ["store", "other"] (spCovLaw K) := by
  refine F.ok scCovLaw (fun vs H Q E h => ?_) (fun cdv A outer s0 H vs Q E hr h => ?_)
  · obtain ⟨x, y, s, t, rfl, _⟩ := h
    rfl
  · obtain ⟨x, y, s, t, rfl, hx, hy, hl, l4, q⟩ := h
    refine ⟨_, pss_one (ps_ret (pe_cmpR op_notIn_seq pe_bl (pe_lc (own := [("number", 2), ("fewer", 3)]) (g := gTup K 2 (gCons (gName 2) (gCons (gName 3) gNil))) (tt := tYes) rfl scCovLaw.nd (pi_zipA (by rfl) mz (pa_cons (pv 0) (pa_cons (pv 1) pa_nil)))
        (blkOk_by (N := ["store", "other", "number", "fewer"]) (sc := defScope sCovLaw) (by decide +kernel))
        (fun _ _ _ _ _ => by refine pg_tup rfl (pgs_cons ?_ (pgs_cons ?_ pgs_nil)); exact pg_name (i := 2) scCovLaw.nd rfl (.inl rfl); exact pg_name (i := 3) scCovLaw.nd rfl (.inl rfl))
        (fun _ _ _ _ _ => pts_nil) (fun _ _ _ _ _ => by exact pe_cmpR op_ge (pv 2) (pv 3) (nomark _))) (by rfl))), ?_⟩
    -- sem
    obtain ⟨xa, rfl, hX⟩ := way_of hx
    obtain ⟨ya, rfl, hY⟩ := way_of hy
    refine ⟨_, rfl, _, rfl, xa, ya, _, _, rfl, .inr ⟨hX, hY, fun D nD => ?_⟩⟩
    have sD := same_upd (o := .lst []) nD
    have lg : (List.zipWith (fun a b : Int => decide (b ≤ a)) s t).length = s.length := by
      rw [List.length_zipWith, hl, Nat.min_self]
    refine lc_it (walk_zipT (K := K) (a := xa) (b := ya) (xs := s.map V.int) (ys := t.map V.int) (n := s.length) (by rw [List.length_map, List.length_map, hl, Nat.min_self])) (fun m H4 => Same H H4 ∧ H4 D = some (.lst (((List.zipWith (fun a b : Int => decide (b ≤ a)) s t).take m).map V.bl))) ⟨sD, upd_same⟩ ?_ ?_ ?_
    · rintro m H4 _ ⟨s4, _⟩
      exact ⟨s4.seqT hX, s4.seqT hY⟩
    · rintro m v H4 H5 hm ⟨s4, hD⟩ ⟨U, z1, z2, rfl, nU, rfl, g1, g2⟩
      obtain ⟨u1, e1, rfl⟩ := ints_get g1
      obtain ⟨u2, e2, rfl⟩ := ints_get g2
      have sU := same_upd (o := .tup [V.int u1, V.int u2]) nU
      refine ⟨U, _, rfl, SqT.of upd_same, rfl, _, _, rfl, _, _, rfl, rfl, rfl, ?_⟩
      refine ⟨_, rfl, _, rfl, u1, u2, rfl, rfl, _, sU _ _ hD, ?_, fun b o e => ?_, ?_⟩
      · rw [List.length_map, List.length_take]
        exact small_line (by omega)
      · rw [upd_ne (ne_of_none e nD)]
        exact sU _ _ (s4 _ _ e)
      · rw [upd_same, zip_take e1 e2, List.map_append]
        rfl
    · rintro H4 ⟨s4, hD⟩
      rw [List.take_of_length_le (by omega)] at hD
      refine ⟨D, _, rfl, .inl (SqL.of hD), rfl, flat_bls _, ?_⟩
      rw [inV_all]
      exact q H4 s4
theorem scAnyStore : FnScope ["pen", "kinds", "most", "kind"] ["pen", "kinds", "most"] (defScope sAnyStore) := ⟨rfl, rfl, rfl, by decide +kernel, rfl, by decide +kernel, by decide +kernel⟩
theorem ok_anyStore {f fT : Addr} {fd fdT : FuncData} {k : Nat} (F : Fun K "_law_any_store" "_law_any_store" sAnyStore f fd) (GT : FnOk P w K mg base CX0 (k + 2) fT fdT ["pen", "amount"] spTake) (kT : PySem.W.keepIn K (.ref fT) = true) (bT : Binds K fdT ["pen", "amount"] []) (gT : mg "_law_take" = some (.ref fT))
    (mr : mg "range" = none) (mt : mg "tuple" = none) : FnOk P w K mg base CX0 (k + 3) f fd ["pen", "kinds", "most"] (spAnyStore K) := by
  refine F.ok scAnyStore (fun vs H Q E h => ?_) (fun cdv A outer s0 H vs Q E hr h => ?_)
  · obtain ⟨p, c, ns, m, kinds, size, rfl, _⟩ := h
    rfl
  · obtain ⟨p, c, ns, m, kinds, size, rfl, hP, hm, ⟨k0, k4⟩, ⟨z0, z99⟩, q⟩ := h
    unfold penMost at hm
    refine ⟨_, pss_one (ps_ret (pe_callTy call_tuple_of (by rfl) mt (by decide +kernel) (pa_cons (pe_lc (own := [("kind", 3)]) (g := gName 3) (tt := tYes) rfl scAnyStore.nd (pi_range1 (by rfl) mr (pa_cons (pv 1) pa_nil))
        (blkOk_by (N := ["pen", "kinds", "most", "kind"]) (sc := defScope sAnyStore) (by decide +kernel)) (fun _ _ _ _ _ => by exact (pg_name (i := 3) scAnyStore.nd rfl (.inl rfl))) (fun _ _ _ _ _ => pts_nil)
        (fun _ _ _ _ _ => by exact (pe_call GT hr (by rfl) gT kT bT .nil pass0 (pa_cons (pv 0) (pa_cons (pe_op op_add (pv 2) pe_int) pa_nil))))) pa_nil))), ?_⟩
    -- sem
    refine ⟨_, rfl, kinds, rfl, by omega, by omega, fun D nD => ?_⟩
    have sD := same_upd (o := .lst []) nD
    obtain ⟨npD, ncD⟩ := hP.nep nD
    refine lc_range (lo := 0) (n := kinds.toNat) (fun t H5 => Kp p H H5 ∧ Pen H5 p c ns (m + t) ∧ ∃ xs : List Int, H5 D = some (.lst (xs.map V.int)) ∧ xs.length = t ∧ ∀ x ∈ xs, 0 ≤ x ∧ x ≤ size)
      ⟨sD.kp, hP.same sD, [], upd_same, rfl, by simp⟩ ?_ ?_
    · rintro t H5 ht ⟨kp5, P5, xs, hD, lx, bx⟩
      refine ⟨rfl, ?_⟩
      refine ⟨_, rfl, _, rfl, size, 1, rfl, rfl, p, c, ns, _, _, rfl, P5, by unfold penMost; omega, by omega, by omega, fun z H6 z0 z1 kp6 P6 => ?_⟩
      refine ⟨_, kp6 _ _ hD npD.symm, by rw [List.length_map]; exact small_line (by omega), ?_⟩
      refine ⟨(kp5.trans kp6).put nD, P6.put npD ncD, xs ++ [z], ?_, by rw [List.length_append, lx]; rfl, mem_app1 bx ⟨by omega, by omega⟩⟩
      rw [upd_same, List.map_append]
      rfl
    · rintro H5 ⟨kp5, P5, xs, hD, lx, bx⟩
      refine ⟨D, _, rfl, .inl ⟨SqL.of hD, fun W nW => ?_⟩⟩
      have sW := same_upd (o := .tup (xs.map V.int)) nW
      exact q _ _ xs (kp5.same sW) ((P5.same sW).mono (by omega)) (dp_tup nW (dpAll_ints xs)) (by omega) bx
end
/-! ### needs and joins (plain) -/
theorem four_need {w s : List Int} (e : w.length = s.length) (l4 : s.length ≤ 4) : four (need4 w s) = need4 (four w) (four s) := by
  match w, s, e, l4 with
  | [], [], _, _ => rfl
  | [a], [b], _, _ => rfl
  | [a, a2], [b, b2], _, _ => rfl
  | [a, a2, a3], [b, b2, b3], _, _ => rfl
  | [a, a2, a3, a4], [b, b2, b3, b4], _, _ => rfl
  | _ :: _ :: _ :: _ :: _ :: _, s, e, l =>
    rw [← e] at l
    simp at l
theorem four_join {w s : List Int} (e : w.length = s.length) (l4 : s.length ≤ 4) : four (join4 w s) = join4 (four w) (four s) := by
  match w, s, e, l4 with
  | [], [], _, _ => rfl
  | [a], [b], _, _ => rfl
  | [a, a2], [b, b2], _, _ => rfl
  | [a, a2, a3], [b, b2, b3], _, _ => rfl
  | [a, a2, a3, a4], [b, b2, b3, b4], _, _ => rfl
  | _ :: _ :: _ :: _ :: _ :: _, s, e, l =>
    rw [← e] at l
    simp at l
/-- stores of so many kinds -/
def StK (kd : Nat) (s : List Int) : Prop := s.length = kd ∧ ∀ z ∈ s, 0 ≤ z
theorem StK.four {kd : Nat} {s : List Int} (h : StK kd s) (k1 : 1 ≤ kd) (k4 : kd ≤ 4) : Ok4 (My.four s) := four_ok (by rw [h.1]; exact k1) (by rw [h.1]; exact k4) h.2
theorem need_stk {kd : Nat} {w s : List Int} (lw : w.length = kd) (ls : s.length = kd) : StK kd (need4 w s) := by
  refine ⟨by unfold need4; rw [List.length_zipWith, lw, ls, Nat.min_self], fun z hz => ?_⟩
  unfold need4 at hz
  obtain ⟨i, hi, rfl⟩ := List.mem_iff_getElem.mp hz
  rw [List.getElem_zipWith]
  omega
theorem join_stk {kd : Nat} {x y : List Int} (hx : StK kd x) (hy : StK kd y) : StK kd (join4 x y) := by
  refine ⟨by unfold join4; rw [List.length_zipWith, hx.1, hy.1, Nat.min_self], fun z hz => ?_⟩
  unfold join4 at hz
  obtain ⟨i, hi, rfl⟩ := List.mem_iff_getElem.mp hz
  rw [List.getElem_zipWith]
  have hi' := hi
  rw [List.length_zipWith] at hi'
  have := hx.2 _ (List.getElem_mem (show i < x.length by omega))
  omega
theorem nuMax3_int (a b c : Int) : nuMax3 (.int a) (.int b) (.int c) = some (.int (max (max a b) c)) := by
  show (((some (decide (a < b))).map fun c => if c = true then V.int b else V.int a).bind fun m => nuMax2 m (.int c)) = _
  have e : (if decide (a < b) = true then V.int b else V.int a) = V.int (max a b) := by
    by_cases h : a < b
    · rw [if_pos (decide_eq_true h), show max a b = b by omega]
    · rw [if_neg (fun z => h (of_decide_eq_true z)), show max a b = a by omega]
  show nuMax2 (if decide (a < b) = true then V.int b else V.int a) (.int c) = _
  rw [e]
  show ((some (decide (max a b < c))).map fun c' => if c' = true then V.int c else V.int (max a b)) = _
  show some (if decide (max a b < c) = true then V.int c else V.int (max a b)) = _
  by_cases h : max a b < c
  · rw [if_pos (decide_eq_true h), show max (max a b) c = c by omega]
  · rw [if_neg (fun z => h (of_decide_eq_true z)), show max (max a b) c = max a b by omega]
/-! ### one level further, within a rim (plain Lean) -/
def rimOk (rim : Option Int) (z : List Int) : Prop := ∀ r, rim = some r → le4 z [r, r, r, r] = true
def AH (rim : Option Int) (S : List (List Int)) (A : Asks) (x : List Int) : Prop := ∃ z, Ok4 z ∧ le4 z x = true ∧ rimOk rim z ∧ ∀ a ∈ A, ∃ w ∈ a, Ok4 (add4 z w) ∧ UpS S (add4 z w)
theorem needs_upS {S : List (List Int)} (hS : ∀ s ∈ S, Ok4 s) {a : List (List Int)} (hw : ∀ w ∈ a, w.length = 4) {x : List Int} (hx : Ok4 x) :
    UpS (a.flatMap fun w => S.map (need4 w)) x ↔ ∃ w ∈ a, Ok4 (add4 x w) ∧ UpS S (add4 x w) := by
  constructor
  · rintro ⟨y, hy, l⟩
    obtain ⟨w, mw, hy⟩ := List.mem_flatMap.mp hy
    obtain ⟨s, ms, rfl⟩ := List.mem_map.mp hy
    obtain ⟨o, le⟩ := (need4_le (hw w mw) (hS s ms) hx).mp l
    exact ⟨w, mw, o, s, ms, le⟩
  · rintro ⟨w, mw, o, s, ms, le⟩
    exact ⟨need4 w s, List.mem_flatMap.mpr ⟨w, mw, List.mem_map.mpr ⟨s, ms, rfl⟩⟩, (need4_le (hw w mw) (hS s ms) hx).mpr ⟨o, le⟩⟩
theorem rimOk.down {rim : Option Int} {z t : List Int} (h : rimOk rim z) (l : le4 t z = true) : rimOk rim t := fun r e => le4_trans l (h r e)
theorem ah_zero {rim : Option Int} (r0 : ∀ r, rim = some r → 0 ≤ r) (S : List (List Int)) : Canon [[0, 0, 0, 0]] (AH rim S []) := by
  refine (canon_zero []).congr fun x hx => ⟨fun _ => ?_, fun _ => True.intro⟩
  obtain ⟨a, b, c, d, rfl, p1, p2, p3, p4⟩ := hx
  exact ⟨_, ok_zero, le4_iff.mpr ⟨p1, p2, p3, p4⟩, fun r e => le4_iff.mpr ⟨r0 r e, r0 r e, r0 r e, r0 r e⟩, fun a h => (nomatch h)⟩
theorem ah_step {rim : Option Int} {S R W F R' : List (List Int)} {A : Asks} {a : List (List Int)} (hS : ∀ s ∈ S, Ok4 s) (hw : ∀ w ∈ a, w.length = 4) (cR : Canon R (AH rim S A))
    (cW : Canon W (UpS (a.flatMap fun w => S.map (need4 w)))) (hF : ∀ t, t ∈ F ↔ (∃ f ∈ R, ∃ w ∈ W, t = join4 f w) ∧ rimOk rim t) (c : Canon R' (UpS F)) : Canon R' (AH rim S (A ++ [a])) := by
  refine c.congr fun x hx => ⟨?_, ?_⟩
  · rintro ⟨t, ht, l⟩
    obtain ⟨⟨f, mf, w, mw, e⟩, ro⟩ := (hF t).mp ht
    have of := cR.ok f mf
    have ow := cW.ok w mw
    have ot : Ok4 t := by rw [e]; exact join4_ok of ow
    obtain ⟨lf, lw⟩ := (join4_le of ow ot).mp (by rw [← e]; exact le4_refl ot)
    refine ⟨t, ot, l, ro, fun a' ha => ?_⟩
    rcases List.mem_append.mp ha with ha | ha
    · obtain ⟨z, oz, lz, _, all⟩ := (cR.up t ot).mp ⟨f, mf, lf⟩
      obtain ⟨w', mw', o', u'⟩ := all a' ha
      obtain ⟨o2, l2⟩ := add4_le lz o'
      exact ⟨w', mw', o2, u'.mono l2⟩
    · rw [List.mem_singleton.mp ha]
      exact (needs_upS hS hw ot).mp ((cW.up t ot).mp ⟨w, mw, lw⟩)
  · rintro ⟨z, oz, lz, ro, all⟩
    obtain ⟨f, mf, lf⟩ := (cR.up z oz).mpr ⟨z, oz, le4_refl oz, ro, fun a' h => all a' (List.mem_append_left _ h)⟩
    obtain ⟨w, mw, lw⟩ := (cW.up z oz).mpr ((needs_upS hS hw oz).mpr (all a (List.mem_append_right _ List.mem_cons_self)))
    have of := cR.ok f mf
    have ow := cW.ok w mw
    have le := (join4_le of ow oz).mpr ⟨lf, lw⟩
    exact ⟨_, (hF _).mpr ⟨⟨f, mf, w, mw, rfl⟩, ro.down le⟩, le4_trans le lz⟩
def rimB (rim : Option Int) (t : List Int) : Bool := match rim with
  | none => true
  | some r => t.all fun z => decide (z ≤ r)
theorem rimB_ok {rim : Option Int} (r0 : ∀ r, rim = some r → 0 ≤ r) {t : List Int} (l4 : t.length ≤ 4) : rimB rim t = true ↔ rimOk rim (four t) := by
  match rim, r0 with
  | none, _ => exact ⟨fun _ r e => (nomatch e), fun _ => rfl⟩
  | some r, r0 =>
    have p := r0 r rfl
    have e : rimOk (some r) (four t) ↔ le4 (four t) [r, r, r, r] = true := ⟨fun h => h r rfl, fun h r' e => by cases e; exact h⟩
    rw [e]
    match t, l4 with
    | [], _ =>
      rw [show four [] = [0, 0, 0, 0] from rfl, le4_iff]
      simp only [rimB, List.all_nil, true_iff]
      exact ⟨p, p, p, p⟩
    | [a], _ =>
      rw [show four [a] = [a, 0, 0, 0] from rfl, le4_iff]
      simp only [rimB, List.all_cons, List.all_nil, Bool.and_true, decide_eq_true_eq]
      omega
    | [a, b], _ =>
      rw [show four [a, b] = [a, b, 0, 0] from rfl, le4_iff]
      simp only [rimB, List.all_cons, List.all_nil, Bool.and_true, Bool.and_eq_true, decide_eq_true_eq]
      omega
    | [a, b, c], _ =>
      rw [show four [a, b, c] = [a, b, c, 0] from rfl, le4_iff]
      simp only [rimB, List.all_cons, List.all_nil, Bool.and_true, Bool.and_eq_true, decide_eq_true_eq]
      omega
    | [a, b, c, d], _ =>
      rw [show four [a, b, c, d] = [a, b, c, d] from rfl, le4_iff]
      simp only [rimB, List.all_cons, List.all_nil, Bool.and_true, Bool.and_eq_true, decide_eq_true_eq]
theorem four_zero {kd : Nat} (k1 : 1 ≤ kd) (k4 : kd ≤ 4) : four (List.replicate kd 0) = [0, 0, 0, 0] := by
  match kd, k1, k4 with
  | 1, _, _ => rfl
  | 2, _, _ => rfl
  | 3, _, _ => rfl
  | 4, _, _ => rfl
theorem mem_fourF {rim : Option Int} (r0 : ∀ r, rim = some r → 0 ≤ r) {R W : List (List Int)} {kd : Nat} (k4 : kd ≤ 4) (hR : ∀ r ∈ R, StK kd r) (hW : ∀ r ∈ W, StK kd r) (t : List Int) :
    t ∈ ((R.flatMap fun f => W.map (join4 f)).filter (rimB rim)).map four ↔ (∃ f ∈ R.map four, ∃ w ∈ W.map four, t = join4 f w) ∧ rimOk rim t := by
  constructor
  · intro h
    obtain ⟨u, hu, rfl⟩ := List.mem_map.mp h
    obtain ⟨hu, hb⟩ := List.mem_filter.mp hu
    obtain ⟨f, mf, hu⟩ := List.mem_flatMap.mp hu
    obtain ⟨w, mw, rfl⟩ := List.mem_map.mp hu
    have e := four_join (w := f) (s := w) (by rw [(hR f mf).1, (hW w mw).1]) (by rw [(hW w mw).1]; exact k4)
    refine ⟨⟨four f, List.mem_map.mpr ⟨f, mf, rfl⟩, four w, List.mem_map.mpr ⟨w, mw, rfl⟩, e⟩, (rimB_ok r0 (by rw [(join_stk (hR f mf) (hW w mw)).1]; exact k4)).mp hb⟩
  · rintro ⟨⟨f4, hf, w4, hw, rfl⟩, ro⟩
    obtain ⟨f, mf, rfl⟩ := List.mem_map.mp hf
    obtain ⟨w, mw, rfl⟩ := List.mem_map.mp hw
    have e := four_join (w := f) (s := w) (by rw [(hR f mf).1, (hW w mw).1]) (by rw [(hW w mw).1]; exact k4)
    rw [← e] at ro ⊢
    exact List.mem_map.mpr ⟨_, List.mem_filter.mpr ⟨List.mem_flatMap.mpr ⟨f, mf, List.mem_map.mpr ⟨w, mw, rfl⟩⟩, (rimB_ok r0 (by rw [(join_stk (hR f mf) (hW w mw)).1]; exact k4)).mpr ro⟩, rfl⟩
theorem flatMap_congr' {α β : Type} {f g : α → List β} : ∀ {l : List α}, (∀ x ∈ l, f x = g x) → l.flatMap f = l.flatMap g
  | [], _ => rfl
  | x :: r, h => by
    rw [List.flatMap_cons, List.flatMap_cons, h x List.mem_cons_self, flatMap_congr' fun y hy => h y (List.mem_cons_of_mem _ hy)]
theorem four_needs {S a : List (List Int)} {kd : Nat} (k4 : kd ≤ 4) (hS : ∀ s ∈ S, StK kd s) (ha : ∀ w ∈ a, w.length = kd) :
    (a.flatMap fun w => S.map (need4 w)).map four = (a.map four).flatMap fun w => (S.map four).map (need4 w) := by
  rw [List.map_flatMap, List.flatMap_map]
  refine flatMap_congr' fun w mw => ?_
  rw [List.map_map, List.map_map]
  refine List.map_congr_left fun s ms => ?_
  exact four_need (by rw [ha w mw, (hS s ms).1]) (by rw [(hS s ms).1]; exact k4)
theorem all_flat {P : List Int → Prop} {A B : List (List Int)} {g : List Int → List Int → List Int} (h : ∀ x ∈ A, ∀ y ∈ B, P (g x y)) : ∀ t ∈ A.flatMap (fun x => B.map (g x)), P t := fun t ht => by
  obtain ⟨x, mx, ht⟩ := List.mem_flatMap.mp ht
  obtain ⟨y, my, rfl⟩ := List.mem_map.mp ht
  exact h x mx y my
theorem flatM_len {A B : List (List Int)} {g : List Int → List Int → List Int} : (A.flatMap (fun x => B.map (g x))).length = A.length * B.length := boxflat_len (q := B.length) (fun x => List.length_map ..) A
/-- all stores of so many kinds with numbers up to top -/
def boxS (top : Nat) : Nat → List (List Int)
  | 0 => [[]]
  | k + 1 => (boxS top k).flatMap fun s => (List.range (top + 1)).map fun i : Nat => s ++ [(i : Int)]
theorem mem_boxS {top : Nat} : ∀ {k : Nat} {s : List Int}, s ∈ boxS top k ↔ s.length = k ∧ ∀ z ∈ s, 0 ≤ z ∧ z ≤ top
  | 0, s => by
    constructor
    · intro h
      rw [List.mem_singleton.mp h]
      exact ⟨rfl, fun z hz => nomatch hz⟩
    · rintro ⟨h, _⟩
      rw [List.eq_nil_of_length_eq_zero h]
      exact List.mem_singleton.mpr rfl
  | k + 1, s => by
    constructor
    · intro h
      obtain ⟨t, ht, h⟩ := List.mem_flatMap.mp h
      obtain ⟨i, hi, rfl⟩ := List.mem_map.mp h
      obtain ⟨e, al⟩ := mem_boxS.mp ht
      have := List.mem_range.mp hi
      refine ⟨by rw [List.length_append, e]; rfl, fun z hz => ?_⟩
      rcases List.mem_append.mp hz with hz | hz
      · exact al z hz
      · rw [List.mem_singleton.mp hz]
        omega
    · rintro ⟨e, al⟩
      have ne : s ≠ [] := fun z => by rw [z] at e; simp at e
      have e2 := List.dropLast_concat_getLast ne
      have hl := al (s.getLast ne) (List.getLast_mem ne)
      refine List.mem_flatMap.mpr ⟨s.dropLast, mem_boxS.mpr ⟨by rw [List.length_dropLast, e]; rfl, fun z hz => al z ((List.dropLast_sublist s).subset hz)⟩, List.mem_map.mpr ⟨(s.getLast ne).toNat, List.mem_range.mpr (by omega), ?_⟩⟩
      rw [show (((s.getLast ne).toNat : Nat) : Int) = s.getLast ne by omega]
      exact e2
theorem nodup_boxS {top : Nat} : ∀ k : Nat, (boxS top k).Nodup
  | 0 => by simp [boxS]
  | k + 1 => by
    show ((boxS top k).flatMap fun s => (List.range (top + 1)).map fun i : Nat => s ++ [(i : Int)]).Pairwise (· ≠ ·)
    rw [List.pairwise_flatMap]
    refine ⟨fun s _ => ?_, List.Pairwise.imp_of_mem (fun {s t} hs ht ne x hx y hy e => ?_) (nodup_boxS k)⟩
    · rw [List.pairwise_map]
      refine List.Pairwise.imp (fun {i j} h e => h ?_) List.nodup_range
      have := List.append_cancel_left e
      have := List.cons.inj this
      omega
    · obtain ⟨i, _, rfl⟩ := List.mem_map.mp hx
      obtain ⟨j, _, rfl⟩ := List.mem_map.mp hy
      exact ne (List.append_inj e (by rw [(mem_boxS.mp hs).1, (mem_boxS.mp ht).1])).1
theorem boxS_len {top : Nat} : ∀ k : Nat, (boxS top k).length = (top + 1) ^ k
  | 0 => rfl
  | k + 1 => by
    show ((boxS top k).flatMap fun s => (List.range (top + 1)).map fun i : Nat => s ++ [(i : Int)]).length = _
    rw [boxflat_len (q := top + 1) (fun s => by rw [List.length_map, List.length_range]), boxS_len k, Nat.pow_succ]
/-! ### what lasts within a rim, level for level (plain Lean) -/
def LB (rim : Option Int) (A : Asks) : Nat → List Int → Prop
  | 0, _ => True
  | n + 1, x => ∃ z, Ok4 z ∧ le4 z x = true ∧ rimOk rim z ∧ ∀ a ∈ A, ∃ w ∈ a, Ok4 (add4 z w) ∧ LB rim A n (add4 z w)
def LBall (rim : Option Int) (A : Asks) (x : List Int) : Prop := ∀ n, LB rim A n x
theorem lb_zero (rim : Option Int) (A : Asks) : Canon [[0, 0, 0, 0]] (LB rim A 0) := (canon_zero []).congr fun x hx => ⟨fun _ => True.intro, fun _ => True.intro⟩
theorem lb_ahead {rim : Option Int} {A : Asks} {S R : List (List Int)} {n : Nat} (c : Canon S (LB rim A n)) (d : Canon R (AH rim S A)) : Canon R (LB rim A (n + 1)) :=
  d.congr fun x hx => ⟨fun ⟨z, oz, l, ro, all⟩ => ⟨z, oz, l, ro, fun a ha => let ⟨w, mw, o, u⟩ := all a ha; ⟨w, mw, o, (c.up _ o).mp u⟩⟩,
    fun ⟨z, oz, l, ro, all⟩ => ⟨z, oz, l, ro, fun a ha => let ⟨w, mw, o, u⟩ := all a ha; ⟨w, mw, o, (c.up _ o).mpr u⟩⟩⟩
theorem LB.down {rim : Option Int} {A : Asks} : ∀ {n : Nat} {x : List Int}, LB rim A (n + 1) x → LB rim A n x
  | 0, _, _ => True.intro
  | n + 1, x, ⟨z, oz, l, ro, all⟩ => ⟨z, oz, l, ro, fun a ha => let ⟨w, mw, o, u⟩ := all a ha; ⟨w, mw, o, LB.down u⟩⟩
theorem LB.mono {rim : Option Int} {A : Asks} : ∀ {n : Nat} {x y : List Int}, LB rim A n x → le4 x y = true → LB rim A n y
  | 0, _, _, _, _ => True.intro
  | _ + 1, _, _, ⟨z, oz, l, ro, all⟩, e => ⟨z, oz, le4_trans l e, ro, all⟩
theorem LB.rest {rim : Option Int} {A : Asks} {n : Nat} (e : ∀ x, Ok4 x → (LB rim A n x ↔ LB rim A (n + 1) x)) : ∀ (k : Nat) (x : List Int), Ok4 x → (LB rim A n x ↔ LB rim A (n + k) x)
  | 0, x, _ => Iff.rfl
  | k + 1, x, hx => by
    refine ⟨fun h => ?_, fun h => (LB.rest e k x hx).mpr h.down⟩
    obtain ⟨z, oz, l, ro, all⟩ := (e x hx).mp h
    exact ⟨z, oz, l, ro, fun a ha => let ⟨w, mw, o, u⟩ := all a ha; ⟨w, mw, o, (LB.rest e k _ o).mp u⟩⟩
theorem LB.le {rim : Option Int} {A : Asks} {n m : Nat} {x : List Int} (h : LB rim A m x) (l : n ≤ m) : LB rim A n x := by
  obtain ⟨k, rfl⟩ := Nat.le.dest l
  clear l
  induction k with
  | zero => exact h
  | succ k ih => exact ih h.down
theorem LB.all {rim : Option Int} {A : Asks} {n : Nat} (e : ∀ x, Ok4 x → (LB rim A n x ↔ LB rim A (n + 1) x)) {x : List Int} (hx : Ok4 x) : LBall rim A x ↔ LB rim A n x := by
  refine ⟨fun h => h n, fun h m => ?_⟩
  exact ((LB.rest e m x hx).mp h).le (Nat.le_add_left ..)
/-- the least ones keep within the rim -/
theorem lb_in {r : Int} (r0 : 0 ≤ r) {A : Asks} {n : Nat} {S : List (List Int)} (c : Canon S (LB (some r) A n)) : ∀ x ∈ S, le4 x [r, r, r, r] = true := fun x hx => by
  have ox := c.ok x hx
  have key : ∀ z, Ok4 z → le4 z x = true → rimOk (some r) z → LB (some r) A n z → le4 x [r, r, r, r] = true := fun z oz l ro u => by
    obtain ⟨y, hy, ly⟩ := (c.up z oz).mpr u
    have e := c.anti y hy x hx (le4_trans ly l)
    subst e
    exact le4_trans ly (ro r rfl)
  have ux := (c.up x ox).mp ⟨x, hx, le4_refl ox⟩
  cases n with
  | zero =>
    obtain ⟨a, b, d, e, rfl, p1, p2, p3, p4⟩ := ox
    exact key [0, 0, 0, 0] ok_zero (le4_iff.mpr ⟨p1, p2, p3, p4⟩) (fun r' e => by cases e; exact le4_iff.mpr ⟨r0, r0, r0, r0⟩) True.intro
  | succ n =>
    obtain ⟨z, oz, l, ro, all⟩ := ux
    exact key z oz l ro ⟨z, oz, le4_refl oz, ro, all⟩
theorem filter_lt {α : Type} {p q : α → Bool} : ∀ {l : List α}, (∀ x ∈ l, q x = true → p x = true) → (∃ x ∈ l, p x = true ∧ q x = false) → (l.filter q).length < (l.filter p).length
  | [], _, ⟨_, h, _⟩ => (nomatch h)
  | y :: l, h, ⟨x, hx, h1, h2⟩ => by
    have le : ∀ l : List α, (∀ x ∈ l, q x = true → p x = true) → (l.filter q).length ≤ (l.filter p).length := fun l h => by
      induction l with
      | nil => exact Nat.le_refl _
      | cons y l ih =>
        have i := ih fun x hx => h x (List.mem_cons_of_mem _ hx)
        have hy := h y List.mem_cons_self
        rw [List.filter_cons, List.filter_cons]
        cases cq : q y with
        | true =>
          rw [hy cq]
          simp only [if_true, List.length_cons]
          omega
        | false =>
          cases cp : p y <;> simp only [if_true, Bool.false_eq_true, if_false, List.length_cons] <;> omega
    have ht : ∀ x ∈ l, q x = true → p x = true := fun x hx => h x (List.mem_cons_of_mem _ hx)
    have l1 := le l ht
    rw [List.filter_cons, List.filter_cons]
    rcases List.mem_cons.mp hx with rfl | hx
    · rw [h1, h2]
      simp only [if_true, Bool.false_eq_true, if_false, List.length_cons]
      omega
    · have l2 := filter_lt ht ⟨x, hx, h1, h2⟩
      have hy := h y List.mem_cons_self
      cases cq : q y with
      | true =>
        rw [hy cq]
        simp only [if_true, List.length_cons]
        omega
      | false =>
        cases cp : p y <;> simp only [if_true, Bool.false_eq_true, if_false, List.length_cons] <;> omega
/-- how many of the box stand over A -/
def cntB (r : Int) (A : List (List Int)) : Nat := ((boxS r.toNat 4).filter fun x => anyLe x A).length
theorem cnt_le (r : Int) (A : List (List Int)) : cntB r A ≤ (boxS r.toNat 4).length := List.length_filter_le _ _
theorem box4 {r : Int} (r0 : 0 ≤ r) {x : List Int} (ox : Ok4 x) (l : le4 x [r, r, r, r] = true) : x ∈ boxS r.toNat 4 := by
  obtain ⟨a, b, c, d, rfl, p1, p2, p3, p4⟩ := ox
  obtain ⟨q1, q2, q3, q4⟩ := le4_iff.mp l
  refine mem_boxS.mpr ⟨rfl, fun z hz => ?_⟩
  simp only [List.mem_cons, List.not_mem_nil, or_false] at hz
  rcases hz with rfl | rfl | rfl | rfl <;> omega
theorem ok_of_box {m : Nat} {x : List Int} (h : x ∈ boxS m 4) : Ok4 x := by
  obtain ⟨e, al⟩ := mem_boxS.mp h
  obtain ⟨a, b, c, d, rfl⟩ := four_of e
  exact ⟨a, b, c, d, rfl, (al a (by simp)).1, (al b (by simp)).1, (al c (by simp)).1, (al d (by simp)).1⟩
theorem cnt_lt {r : Int} (r0 : 0 ≤ r) {A : Asks} {n : Nat} {S T : List (List Int)} (c : Canon S (LB (some r) A n)) (d : Canon T (LB (some r) A (n + 1))) (ne : S ≠ T) : cntB r T < cntB r S := by
  refine filter_lt (fun x hx h => ?_) ?_
  · have ox := ok_of_box hx
    exact anyLe_iff.mpr ((c.up x ox).mpr ((d.up x ox).mp (anyLe_iff.mp h)).down)
  · refine Classical.byContradiction fun no => ne ?_
    refine c.uniq (d.congr fun x hx => ⟨LB.down, fun h => ?_⟩)
    obtain ⟨z, mz, l⟩ := (c.up x hx).mpr h
    have oz := c.ok z mz
    refine Classical.byContradiction fun nx => no ⟨z, box4 r0 oz (lb_in r0 c z mz), anyLe_iff.mpr ⟨z, mz, le4_refl oz⟩, ?_⟩
    rw [Bool.eq_false_iff]
    intro u
    exact nx (((d.up z oz).mp (anyLe_iff.mp u)).mono l)
/-! ### which of some a store covers; the lowest of some -/
def sCovAny : Stmt := topS 56
def sLowest : Stmt := topS 57
theorem cov_any {kd : Nat} (k4 : kd ≤ 4) {s : List Int} (hs : s.length = kd) {R : List (List Int)} (hR : ∀ r ∈ R, StK kd r) : inV (.bl true) ((R.map (cov s)).map V.bl) = anyLe (four s) (R.map four) := by
  rw [inV_any, Bool.eq_iff_iff, List.any_eq_true, anyLe_iff]
  constructor
  · rintro ⟨b, hb, e⟩
    obtain ⟨r, hr', rfl⟩ := List.mem_map.mp hb
    refine ⟨four r, List.mem_map.mpr ⟨r, hr', rfl⟩, ?_⟩
    rw [← cov_le (by rw [hs, (hR r hr').1]) (by rw [hs]; exact k4)]
    exact e
  · rintro ⟨z, hz, e⟩
    obtain ⟨r, hr', rfl⟩ := List.mem_map.mp hz
    rw [← cov_le (by rw [hs, (hR r hr').1]) (by rw [hs]; exact k4)] at e
    exact ⟨_, List.mem_map.mpr ⟨r, hr', rfl⟩, e⟩
def spCovAny (K : PySem.W.Frag) : Sp := fun vs H Q _ => ∃ (x y : V) (s : List Int) (S : List (List Int)) (kd : Nat), vs = [x, y] ∧ Dp K H x (wayD s) ∧ Dp K H y (stsD S) ∧ s.length = kd ∧ kd ≤ 4 ∧ (∀ r ∈ S, StK kd r) ∧ S.length ≤ 100000 ∧ ∀ H', Same H H' → Q (.bl (anyLe (four s) (S.map four))) H'
def spLowest (K : PySem.W.Frag) : Sp := fun vs H Q _ => ∃ (x : V) (S : List (List Int)) (kd : Nat), vs = [x] ∧ Dp K H x (stsD S) ∧ (∀ s ∈ S, StK kd s) ∧ 1 ≤ kd ∧ kd ≤ 4 ∧ S.length < 4096 ∧
  ∀ (q : Addr) (H' : Hp) (ps : List V) (R : List (List Int)), Same H H' → H q = none → H' q = some (.lst ps) → DpAll K H' ps (R.map wayD) → (∀ r ∈ R, StK kd r) → Canon (R.map four) (UpS (S.map four)) → R.length ≤ S.length → (∀ r ∈ R, r ∈ S) → Q (.ref q) H'
section
variable {P : Program} {w : World} {K : PySem.W.Frag} {mg : Str → Option Value} {base : Heap}
theorem scCovAny : FnScope ["store", "some", "other"] ["store", "some"] (defScope sCovAny) := ⟨rfl, rfl, rfl, by decide +kernel, rfl, by decide +kernel, by decide +kernel⟩
theorem ok_covAny {f fC : Addr} {fd fdC : FuncData} {k : Nat} (F : Fun K "_law_covers_any" "_law_covers_any" sCovAny f fd)
    (GC : FnOk P w K mg base CX0 (k + 1) fC fdC ["store", "other"] (spCovLaw K)) (kC : PySem.W.keepIn K (.ref fC) = true) (bC : Binds K fdC ["store", "other"] []) (gC : mg "_law_covers" = some (.ref fC)) :
    FnOk P w K mg base CX0 (k + 2) f fd ["store", "some"] (spCovAny K) := by
  refine F.ok scCovAny (fun vs H Q E h => ?_) (fun cdv A outer s0 H vs Q E hr h => ?_)
  · obtain ⟨x, y, s, S, kd, rfl, _⟩ := h
    rfl
  · obtain ⟨x, y, s, S, kd, rfl, hx, hy, ls, k4, okS, lS, q⟩ := h
    refine ⟨_, pss_one (ps_ret (pe_cmpR op_in_seq pe_bl (pe_lc (own := [("other", 2)]) (g := gName 2) (tt := tYes) rfl scCovAny.nd (pi_list (pv 1))
        (blkOk_by (N := ["store", "some", "other"]) (sc := defScope sCovAny) (by decide +kernel)) (fun _ _ _ _ _ => by exact (pg_name (i := 2) scCovAny.nd rfl (.inl rfl))) (fun _ _ _ _ _ => pts_nil)
        (fun _ _ _ _ _ => by exact (pe_call GC hr (by rfl) gC kC bC .nil pass0 (pa_cons (pv 0) (pa_cons (pv 2) pa_nil))))) (by rfl))), ?_⟩
    -- sem
    obtain ⟨l, ps, rfl, hL, hall⟩ := sts_of hy
    have lps := sts_len hall
    refine ⟨_, rfl, l, rfl, ⟨_, hL⟩, fun D nD => ?_⟩
    have sD := same_upd (o := .lst []) nD
    refine lc_list (K := K) (a := l) (xs := ps) (fun j H2 => Same H H2 ∧ H2 D = some (.lst (((S.take j).map (cov s)).map V.bl))) ⟨sD, upd_same⟩ (fun j H2 _ ⟨s2, _⟩ => s2.seq hL) ?_ ?_
    · rintro j v H2 hj ⟨s2, hD⟩
      obtain ⟨r, hr', dr⟩ := sts_get (dpAll_same s2 hall) hj
      have okr := okS r (List.mem_of_getElem? hr')
      have jl := (List.getElem?_eq_some_iff.mp hr').1
      refine ⟨rfl, ?_⟩
      refine ⟨_, rfl, _, rfl, x, v, s, r, rfl, dp_same s2 hx, dr, by rw [ls, okr.1], by rw [ls]; exact k4, fun H3 s3 => ?_⟩
      refine ⟨_, s3 _ _ hD, small_line (by rw [List.length_map, List.length_map, List.length_take]; omega), fun b o' e => ?_, ?_⟩
      · rw [upd_ne (ne_of_none e nD)]
        exact s3 _ _ (s2 _ _ e)
      · rw [upd_same, take_snoc hr', List.map_append, List.map_append]
        rfl
    rintro H2 ⟨s2, hD⟩
    rw [take_all lps] at hD
    refine ⟨D, _, rfl, .inl (SqL.of hD), rfl, flat_bls _, ?_⟩
    rw [cov_any k4 ls okS]
    exact q H2 s2
theorem scLowest : FnScope ["some", "found", "store"] ["some"] (defScope sLowest) := ⟨rfl, rfl, rfl, by decide +kernel, rfl, by decide +kernel, by decide +kernel⟩
theorem ok_lowest {f fC : Addr} {fd fdC : FuncData} {k : Nat} (F : Fun K "_law_lowest" "_law_lowest" sLowest f fd)
    (GA : FnOk P w K mg base CX0 (k + 1) fC fdC ["store", "some"] (spCovAny K)) (kA : PySem.W.keepIn K (.ref fC) = true) (bA : Binds K fdC ["store", "some"] []) (gA : mg "_law_covers_any" = some (.ref fC))
    (ms : mg "sorted" = none) (mset : mg "set" = none) : FnOk P w K mg base CX0 (k + 2) f fd ["some"] (spLowest K) := by
  refine F.ok scLowest (fun vs H Q E h => ?_) (fun cdv A outer s0 H vs Q E hr h => ?_)
  · obtain ⟨x, S, kd, rfl, _⟩ := h
    rfl
  · obtain ⟨x, S, kd, rfl, hx, okS, k1, k4, fw, q⟩ := h
    refine ⟨_, pss_cons (ps_set (i := 1) scLowest.nd rfl (.inl rfl) (pe_lst pa_nil))
      (pss_cons (ps_for PassesOwn.never rfl (pi_list (pe_callB (cr_sortedG rfl) (by rfl) ms (by decide +kernel) (pa_cons (pe_callTy (cr_setG rfl hr.units) (by rfl) mset (by decide +kernel) (pa_cons (pv 0) pa_nil)) pa_nil))) (pg_name (i := 2) scLowest.nd rfl (.inl rfl)) (pss_one (ps_if (pt_not (pt_val (pe_call GA hr (by rfl) gA kA bA .nil pass0 (pa_cons (pv 2) (pa_cons (pv 1) pa_nil))))) (pss_one (ps_expr (pe_bm PySem.F.plainAttrs_list PySem.F.slot_list_append PySem.F.type_list_append mt_append (pv 1) (pa_cons (pv 2) pa_nil)))) pss_nil)))
      (pss_one (ps_ret (pv 1)))), ?_⟩
    -- sem
    obtain ⟨l, vs, rfl, hL, hall⟩ := sts_of hx
    obtain ⟨ks, rfl, rfl, hks⟩ := sts_refs hall
    refine ⟨by show 0 ≤ sizeLine; decide, fun F0 nF => ?_⟩
    have sF := same_upd (o := .lst []) nF
    rw [List.length_map] at fw
    refine ⟨_, rfl, l, ks, ks.map (·.2), rfl, sF.seq hL, fun p hp => sF.seqT (hks p hp), by rw [List.length_map]; exact fw, fun p hp => List.mem_map.mpr ⟨p, hp, rfl⟩, fun a L na sub all few => ?_⟩
    have sA := same_upd (o := SetGO P w a L) na
    have sFA := sF.trans sA
    have okL : ∀ p ∈ L, StK kd p.2 := fun p hp => okS _ (List.mem_map.mpr ⟨p, sub p hp, rfl⟩)
    refine ⟨a, L, kd, rfl, upd_same, fun p hp => sFA.seqT (hks p (sub p hp)), few, k1, fun p hp => (okL p hp).1, fun M p pm nd pw np => ?_⟩
    have sP := same_upd (o := .lst (M.map fun q => V.ref q.1)) np
    have s3 := sFA.trans sP
    have hF3 := sP _ _ (sA _ _ (upd_same (H := H) (a := F0) (o := .lst [])))
    obtain ⟨Hs, eHs⟩ : ∃ Hs, Hs = upd (upd (upd H F0 (.lst [])) a (SetGO P w a L)) p (.lst (M.map fun q => V.ref q.1)) := ⟨_, rfl⟩
    have hp3 : Hs p = some (.lst (M.map fun q => V.ref q.1)) := by rw [eHs]; exact upd_same
    have kp0 : Kp F0 Hs (upd (upd (upd H F0 (.lst [])) a (SetGO P w a L)) p (.lst (M.map fun q => V.ref q.1))) := by rw [eHs]; exact Kp.refl _ _
    have hF0 : (upd (upd (upd H F0 (.lst [])) a (SetGO P w a L)) p (.lst (M.map fun q => V.ref q.1))) F0 = some (.lst []) := hF3
    have s3 : Same H Hs := by rw [eHs]; exact s3
    have hF3 : Hs F0 = some (.lst []) := by rw [eHs]; exact hF3
    have nFp : p ≠ F0 := fun e => by
      subst e
      have z := (sA _ _ (upd_same (H := H) (a := p) (o := .lst []))).symm.trans np
      cases z
    have hM : ∀ q ∈ M, SqT K Hs q.1 (q.2.map V.int) := fun q hq => s3.seqT (hks q (sub q (pm.mem_iff.mp hq)))
    have memM : ∀ t, t ∈ M.map (·.2) ↔ t ∈ ks.map (·.2) := fun t => ⟨fun h => by
      obtain ⟨q, hq, rfl⟩ := List.mem_map.mp h
      exact List.mem_map.mpr ⟨q, sub q (pm.mem_iff.mp hq), rfl⟩, fun h => by
      obtain ⟨q, hq, rfl⟩ := List.mem_map.mp h
      exact ((pm.map (·.2)).mem_iff).mpr (all q hq)⟩
    have okM : ∀ t ∈ M.map (·.2), StK kd t := fun t ht => okS t ((memM t).mp ht)
    have ok4 : ∀ x ∈ (M.map (·.2)).map four, Ok4 x := fun x hx => by
      obtain ⟨t, ht, rfl⟩ := List.mem_map.mp hx
      exact (okM t ht).four k1 k4
    have srt4 : ((M.map (·.2)).map four).Pairwise fun x y => HT.lexLt x y = true := by
      rw [List.pairwise_map, List.pairwise_map]
      have nd' := List.pairwise_map.mp nd
      refine List.Pairwise.imp_of_mem (fun {x y} hx hy z => ?_) (pw.and nd')
      have e : x.2.length = y.2.length := by rw [(okM _ (List.mem_map.mpr ⟨x, hx, rfl⟩)).1, (okM _ (List.mem_map.mpr ⟨y, hy, rfl⟩)).1]
      rw [lex_four e]
      rcases lex4_tot e z.1 with e | e
      · exact absurd e z.2
      · exact e
    have lenM : (M.map (·.2)).length ≤ (ks.map (·.2)).length := len_among _ _ nd fun t ht => (memM t).mp ht
    refine ⟨p, rfl, ⟨_, SqL.of upd_same⟩, ?_⟩
    refine for_list (K := K) (a := p) (xs := M.map fun q => V.ref q.1) (fun j σ H1 => ∃ (y2 : Option V) (ps : List V) (R : List (List Int)), σ = [some (.ref l), some (.ref F0), y2] ∧ Kp F0 Hs H1 ∧ H1 F0 = some (.lst ps) ∧ DpAll K H1 ps (R.map wayD) ∧ R.map four = sieve [] (((M.map (·.2)).map four).take j) ∧ (∀ r ∈ R, r ∈ M.map (·.2)))
      ⟨none, [], [], rfl, kp0, hF0, .nil, rfl, fun r hr => (nomatch hr)⟩ ?_ ?_ ?_
    · rintro j σ H1 _ ⟨_, _, _, _, kp, _⟩
      exact SqL.of (kp _ _ hp3 nFp)
    · rintro j v σ H1 hj ⟨y2, ps, R, rfl, kp, hF, dps, eR, inR⟩
      rw [List.getElem?_map] at hj
      obtain ⟨mq, hmq, rfl⟩ := Option.map_eq_some_iff.mp hj
      have hT : SqT K H1 mq.1 (mq.2.map V.int) := kp.seqT hF3 (hM mq (List.mem_of_getElem? hmq))
      have ht : (M.map (·.2))[j]? = some mq.2 := by rw [List.getElem?_map, hmq]; rfl
      have ht4 : ((M.map (·.2)).map four)[j]? = some (four mq.2) := by rw [List.getElem?_map, ht]; rfl
      have mM := List.mem_of_getElem? ht
      have ok := okM mq.2 mM
      have lps := sts_len dps
      have lR : R.length ≤ 4096 := by
        have e1 := congrArg List.length eR
        have e2 := sieve_len (((M.map (·.2)).map four).take j) []
        rw [List.length_map] at e1
        rw [List.length_nil, List.length_take, List.length_map] at e2
        rw [List.length_map] at lenM
        rw [List.length_map] at e2
        rw [List.length_map] at lenM
        omega
      -- those found that it covers
      refine ⟨_, rfl, _, rfl, .ref mq.1, .ref F0, mq.2, R, kd, rfl, of_way hT, .lst (SqL.of hF) dps, ok.1, k4, fun r hr' => okM r (inR r hr'), by omega, fun H2 s2 => ?_⟩
      refine ⟨_, rfl, ?_⟩
      rw [eR]
      have eS := sieve_snoc (((M.map (·.2)).map four).take j) [] (four mq.2)
      rw [← take_snoc ht4] at eS
      have hF2 := s2 _ _ hF
      have kp2 := kp.same s2
      cases c : anyLe (four mq.2) (sieve [] (((M.map (·.2)).map four).take j)) with
      | true =>
        rw [c, if_pos rfl] at eS
        exact ifF rfl ⟨_, ps, R, rfl, kp2, hF2, dpAll_same s2 dps, eR.trans eS.symm, inR⟩
      | false =>
        rw [c, if_neg (by decide)] at eS
        refine ifT rfl ?_
        refine ⟨_, rfl, .inl ⟨rfl, _, SqL.of hF2⟩, _, rfl, F0, ps, _, rfl, rfl, hF2, small_line (by omega), ?_⟩
        refine ⟨_, ps ++ [.ref mq.1], R ++ [mq.2], rfl, kp2.trans (kp_upd F0 H2 _), upd_same, ?_, ?_, mem_app1 inR mM⟩
        · exact dpAll_put hF2 (dpAll_app1 (dpAll_same s2 dps) (of_way (s2.seqT hT))) (noLAll_map noL_way _)
        · rw [List.map_append, eR, eS]
          rfl
    · rintro σ H1 ⟨y2, ps, R, rfl, kp, hF, dps, eR, inR⟩
      rw [List.take_of_length_le (by simp)] at eR
      have mem4 : ∀ z, z ∈ (M.map (·.2)).map four ↔ z ∈ (ks.map (·.2)).map four := fun z => by
        rw [List.mem_map, List.mem_map]
        exact ⟨fun ⟨t, ht, e⟩ => ⟨t, (memM t).mp ht, e⟩, fun ⟨t, ht, e⟩ => ⟨t, (memM t).mpr ht, e⟩⟩
      refine ⟨_, rfl, q F0 H1 ps R (fun b o e => kp b o (s3 b o e) (ne_of_none e nF)) nF hF dps (fun r hr => okM r (inR r hr)) ?_ ?_ fun r hr => (memM r).mp (inR r hr)⟩
      · rw [eR]
        exact (sieve_canon ok4 srt4).congr fun x _ => ⟨fun ⟨y, hy, e⟩ => ⟨y, (mem4 y).mp hy, e⟩, fun ⟨y, hy, e⟩ => ⟨y, (mem4 y).mpr hy, e⟩⟩
      · have e1 := congrArg List.length eR
        have e2 := sieve_len ((M.map (·.2)).map four) []
        rw [List.length_map] at e1
        rw [List.length_nil, List.length_map] at e2
        omega
end
/-! ### one level further, the lowest within a bound -/
def sMore : Stmt := topS 58
def rRepS (K : PySem.W.Frag) : R2 := fun x y H Q => ∃ l k z, x = .ref l ∧ y = .int k ∧ SqT K H l [z] ∧ 0 ≤ k ∧ k ≤ 1000 ∧ ∀ p H', Same H H' → SqT K H' p (List.replicate k.toNat z) → Q (.ref p) H'
theorem op_repS {X : Cx} : OpR X (binaryOp .Mult) (rRepS X.K) := by
  intro pins s σ H x y v u Q I rx ry h
  obtain ⟨l, k, z, rfl, rfl, hT, h0, hk, q⟩ := h
  refine op_rep1 pins s σ H _ _ v u Q I rx ry ⟨l, k, z, rfl, rfl, hT, h0, hk, fun e => q l H (Same.refl H) ?_, fun _ p np => q p _ (same_upd np) (SqT.of upd_same)⟩
  subst e
  exact hT
theorem tupv_of {K : PySem.W.Frag} {H : Hp} {v : V} {ds : List PyData} (h : Dp K H v (.tuple ds)) : ∃ a vs, v = .ref a ∧ SqT K H a vs ∧ DpAll K H vs ds := by
  cases h with
  | @tup a vs _ hT hall => exact ⟨a, vs, rfl, hT, hall⟩
structure HsL (h : Asks) (kd wy : Nat) : Prop where
  len : ∀ a ∈ h, ∀ l ∈ a, l.length = kd
  ways : ∀ a ∈ h, a.length ≤ wy
  first : ∃ a0 l0, h[0]? = some a0 ∧ a0[0]? = some l0
  k1 : 1 ≤ kd
  k4 : kd ≤ 4
def rMax2 : List V → Hp → VK → Prop := fun xs H Q => ∃ i j, xs = [.int i, .int j] ∧ Q (.int (if j > i then j else i)) H
theorem ah_in {rim : Option Int} {S R : List (List Int)} {A : Asks} (c : Canon R (AH rim S A)) : ∀ x ∈ R, rimOk rim x := fun x hx => by
  have ox := c.ok x hx
  obtain ⟨z, oz, l, ro, all⟩ := (c.up x ox).mp ⟨x, hx, le4_refl ox⟩
  obtain ⟨y, hy, ly⟩ := (c.up z oz).mpr ⟨z, oz, le4_refl oz, ro, all⟩
  have e := c.anti y hy x hx (le4_trans ly l)
  subst e
  rw [le4_anti ly l]
  exact ro
theorem ah_step2 {rim : Option Int} {S R W F R' N : List (List Int)} {A : Asks} {a : List (List Int)} (hS : ∀ s ∈ S, Ok4 s) (hw : ∀ w ∈ a, w.length = 4) (cR : Canon R (AH rim S A))
    (cW : Canon W (UpS N)) (sub : ∀ m ∈ W, m ∈ N) (hN : ∀ t, t ∈ N ↔ t ∈ (a.flatMap fun w => S.map (need4 w)) ∧ rimOk rim t) (hF : ∀ t, t ∈ F ↔ ∃ f ∈ R, ∃ w ∈ W, t = join4 f w) (c : Canon R' (UpS F)) : Canon R' (AH rim S (A ++ [a])) := by
  refine c.congr fun x hx => ⟨?_, ?_⟩
  · rintro ⟨t, ht, l⟩
    obtain ⟨f, mf, w, mw, e⟩ := (hF t).mp ht
    have of := cR.ok f mf
    have ow := cW.ok w mw
    have ot : Ok4 t := by rw [e]; exact join4_ok of ow
    obtain ⟨lf, lw⟩ := (join4_le of ow ot).mp (by rw [← e]; exact le4_refl ot)
    have ro : rimOk rim t := fun r er => by
      have o4 : Ok4 [r, r, r, r] := by
        obtain ⟨p1, p2, p3, p4, rfl, q1, q2, q3, q4⟩ := of
        have := ah_in cR _ mf r er
        obtain ⟨z1, z2, z3, z4⟩ := le4_iff.mp this
        exact ⟨r, r, r, r, rfl, by omega, by omega, by omega, by omega⟩
      rw [e]
      exact (join4_le of ow o4).mpr ⟨ah_in cR f mf r er, ((hN w).mp (sub w mw)).2 r er⟩
    refine ⟨t, ot, l, ro, fun a' ha => ?_⟩
    rcases List.mem_append.mp ha with ha | ha
    · obtain ⟨z, oz, lz, _, all⟩ := (cR.up t ot).mp ⟨f, mf, lf⟩
      obtain ⟨w', mw', o', u'⟩ := all a' ha
      obtain ⟨o2, l2⟩ := add4_le lz o'
      exact ⟨w', mw', o2, u'.mono l2⟩
    · rw [List.mem_singleton.mp ha]
      exact (needs_upS hS hw ot).mp ⟨w, ((hN w).mp (sub w mw)).1, lw⟩
  · rintro ⟨z, oz, lz, ro, all⟩
    obtain ⟨f, mf, lf⟩ := (cR.up z oz).mpr ⟨z, oz, le4_refl oz, ro, fun a' h => all a' (List.mem_append_left _ h)⟩
    obtain ⟨n, mn, ln⟩ := (needs_upS hS hw oz).mpr (all a (List.mem_append_right _ List.mem_cons_self))
    have nin : n ∈ N := (hN n).mpr ⟨mn, ro.down ln⟩
    obtain ⟨w, mw, lw⟩ := (cW.up z oz).mpr ⟨n, nin, ln⟩
    have of := cR.ok f mf
    have ow := cW.ok w mw
    exact ⟨_, (hF _).mpr ⟨f, mf, w, mw, rfl⟩, le4_trans ((join4_le of ow oz).mpr ⟨lf, lw⟩) lz⟩
def spMore (K : PySem.W.Frag) : Sp := fun vs H Q _ => ∃ (x y : V) (h : Asks) (S : List (List Int)) (r : Int) (kd wy : Nat), vs = [x, y, .int r] ∧ Dp K H x (houseD h) ∧ HsL h kd wy ∧ Dp K H y (stsD S) ∧ (∀ s ∈ S, StK kd s) ∧ 0 ≤ r ∧ 40 * (wy * S.length) < 4096 ∧
  ∀ (q : Addr) (H' : Hp) (ps : List V) (R : List (List Int)), Same H H' → H q = none → H' q = some (.lst ps) → DpAll K H' ps (R.map wayD) → (∀ r ∈ R, StK kd r) → (Canon (R.map four) (AH (some r) (S.map four) (asks4 h)) ∨ 40 < R.length ∧ 2 ≤ h.length) → Q (.ref q) H'
section
variable {P : Program} {w : World} {K : PySem.W.Frag} {mg : Str → Option Value} {base : Heap}
theorem scMore : FnScope ["house", "lows", "most", "found", "ask", "mine", "way", "store", "both", "low", "a", "b", "other"] ["house", "lows", "most"] (defScope sMore) := ⟨rfl, rfl, rfl, by decide +kernel, rfl, by decide +kernel, by decide +kernel⟩
theorem ok_more {f fL : Addr} {fd fdL : FuncData} {k : Nat} (F : Fun K "_law_more" "_law_more" sMore f fd)
    (GL : FnOk P w K mg base CX0 (k + 3) fL fdL ["some"] (spLowest K)) (kL : PySem.W.keepIn K (.ref fL) = true) (bL : Binds K fdL ["some"] []) (gL : mg "_law_lowest" = some (.ref fL))
    (ml : mg "len" = none) (mx : mg "max" = none) (mt : mg "tuple" = none) (mz : mg "zip" = none) : FnOk P w K mg base CX0 (k + 4) f fd ["house", "lows", "most"] (spMore K) := by
  refine F.ok scMore (fun vs H Q E h => ?_) (fun cdv A outer s0 H vs Q E hr h => ?_)
  · obtain ⟨x, y, h, S, r, kd, wy, rfl, _⟩ := h
    rfl
  · obtain ⟨x, y, h, S, r, kd, wy, rfl, hx, o, hy, okS, r0, fw, q⟩ := h
    refine ⟨_, pss_cons (ps_set (i := 3) scMore.nd rfl (.inl rfl) (pe_lst (pa_cons (pe_op op_repS (pe_tup (pa_cons pe_int pa_nil)) (pe_callB call_len_seq (by rfl) ml PySem.boot_len (pa_cons (pe_ix ix_tup (pe_ix ix_tup (pv 0) pe_int (fun _ _ => rfl)) pe_int (fun _ _ => rfl)) pa_nil))) pa_nil)))
      (pss_cons (ps_for PassesOwn.never rfl (pi_tup (pv 0)) (pg_name (i := 4) scMore.nd rfl (.inl rfl)) (pss_cons (ps_set (i := 5) scMore.nd rfl (.inl rfl) (pe_lst pa_nil))
      (pss_cons (ps_for PassesOwn.never rfl (pi_tup (pv 4)) (pg_name (i := 6) scMore.nd rfl (.inr rfl)) (pss_one (ps_expr (pe_bm PySem.F.plainAttrs_list PySem.F.slot_list_extend PySem.F.type_list_extend mt_extend (pv 5) (pa_cons (pe_lc (own := [("low", 9)]) (g := gName 9) (tt := tYes) (te := (tCB (rTupOf K) (tCons (tLc (RZ.iZipA K (tCons (tVar 9) (tCons (tVar 6) tNil))) (gTup K 2 (gCons (gName 10) (gCons (gName 11) gNil))) tYes (tCB rMax2 (tCons (tC (.int 0)) (tCons (tOp (rI0 fun i j => .int (i - j)) (tVar 10) (tVar 11)) tNil))) [10, 11]) tNil))) rfl scMore.nd (pi_list (pv 1))
        (blkOk_by (N := ["house", "lows", "most", "found", "ask", "mine", "way", "store", "both", "low", "a", "b", "other"]) (sc := defScope sMore) (by decide +kernel)) (fun _ _ _ _ _ => by exact (pg_name (i := 9) scMore.nd rfl (.inl rfl))) (fun _ _ _ _ _ => pts_nil)
        (fun _ _ _ _ _ => by exact (by
          refine pe_callTy call_tuple_of (by rfl) mt (by decide +kernel) (pa_cons ?_ pa_nil)
          refine pe_lc (wi := RZ.iZipA K (tCons (tVar 9) (tCons (tVar 6) tNil))) (own := [("a", 10), ("b", 11)]) (g := (gTup K 2 (gCons (gName 10) (gCons (gName 11) gNil)))) (tt := tYes) (te := tCB rMax2 (tCons (tC (.int 0)) (tCons (tOp (rI0 fun i j => .int (i - j)) (tVar 10) (tVar 11)) tNil))) ?_ ?_ ?_ ?_ ?_ ?_ ?_
          · rfl
          · exact scMore.nd
          · exact (pi_zipA (by rfl) mz (pa_cons (pv 9) (pa_cons (pv 6) pa_nil)))
          · exact blkOk_by (N := ["house", "lows", "most", "found", "ask", "mine", "way", "store", "both", "low", "a", "b", "other"]) (sc := lcSc [(".0", .local), ("low", .local), ("tuple", .globalImplicit), ("zip", .globalImplicit), ("way", .cell)]) (by decide +kernel)
          · exact fun _ _ _ _ _ => by refine pg_tup rfl (pgs_cons ?_ (pgs_cons ?_ pgs_nil)); exact pg_name (i := 10) scMore.nd rfl (.inl rfl); exact pg_name (i := 11) scMore.nd rfl (.inl rfl)
          · exact fun _ _ _ _ _ => pts_nil
          · exact fun _ _ _ _ _ => by exact (pe_callB (call_max2 rfl) (by rfl) mx (by decide +kernel) (pa_cons pe_int (pa_cons (pe_op op_sub (pv 10) (pv 11)) pa_nil)))))) pa_nil)))))
      (pss_cons (ps_set (i := 5) scMore.nd rfl (.inl rfl) (pe_call GL hr (by rfl) gL kL bL .nil pass0 (pa_cons (pe_lc (own := [("store", 7)]) (g := gName 7) (tt := (tTest (tOp (rI0 fun i j => .bl (decide (i ≤ j))) (tCB (rMaxT K) (tCons (tVar 7) tNil)) (tVar 2)))) rfl scMore.nd (pi_list (pv 5))
        (blkOk_by (N := ["house", "lows", "most", "found", "ask", "mine", "way", "store", "both", "low", "a", "b", "other"]) (sc := defScope sMore) (by decide +kernel)) (fun _ _ _ _ _ => by exact (pg_name (i := 7) scMore.nd rfl (.inl rfl))) (fun _ _ _ _ _ => by exact pts_one (pt_cmpR op_le (pe_callB (cr_maxT rfl hr) (by rfl) mx (by decide +kernel) (pa_cons (pv 7) pa_nil)) (pv 2) (nomark _)))
        (fun _ _ _ _ _ => by exact (pv 7))) pa_nil)))
      (pss_cons (ps_set (i := 8) scMore.nd rfl (.inl rfl) (pe_lst pa_nil))
      (pss_cons (ps_for PassesOwn.never rfl (pi_list (pv 3)) (pg_name (i := 7) scMore.nd rfl (.inr rfl)) (pss_one (ps_expr (pe_bm PySem.F.plainAttrs_list PySem.F.slot_list_extend PySem.F.type_list_extend mt_extend (pv 8) (pa_cons (pe_lc (own := [("other", 12)]) (g := gName 12) (tt := tYes) (te := (tCB (rTupOf K) (tCons (tLc (RZ.iZipA K (tCons (tVar 7) (tCons (tVar 12) tNil))) (gTup K 2 (gCons (gName 10) (gCons (gName 11) gNil))) tYes (tCB rMax2 (tCons (tVar 10) (tCons (tVar 11) tNil))) [10, 11]) tNil))) rfl scMore.nd (pi_list (pv 5))
        (blkOk_by (N := ["house", "lows", "most", "found", "ask", "mine", "way", "store", "both", "low", "a", "b", "other"]) (sc := defScope sMore) (by decide +kernel)) (fun _ _ _ _ _ => by exact (pg_name (i := 12) scMore.nd rfl (.inl rfl))) (fun _ _ _ _ _ => pts_nil)
        (fun _ _ _ _ _ => by exact (by
          refine pe_callTy call_tuple_of (by rfl) mt (by decide +kernel) (pa_cons ?_ pa_nil)
          refine pe_lc (wi := RZ.iZipA K (tCons (tVar 7) (tCons (tVar 12) tNil))) (own := [("a", 10), ("b", 11)]) (g := (gTup K 2 (gCons (gName 10) (gCons (gName 11) gNil)))) (tt := tYes) (te := tCB rMax2 (tCons (tVar 10) (tCons (tVar 11) tNil))) ?_ ?_ ?_ ?_ ?_ ?_ ?_
          · rfl
          · exact scMore.nd
          · exact (pi_zipA (by rfl) mz (pa_cons (pv 7) (pa_cons (pv 12) pa_nil)))
          · exact blkOk_by (N := ["house", "lows", "most", "found", "ask", "mine", "way", "store", "both", "low", "a", "b", "other"]) (sc := lcSc [(".0", .local), ("other", .local), ("tuple", .globalImplicit), ("zip", .globalImplicit), ("store", .cell)]) (by decide +kernel)
          · exact fun _ _ _ _ _ => by refine pg_tup rfl (pgs_cons ?_ (pgs_cons ?_ pgs_nil)); exact pg_name (i := 10) scMore.nd rfl (.inl rfl); exact pg_name (i := 11) scMore.nd rfl (.inl rfl)
          · exact fun _ _ _ _ _ => pts_nil
          · exact fun _ _ _ _ _ => by exact (pe_callB (call_max2 rfl) (by rfl) mx (by decide +kernel) (pa_cons (pv 10) (pa_cons (pv 11) pa_nil)))))) pa_nil)))))
      (pss_cons (ps_set (i := 3) scMore.nd rfl (.inl rfl) (pe_call GL hr (by rfl) gL kL bL .nil pass0 (pa_cons (pv 8) pa_nil)))
      (pss_one (ps_if (pt_cmpR op_gt (pe_callB call_len_seq (by rfl) ml PySem.boot_len (pa_cons (pv 3) pa_nil)) pe_int (nomark _)) (pss_one (ps_ret (pv 3))) pss_nil)))))))))
      (pss_one (ps_ret (pv 3)))), ?_⟩
    -- sem
    have k1 := o.k1
    have k4 := o.k4
    obtain ⟨l, vs, rfl, hL, hall⟩ := sts_of hy
    have lvs := sts_len hall
    obtain ⟨a0, l0, h0, hl0⟩ := o.first
    have ma0 := List.mem_of_getElem? h0
    have ml0 := o.len a0 ma0 l0 (List.mem_of_getElem? hl0)
    have wy1 : 1 ≤ wy := Nat.le_trans (by have := (List.getElem?_eq_some_iff.mp hl0).1; omega) (o.ways a0 ma0)
    obtain ⟨xa, as, rfl, hX, hA⟩ := tupv_of hx
    obtain ⟨v0, hv0, dv0⟩ := dpAll_getD (i := 0) (d := askD a0) hA (by rw [List.getElem?_map, h0]; rfl)
    obtain ⟨ya, ws0, rfl, hY, hW0⟩ := tupv_of dv0
    obtain ⟨w0, hw0, dw0⟩ := dpAll_getD (i := 0) (d := wayD l0) hW0 (by rw [List.getElem?_map, hl0]; rfl)
    obtain ⟨wa, rfl, hWa⟩ := way_of dw0
    have N1 : wy * S.length < 4096 := by omega
    have lS : S.length < 4096 := Nat.lt_of_le_of_lt (Nat.le_mul_of_pos_left _ wy1) N1
    have r0' : ∀ r', some r = some r' → 0 ≤ r' := fun r' e => by cases e; exact r0
    have okS4 : ∀ s ∈ S.map four, Ok4 s := fun s hs => by
      obtain ⟨t, ht, rfl⟩ := List.mem_map.mp hs
      exact (okS t ht).four k1 k4
    refine ⟨by show 1 ≤ sizeLine; decide, fun N nN => ?_⟩
    have sN := same_upd (o := .tup [V.int 0]) nN
    refine ⟨_, rfl, xa, as, 0, .ref ya, rfl, rfl, sN.seqT hX, atI_nat (j := 0) hv0, ya, ws0, 0, .ref wa, rfl, rfl, sN.seqT hY, atI_nat (j := 0) hw0, wa, _, rfl, .inr (sN.seqT hWa), N, _, V.int 0, rfl, rfl, SqT.of upd_same, by omega, by rw [List.length_map, ml0]; omega, fun p H1 s1 hp => ?_⟩
    refine ⟨by show 1 ≤ sizeLine; decide, fun F0 nF => ?_⟩
    have sF := same_upd (o := .lst [V.ref p]) nF
    have s01 := (sN.trans s1).trans sF
    have dz : Dp K (upd H1 F0 (.lst [V.ref p])) (.ref p) (wayD (List.replicate kd 0)) := by
      refine of_way (sF.seqT ?_)
      rw [List.map_replicate]
      rw [List.length_map, ml0] at hp
      exact hp
    have stz : StK kd (List.replicate kd 0) := ⟨List.length_replicate, fun z hz => by rw [List.eq_of_mem_replicate hz]; decide⟩
    refine ⟨_, rfl, xa, rfl, ⟨_, s01.seqT hX⟩, ?_⟩
    refine for_tup (K := K) (a := xa) (xs := as) (fun i σ H1 => ∃ (y4 y5 y6 y7 y8 : Option V) (q0 : Addr) (ps : List V) (R : List (List Int)), σ = [some (.ref xa), some (.ref l), some (.int r), some (.ref q0), y4, y5, y6, y7, y8, none, none, none, none] ∧
      Same H H1 ∧ H q0 = none ∧ H1 q0 = some (.lst ps) ∧ DpAll K H1 ps (R.map wayD) ∧ (∀ r ∈ R, StK kd r) ∧ Canon (R.map four) (AH (some r) (S.map four) ((asks4 h).take i)) ∧ R.length ≤ 40)
      ⟨none, none, none, none, none, F0, [.ref p], [List.replicate kd 0], rfl, s01, (sN.trans s1).free nF, upd_same, .cons dz .nil, fun r hr => by rw [List.mem_singleton.mp hr]; exact stz, ?_, by show 1 ≤ 40; decide⟩ (fun i σ H1 _ ⟨_, _, _, _, _, _, _, _, _, s1, _⟩ => s1.seqT hX) ?_ ?_
    · rw [List.map_cons, four_zero k1 k4]
      exact ah_zero r0' _
    · clear s01 dz sF nF hp s1 H1 p F0
      rintro i v σ H1 hi ⟨y4, y5, y6, y7, y8, q0, ps, R, rfl, s1, n0, hq0, dR, okR, cR, lR⟩
      obtain ⟨d, hd, dv⟩ := dpAll_get (dpAll_same s1 hA) hi
      rw [List.getElem?_map] at hd
      obtain ⟨a, ha, rfl⟩ := Option.map_eq_some_iff.mp hd
      have ma := List.mem_of_getElem? ha
      have ihl := (List.getElem?_eq_some_iff.mp ha).1
      obtain ⟨aa, ws, rfl, hAa, hWs⟩ := tupv_of dv
      have lws := sts_len hWs
      have ak := o.len a ma
      have la : a.length * S.length ≤ wy * S.length := Nat.mul_le_mul_right _ (o.ways a ma)
      have lps := sts_len dR
      -- what the ways want
      refine ⟨by show 0 ≤ sizeLine; decide, fun W nW => ?_⟩
      have sW := same_upd (o := .lst []) nW
      refine ⟨_, rfl, aa, rfl, ⟨_, sW.seqT hAa⟩, ?_⟩
      refine for_tup (K := K) (a := aa) (xs := ws) (fun j σ H2 => ∃ (y6 : Option V) (us : List V) (U : List (List Int)), σ = [some (.ref xa), some (.ref l), some (.int r), some (.ref q0), some (.ref aa), some (.ref W), y6, y7, y8, none, none, none, none] ∧
        Same H1 H2 ∧ H2 W = some (.lst us) ∧ DpAll K H2 us (U.map wayD) ∧ U = (a.take j).flatMap fun w => S.map (need4 w))
        ⟨y6, [], [], rfl, sW, upd_same, .nil, rfl⟩ (fun j σ H2 _ ⟨_, _, _, _, s2, _⟩ => s2.seqT hAa) ?_ ?_
      · rintro j u σ H2 hj ⟨y6', us, U, rfl, s2, hW, dU, eU⟩
        obtain ⟨w, hw, dw⟩ := sts_get (dpAll_same s2 hWs) hj
        obtain ⟨ua, rfl, hUa⟩ := way_of dw
        have mw := List.mem_of_getElem? hw
        have s12 := s1.trans s2
        have lus := sts_len dU
        have lU : U.length ≤ wy * S.length := by
          rw [eU, flatM_len, List.length_take]
          exact Nat.le_trans (Nat.mul_le_mul_right _ (Nat.min_le_right _ _)) la
        refine ⟨_, rfl, .inl ⟨rfl, _, SqL.of hW⟩, ?_⟩
        refine ⟨_, rfl, l, rfl, ⟨_, s12.seq hL⟩, fun D nD => ?_⟩
        have sD := same_upd (o := .lst []) nD
        refine lc_list (K := K) (a := l) (xs := vs) (fun m H3 => Same H2 H3 ∧ ∃ ds, H3 D = some (.lst ds) ∧ DpAll K H3 ds (((S.take m).map (need4 w)).map wayD)) ⟨sD, [], upd_same, .nil⟩ (fun m H3 _ ⟨s3, _⟩ => (s12.trans s3).seq hL) ?_ ?_
        · rintro m z H3 hm ⟨s3, ds, hD, dd⟩
          obtain ⟨s, hs, dz⟩ := sts_get (dpAll_same (s12.trans s3) hall) hm
          have oks := okS s (List.mem_of_getElem? hs)
          obtain ⟨za, rfl, hZ⟩ := way_of dz
          have lds := sts_len dd
          rw [List.length_map, List.length_take] at lds
          have lw : w.length = s.length := by rw [ak w mw, oks.1]
          have l4 : s.length ≤ 4 := by rw [oks.1]; exact k4
          refine ⟨rfl, ?_⟩
          refine ⟨_, rfl, _, rfl, za, ua, _, _, rfl, .inr ⟨hZ, s3.seqT hUa, fun D2 nD2 => ?_⟩⟩
          have sD2 := same_upd (o := .lst []) nD2
          have lg : (need4 w s).length = s.length := by unfold need4; rw [List.length_zipWith, lw, Nat.min_self]
          refine lc_it (walk_zipT (K := K) (a := za) (b := ua) (xs := s.map V.int) (ys := w.map V.int) (n := s.length) (by rw [List.length_map, List.length_map, lw, Nat.min_self])) (fun c H4 => Same H3 H4 ∧ H4 D2 = some (.lst (((need4 w s).take c).map V.int))) ⟨sD2, upd_same⟩ ?_ ?_ ?_
          · rintro c H4 _ ⟨s4, _⟩
            exact ⟨s4.seqT hZ, s4.seqT (s3.seqT hUa)⟩
          · rintro c v H4 H5 hc ⟨s4, hD2⟩ ⟨Z, z1, z2, rfl, nZ, rfl, g1, g2⟩
            obtain ⟨u1, e1, rfl⟩ := ints_get g1
            obtain ⟨u2, e2, rfl⟩ := ints_get g2
            have sZ := same_upd (o := .tup [V.int u1, V.int u2]) nZ
            refine ⟨Z, _, rfl, SqT.of upd_same, rfl, _, _, rfl, _, _, rfl, rfl, rfl, ?_⟩
            refine ⟨_, rfl, _, rfl, u1, u2, rfl, rfl, 0, u1 - u2, rfl, ?_⟩
            refine ⟨_, sZ _ _ hD2, ?_, fun b o' e => ?_, ?_⟩
            · rw [List.length_map, List.length_take]
              exact small_line (by omega)
            · rw [upd_ne (ne_of_none e nD2)]
              exact sZ _ _ (s4 _ _ e)
            · have e3 := zip_take (f := fun x y : Int => max 0 (y - x)) e2 e1
              rw [upd_same]
              unfold need4
              rw [e3, List.map_append, show (if u1 - u2 > 0 then u1 - u2 else 0) = max 0 (u1 - u2) by split <;> omega]
              rfl
          rintro H4 ⟨s4, hD2⟩
          rw [List.take_of_length_le (by omega)] at hD2
          refine ⟨D2, _, rfl, .inl ⟨SqL.of hD2, fun e ne => ?_⟩⟩
          have se := same_upd (o := .tup ((need4 w s).map V.int)) ne
          have s4e := s4.trans se
          refine ⟨ds, s4e _ _ hD, small_line (by omega), fun b o' e' => ?_, ds ++ [.ref e], upd_same, ?_⟩
          · rw [upd_ne (ne_of_none e' nD)]
            exact s4e _ _ (s3 _ _ e')
          · rw [take_snoc hs, List.map_append]
            exact dpAll_put (s4e _ _ hD) (dpAll_app1 (dpAll_same s4e dd) (dp_tup ne (dpAll_ints _))) (noLAll_map noL_way _)
        · rintro H3 ⟨s3, ds, hD, dd⟩
          rw [take_all lvs] at dd
          have lds := sts_len dd
          rw [List.length_map] at lds
          refine ⟨W, D, us, ds, rfl, rfl, s3 _ _ hW, hD, Nat.le_of_lt (small_line (by omega)), ?_⟩
          refine ⟨_, us ++ ds, U ++ S.map (need4 w), rfl, fun b o' e' => ?_, upd_same, ?_, ?_⟩
          · rw [upd_ne (ne_of_none e' nW)]
            exact s3 _ _ (s2 _ _ e')
          · rw [List.map_append]
            refine dpAll_put (s3 _ _ hW) (dpAll_app (dpAll_same s3 dU) dd) ?_
            rw [← List.map_append]
            exact noLAll_map noL_way _
          · rw [eU, take_snoc hw, List.flatMap_append]
            simp
      rintro σ H2 ⟨y6', us, U, rfl, s2, hW, dU, eU⟩
      rw [take_all lws] at eU
      have lU : U.length ≤ wy * S.length := by rw [eU, flatM_len]; exact la
      have okU : ∀ t ∈ U, StK kd t := by
        rw [eU]
        exact all_flat fun x mx y my => need_stk (ak x mx) (okS y my).1
      have lus := sts_len dU
      -- those within the bound
      refine ⟨_, rfl, W, rfl, ⟨_, SqL.of hW⟩, fun D nD => ?_⟩
      have sD := same_upd (o := .lst []) nD
      refine lc_list (K := K) (a := W) (xs := us) (fun m H6 => Same H2 H6 ∧ ∃ ds, H6 D = some (.lst ds) ∧ DpAll K H6 ds (((U.take m).filter (rimB (some r))).map wayD)) ⟨sD, [], upd_same, .nil⟩ (fun m H6 _ ⟨s6, _⟩ => SqL.of (s6 _ _ hW)) ?_ ?_
      · rintro m z H6 hm ⟨s6, ds, hD, dd⟩
        obtain ⟨t, ht, dz⟩ := sts_get (dpAll_same s6 dU) hm
        have okt := okU t (List.mem_of_getElem? ht)
        have lds := sts_len dd
        have lf := List.length_filter_le (rimB (some r)) (U.take m)
        rw [List.length_take] at lf
        obtain ⟨ta, rfl, hT⟩ := way_of dz
        obtain ⟨n, ns, rfl⟩ : ∃ n ns, t = n :: ns := by
          cases t with
          | nil => have := okt.1; rw [List.length_nil] at this; omega
          | cons n ns => exact ⟨n, ns, rfl⟩
        refine ⟨rfl, ?_⟩
        refine ⟨_, rfl, ta, n, ns, rfl, hT, _, rfl, _, r, rfl, rfl, _, rfl, ?_⟩
        have eb : decide (ns.foldl max n ≤ r) = rimB (some r) (n :: ns) := by
          rw [Bool.eq_iff_iff, decide_eq_true_eq, foldl_max_le]
          simp [rimB]
        rw [eb]
        cases c : rimB (some r) (n :: ns) with
        | true =>
          refine ifT rfl ⟨_, rfl, ds, hD, small_line (by omega), fun b o' e' => ?_, ds ++ [.ref ta], upd_same, ?_⟩
          · rw [upd_ne (ne_of_none e' nD)]
            exact s6 _ _ e'
          · rw [take_snoc ht, List.filter_append, show [n :: ns].filter (rimB (some r)) = [n :: ns] by rw [List.filter_cons, if_pos c]; rfl]
            exact dpAll_put hD (dpAll_app1 dd (of_way hT)) (noLAll_map noL_way _)
        | false =>
          refine ifF rfl ⟨s6, ds, hD, ?_⟩
          rw [take_snoc ht, List.filter_append, show [n :: ns].filter (rimB (some r)) = [] by rw [List.filter_cons, if_neg (by rw [c]; decide)]; rfl, List.append_nil]
          exact dd
      rintro H3 ⟨s3, ds, hD, dd⟩
      rw [take_all lus] at dd
      have lf := List.length_filter_le (rimB (some r)) U
      refine ⟨.ref D, _, kd, rfl, .lst (SqL.of hD) dd, fun t ht => okU t (List.mem_filter.mp ht).1, k1, k4, by omega, fun q1 H4 ps1 W1 s4 n1 hq1 d1 ok1 c1 len1 mem1 => ?_⟩
      have s14 := s2.trans (s3.trans s4)
      have lps1 := sts_len d1
      refine ⟨by show 0 ≤ sizeLine; decide, fun B nB => ?_⟩
      have sB := same_upd (o := .lst []) nB
      -- what covers what was found and what is wanted
      refine ⟨_, rfl, q0, rfl, ⟨_, SqL.of (sB _ _ (s14 _ _ hq0))⟩, ?_⟩
      have lRW : R.length * W1.length < 4096 := by
        have := Nat.mul_le_mul lR (Nat.le_trans len1 (Nat.le_trans lf lU))
        omega
      refine for_list (K := K) (a := q0) (xs := ps) (fun j σ H5 => ∃ (y7 : Option V) (us : List V) (B4 : List (List Int)), σ = [some (.ref xa), some (.ref l), some (.int r), some (.ref q0), some (.ref aa), some (.ref q1), y6', y7, some (.ref B), none, none, none, none] ∧
        Same H4 H5 ∧ H5 B = some (.lst us) ∧ DpAll K H5 us (B4.map wayD) ∧ B4 = (R.take j).flatMap fun f => W1.map (join4 f))
        ⟨y7, [], [], rfl, sB, upd_same, .nil, rfl⟩ (fun j σ H5 _ ⟨_, _, _, _, s5, _⟩ => SqL.of (s5 _ _ (s14 _ _ hq0))) ?_ ?_
      · rintro j u σ H5 hj ⟨y7', us', B4, rfl, s5, hB, dB, eB⟩
        obtain ⟨f', hf, df⟩ := sts_get (dpAll_same (s14.trans s5) dR) hj
        obtain ⟨fa, rfl, hFa⟩ := way_of df
        have mf := List.mem_of_getElem? hf
        have okf := okR f' mf
        have lus' := sts_len dB
        have lB : B4.length ≤ R.length * W1.length := by
          rw [eB, flatM_len, List.length_take]
          exact Nat.mul_le_mul_right _ (Nat.min_le_right _ _)
        refine ⟨_, rfl, .inl ⟨rfl, _, SqL.of hB⟩, ?_⟩
        refine ⟨_, rfl, q1, rfl, ⟨_, SqL.of (s5 _ _ hq1)⟩, fun D nD => ?_⟩
        have sD := same_upd (o := .lst []) nD
        refine lc_list (K := K) (a := q1) (xs := ps1) (fun m H6 => Same H5 H6 ∧ ∃ ds, H6 D = some (.lst ds) ∧ DpAll K H6 ds (((W1.take m).map (join4 f')).map wayD)) ⟨sD, [], upd_same, .nil⟩ (fun m H6 _ ⟨s6, _⟩ => SqL.of (s6 _ _ (s5 _ _ hq1))) ?_ ?_
        · rintro m z H6 hm ⟨s6, ds, hD, dd⟩
          obtain ⟨s, hs, dz⟩ := sts_get (dpAll_same (s5.trans s6) d1) hm
          have oks := ok1 s (List.mem_of_getElem? hs)
          obtain ⟨za, rfl, hZ⟩ := way_of dz
          have lds := sts_len dd
          rw [List.length_map, List.length_take] at lds
          have lw : f'.length = s.length := by rw [okf.1, oks.1]
          have l4 : s.length ≤ 4 := by rw [oks.1]; exact k4
          refine ⟨rfl, ?_⟩
          refine ⟨_, rfl, _, rfl, fa, za, _, _, rfl, .inr ⟨s6.seqT hFa, hZ, fun D2 nD2 => ?_⟩⟩
          have sD2 := same_upd (o := .lst []) nD2
          have lg : (join4 f' s).length = f'.length := by unfold join4; rw [List.length_zipWith, lw, Nat.min_self]
          refine lc_it (walk_zipT (K := K) (a := fa) (b := za) (xs := f'.map V.int) (ys := s.map V.int) (n := f'.length) (by rw [List.length_map, List.length_map, lw, Nat.min_self])) (fun c H7 => Same H6 H7 ∧ H7 D2 = some (.lst (((join4 f' s).take c).map V.int))) ⟨sD2, upd_same⟩ ?_ ?_ ?_
          · rintro c H7 _ ⟨s7, _⟩
            exact ⟨s7.seqT (s6.seqT hFa), s7.seqT hZ⟩
          · rintro c v H7 H8 hc ⟨s7, hD2⟩ ⟨Z, z1, z2, rfl, nZ, rfl, g1, g2⟩
            obtain ⟨u1, e1, rfl⟩ := ints_get g1
            obtain ⟨u2, e2, rfl⟩ := ints_get g2
            have sZ := same_upd (o := .tup [V.int u1, V.int u2]) nZ
            refine ⟨Z, _, rfl, SqT.of upd_same, rfl, _, _, rfl, _, _, rfl, rfl, rfl, ?_⟩
            refine ⟨_, rfl, _, rfl, u1, u2, rfl, ?_⟩
            refine ⟨_, sZ _ _ hD2, ?_, fun b o' e => ?_, ?_⟩
            · rw [List.length_map, List.length_take]
              exact small_line (by omega)
            · rw [upd_ne (ne_of_none e nD2)]
              exact sZ _ _ (s7 _ _ e)
            · have e3 := zip_take (f := (max : Int → Int → Int)) e1 e2
              rw [upd_same]
              unfold join4
              rw [e3, List.map_append, show (if u2 > u1 then u2 else u1) = max u1 u2 by split <;> omega]
              rfl
          rintro H7 ⟨s7, hD2⟩
          rw [List.take_of_length_le (by omega)] at hD2
          refine ⟨D2, _, rfl, .inl ⟨SqL.of hD2, fun e ne => ?_⟩⟩
          have se := same_upd (o := .tup ((join4 f' s).map V.int)) ne
          have s7e := s7.trans se
          refine ⟨ds, s7e _ _ hD, small_line (by omega), fun b o' e' => ?_, ds ++ [.ref e], upd_same, ?_⟩
          · rw [upd_ne (ne_of_none e' nD)]
            exact s7e _ _ (s6 _ _ e')
          · rw [take_snoc hs, List.map_append]
            exact dpAll_put (s7e _ _ hD) (dpAll_app1 (dpAll_same s7e dd) (dp_tup ne (dpAll_ints _))) (noLAll_map noL_way _)
        · rintro H6 ⟨s6, ds, hD, dd⟩
          rw [take_all lps1] at dd
          have lds := sts_len dd
          rw [List.length_map] at lds
          refine ⟨B, D, us', ds, rfl, rfl, s6 _ _ hB, hD, Nat.le_of_lt (small_line (by omega)), ?_⟩
          refine ⟨_, us' ++ ds, B4 ++ W1.map (join4 f'), rfl, fun b o' e' => ?_, upd_same, ?_, ?_⟩
          · rw [upd_ne (ne_of_none e' nB)]
            exact s6 _ _ (s5 _ _ e')
          · rw [List.map_append]
            refine dpAll_put (s6 _ _ hB) (dpAll_app (dpAll_same s6 dB) dd) ?_
            rw [← List.map_append]
            exact noLAll_map noL_way _
          · rw [eB, take_snoc hf, List.flatMap_append]
            simp
      rintro σ H5 ⟨y7', us', B4, rfl, s5, hB, dB, eB⟩
      rw [take_all lps] at eB
      have lB : B4.length < 4096 := by rw [eB, flatM_len]; exact lRW
      have okB : ∀ t ∈ B4, StK kd t := by
        rw [eB]
        exact all_flat fun x mx y my => join_stk (okR x mx) (ok1 y my)
      refine ⟨_, rfl, .ref B, B4, kd, rfl, .lst (SqL.of hB) dB, okB, k1, k4, lB, fun q2 H7 ps2 R2 s7 n2 hq2 d2 ok2 c2 len2 mem2 => ?_⟩
      have lps2 := sts_len d2
      have s16 := (s1.trans s14).trans s5
      have sAll := s16.trans s7
      have h4 : (asks4 h)[i]? = some (a.map four) := by
        unfold asks4
        rw [List.getElem?_map, ha]
        rfl
      have can : Canon (R2.map four) (AH (some r) (S.map four) ((asks4 h).take (i + 1))) := by
        rw [take_snoc h4]
        refine ah_step2 okS4 ?_ cR (W := W1.map four) (N := (U.filter (rimB (some r))).map four) (F := B4.map four) c1 ?_ ?_ ?_ c2
        · intro w4 hw4
          obtain ⟨w', hw', rfl⟩ := List.mem_map.mp hw4
          exact four_len (by rw [ak w' hw']; exact k4)
        · intro t ht
          obtain ⟨t', ht', rfl⟩ := List.mem_map.mp ht
          exact List.mem_map.mpr ⟨t', mem1 t' ht', rfl⟩
        · intro t
          rw [← four_needs k4 okS ak, ← eU]
          constructor
          · intro ht
            obtain ⟨t', ht', rfl⟩ := List.mem_map.mp ht
            obtain ⟨g1, g2⟩ := List.mem_filter.mp ht'
            exact ⟨List.mem_map.mpr ⟨t', g1, rfl⟩, (rimB_ok r0' (by rw [(okU t' g1).1]; exact k4)).mp g2⟩
          · rintro ⟨ht, ro⟩
            obtain ⟨t', ht', rfl⟩ := List.mem_map.mp ht
            exact List.mem_map.mpr ⟨t', List.mem_filter.mpr ⟨ht', (rimB_ok r0' (by rw [(okU t' ht').1]; exact k4)).mpr ro⟩, rfl⟩
        · intro t
          have e := mem_fourF (rim := none) (fun r' e => (nomatch e)) (R := R) (W := W1) k4 okR ok1 t
          rw [show ((R.flatMap fun f => W1.map (join4 f)).filter (rimB none)) = B4 by rw [eB]; exact List.filter_eq_self.mpr fun _ _ => rfl] at e
          rw [e]
          exact ⟨fun z => z.1, fun z => ⟨z, fun r' e => (nomatch e)⟩⟩
      refine ⟨_, rfl, q2, ps2, rfl, .inl (SqL.of hq2), _, 40, rfl, rfl, _, rfl, ite2 (fun c => ?_) (fun c => ?_)⟩
      · have c := of_decide_eq_true c
        refine ⟨_, rfl, q q2 H7 ps2 R2 sAll (s16.free n2) hq2 d2 ok2 ?_⟩
        by_cases e : i + 1 = h.length
        · refine .inl ?_
          rw [List.take_of_length_le (by unfold asks4; rw [List.length_map]; omega)] at can
          exact can
        · exact .inr ⟨by omega, by omega⟩
      · have c : ¬ (40 : Int) < ps2.length := fun z => c (decide_eq_true z)
        exact ⟨_, _, _, _, _, q2, ps2, R2, rfl, sAll, s16.free n2, hq2, d2, ok2, can, by omega⟩
    · rintro σ H1 ⟨y4, y5, y6, y7, y8, q0, ps, R, rfl, s1, n0, hq0, dR, okR, cR, lR⟩
      refine ⟨_, rfl, q q0 H1 ps R s1 n0 hq0 dR okR (.inl ?_)⟩
      rw [List.take_of_length_le (by unfold asks4; rw [List.length_map, dpAll_len hA, List.length_map]; omega)] at cR
      exact cR
end
/-! ### the table of levels and boxes -/
def sTable : Stmt := topS 59
theorem lb_none {A : Asks} : ∀ {n : Nat} {x : List Int}, Ok4 x → (LB none A n x ↔ LN A n x)
  | 0, _, _ => Iff.rfl
  | n + 1, x, hx => by
    constructor
    · rintro ⟨z, oz, l, _, all⟩ a ha
      obtain ⟨w, mw, o, u⟩ := all a ha
      obtain ⟨o2, l2⟩ := add4_le l o
      exact ⟨w, mw, o2, LN.mono ((lb_none o).mp u) l2⟩
    · intro h
      refine ⟨x, hx, le4_refl hx, fun r e => (nomatch e), fun a ha => ?_⟩
      obtain ⟨w, mw, o, u⟩ := h a ha
      exact ⟨w, mw, o, (lb_none o).mpr u⟩
theorem ah_ln {A : Asks} {S R : List (List Int)} {n : Nat} (c : Canon S (LN A n)) (d : Canon R (AH none S A)) : Canon R (LN A (n + 1)) :=
  (lb_ahead (c.congr fun x hx => (lb_none hx).symm) d).congr fun x hx => lb_none hx
abbrev Lv := Addr × List V × List (List Int)
def LvOk (K : PySem.W.Frag) (H : Hp) (kd : Nat) (T : Lv) : Prop := H T.1 = some (.lst T.2.1) ∧ DpAll K H T.2.1 (T.2.2.map wayD) ∧ ∀ r ∈ T.2.2, StK kd r
theorem LvOk.same {K : PySem.W.Frag} {H H' : Hp} {kd : Nat} {T : Lv} (h : LvOk K H kd T) (s : Same H H') : LvOk K H' kd T := ⟨s _ _ h.1, dpAll_same s h.2.1, h.2.2⟩
theorem LvOk.put {K : PySem.W.Frag} {H : Hp} {kd : Nat} {T : Lv} {F : Addr} {l : List V} {o : HO} (h : LvOk K H kd T) (e : H F = some (.lst l)) (ne : T.1 ≠ F) : LvOk K (upd H F o) kd T :=
  ⟨by rw [upd_ne ne]; exact h.1, dpAll_put e h.2.1 (noLAll_map noL_way _), h.2.2⟩
theorem lvs_dp {K : PySem.W.Frag} {H : Hp} {kd : Nat} : ∀ {Ts : List Lv}, (∀ T ∈ Ts, LvOk K H kd T) → DpAll K H (Ts.map fun T => V.ref T.1) (Ts.map fun T => stsD T.2.2)
  | [], _ => .nil
  | T :: Ts, h => .cons (.lst (SqL.of (h T List.mem_cons_self).1) (h T List.mem_cons_self).2.1) (lvs_dp fun U hU => h U (List.mem_cons_of_mem _ hU))
theorem eqv_non (S : List (List Int)) : PyData.eqv (stsD S) .none = false := by
  unfold stsD
  simp [PyData.eqv]
theorem four_inj {a b : List Int} (h : a.length = b.length) (e : four a = four b) : a = b := by
  unfold four at e
  rw [h] at e
  exact (List.append_inj e h).1
theorem stk_inj {kd : Nat} {s t : List Int} (hs : StK kd s) (ht : StK kd t) (e : four s = four t) : s = t := four_inj (by rw [hs.1, ht.1]) e
theorem map_inj {kd : Nat} : ∀ {S T : List (List Int)}, (∀ s ∈ S, StK kd s) → (∀ s ∈ T, StK kd s) → S.map four = T.map four → S = T
  | [], [], _, _, _ => rfl
  | [], _ :: _, _, _, e => by cases e
  | _ :: _, [], _, _, e => by cases e
  | s :: S, t :: T, hS, hT, e => by
    obtain ⟨e1, e2⟩ := List.cons.inj e
    rw [stk_inj (hS s List.mem_cons_self) (hT t List.mem_cons_self) e1, map_inj (fun x hx => hS x (List.mem_cons_of_mem _ hx)) (fun x hx => hT x (List.mem_cons_of_mem _ hx)) e2]
/-- a bound far above binds nothing -/
theorem ah_free {A : Asks} {sz B M : Int} (W : Ways4 A sz sz sz sz) {S : List (List Int)} (hS : ∀ s ∈ S, le4 s [B, B, B, B] = true ∧ Ok4 s) (hM : B + sz ≤ M) (B0 : 0 ≤ B) {x : List Int} : AH none S A x ↔ AH (some M) S A x := by
  have s0 := W.p1
  constructor
  · rintro ⟨z, oz, lz, _, all⟩
    obtain ⟨oc, lc⟩ := clip_ok oz (t1 := M) (t2 := M) (t3 := M) (t4 := M) (by omega) (by omega) (by omega) (by omega)
    refine ⟨clip4 [M, M, M, M] z, oc, le4_trans lc lz, fun r e => ?_, fun a ha => ?_⟩
    · cases e
      obtain ⟨p, q, r, s, rfl, _⟩ := oz
      exact show le4 [min M p, min M q, min M r, min M s] [M, M, M, M] = true from le4_iff.mpr ⟨by omega, by omega, by omega, by omega⟩
    · obtain ⟨w, mw, ow, s, ms, ls⟩ := all a ha
      refine ⟨w, mw, ?_⟩
      obtain ⟨e, f, g, i, rfl, w1, w2, w3, w4⟩ := W.all a ha w mw
      obtain ⟨p, q, r, t, rfl, p1, p2, p3, p4⟩ := oz
      obtain ⟨lb, os⟩ := hS s ms
      obtain ⟨c1, c2, c3, c4, rfl, d1, d2, d3, d4⟩ := os
      obtain ⟨b1, b2, b3, b4⟩ := le4_iff.mp lb
      obtain ⟨h1, h2, h3, h4⟩ := le4_iff.mp (show le4 [c1, c2, c3, c4] [p + e, q + f, r + g, t + i] = true from ls)
      refine ⟨⟨min M p + e, min M q + f, min M r + g, min M t + i, rfl, by omega, by omega, by omega, by omega⟩, [c1, c2, c3, c4], ms, ?_⟩
      exact show le4 [c1, c2, c3, c4] [min M p + e, min M q + f, min M r + g, min M t + i] = true from le4_iff.mpr ⟨by omega, by omega, by omega, by omega⟩
  · rintro ⟨z, oz, lz, _, all⟩
    exact ⟨z, oz, lz, fun r e => (nomatch e), all⟩
theorem canon_bound {A : Asks} {sz : Int} (W : Ways4 A sz sz sz sz) {n : Nat} {R : List (List Int)} (c : Canon R (LN A n)) : ∀ s ∈ R, le4 s [sz * n, sz * n, sz * n, sz * n] = true ∧ Ok4 s := fun s hs => by
  have z : 0 ≤ sz * (n : Int) := Int.mul_nonneg W.p1 (by omega)
  obtain ⟨a, b, cc, d, rfl, h1, h2, h3, h4⟩ := canon_box c z z z z (fun x hx u => ln_clip W n hx (Int.le_refl _) (Int.le_refl _) (Int.le_refl _) (Int.le_refl _) u) s hs
  exact ⟨le4_iff.mpr ⟨h1.2, h2.2, h3.2, h4.2⟩, c.ok _ hs⟩
def spTable (K : PySem.W.Frag) : Sp := fun vs H Q _ => ∃ (x : V) (h : Asks) (most cap kd wy : Nat) (sz : Int), vs = [x, .int (most : Int), .int (cap : Int)] ∧ Dp K H x (houseD h) ∧ HsL h kd wy ∧ Ways4 (asks4 h) sz sz sz sz ∧ sz ≤ 1000 ∧ most ≤ 1000 ∧ 1 ≤ cap ∧ cap ≤ 40 ∧ 40 * (wy * cap) < 4096 ∧
  (∀ H', Same H H' → Q .non H') ∧
  ∀ (T L B : Addr) (H' : Hp) (Ts Bs : List Lv), Same H H' → H' T = some (.tup [.ref L, .ref B]) → H' L = some (.lst (Ts.map fun T => V.ref T.1)) → H' B = some (.lst (Bs.map fun T => V.ref T.1)) → (∀ T ∈ Ts ++ Bs, LvOk K H' kd T ∧ T.2.2.length ≤ cap) → Ts.length = most + 2 → Bs.length = most + 1 →
    (∀ (t : Nat) (T : Lv), Ts[t]? = some T → Canon (T.2.2.map four) (LN (asks4 h) t)) → (∀ (t : Nat) (T : Lv), Bs[t]? = some T → Canon (T.2.2.map four) (LBall (some (t : Int)) (asks4 h))) → Q (.ref T) H'
def WTab (K : PySem.W.Frag) (Hb : Hp) (xa L B : Addr) (most cap t : Nat) (h : Asks) (kd : Nat) (m : Nat) (σ : L2.St) (H1 : Hp) : Prop := ∃ (hv : V) (dh : PyData) (q0 : Addr) (ps : List V) (R : List (List Int)) (n : Nat), σ = [some (.ref xa), some (.int (most : Int)), some (.int (cap : Int)), some (.ref L), some (.ref B), some (.int (t : Int)), some (.ref q0), some hv] ∧
  Same Hb H1 ∧ H1 q0 = some (.lst ps) ∧ DpAll K H1 ps (R.map wayD) ∧ (∀ r ∈ R, StK kd r) ∧ R.length ≤ cap ∧ Canon (R.map four) (LB (some (t : Int)) (asks4 h) n) ∧ Dp K H1 hv dh ∧ SeqAt.shaped dh = true ∧
  (PyData.eqv (stsD R) dh = false → cntB t (R.map four) < m) ∧ (PyData.eqv (stsD R) dh = true → q0 ≠ L ∧ q0 ≠ B ∧ Canon (R.map four) (LBall (some (t : Int)) (asks4 h))) ∧ (q0 ≠ L ∧ q0 ≠ B)
section
variable {P : Program} {w : World} {K : PySem.W.Frag} {mg : Str → Option Value} {base : Heap}
theorem scTable : FnScope ["house", "most", "cap", "levels", "boxes", "t", "lows", "ahead"] ["house", "most", "cap"] (defScope sTable) := ⟨rfl, rfl, rfl, by decide +kernel, rfl, by decide +kernel, by decide +kernel⟩
theorem ok_table {f fM : Addr} {fd fdM : FuncData} {k : Nat} (F : Fun K "_law_table" "_law_table" sTable f fd)
    (GM : FnOk P w K mg base CX0 (k + 4) fM fdM ["house", "lows", "most"] (spMore K)) (kM : PySem.W.keepIn K (.ref fM) = true) (bM : Binds K fdM ["house", "lows", "most"] []) (gM : mg "_law_more" = some (.ref fM))
    (ml : mg "len" = none) (mr : mg "range" = none) : FnOk P w K mg base CX0 (k + 5) f fd ["house", "most", "cap"] (spTable K) := by
  refine F.ok scTable (fun vs H Q E h => ?_) (fun cdv A outer s0 H vs Q E hr h => ?_)
  · obtain ⟨x, h, most, cap, kd, wy, sz, rfl, _⟩ := h
    rfl
  · obtain ⟨x, h, most, cap, kd, wy, sz, rfl, hx, o, W4, sz1, m1000, c1, c40, fw, qn, q⟩ := h
    refine ⟨_, pss_cons (ps_par (i := 3) (j := 4) rfl scTable.nd rfl rfl (by decide) rfl rfl (pa_cons (pe_lst (pa_cons (pe_lst (pa_cons (pe_op op_repS (pe_tup (pa_cons pe_int pa_nil)) (pe_callB call_len_seq (by rfl) ml PySem.boot_len (pa_cons (pe_ix ix_tup (pe_ix ix_tup (pv 0) pe_int (fun _ _ => rfl)) pe_int (fun _ _ => rfl)) pa_nil))) pa_nil)) pa_nil)) (pa_cons (pe_lst pa_nil) pa_nil)) (by rfl))
      (pss_cons (ps_for PassesOwn.never rfl (pi_range1 (by rfl) mr (pa_cons (pe_op op_add (pv 1) pe_int) pa_nil)) (pg_name (i := 5) scTable.nd rfl (.inl rfl)) (pss_cons (ps_par (i := 6) (j := 7) rfl scTable.nd rfl rfl (by decide) rfl rfl (pa_cons (pe_ix ix_list (pv 3) pe_int (fun _ _ => rfl)) (pa_cons pe_non pa_nil)) (by rfl))
      (pss_cons (ps_while PassesOwn.never (pt_cmpR (op_neD hr.units) (pv 6) (pv 7) (nomark _)) (pss_cons (ps_set (i := 7) scTable.nd rfl (.inl rfl) (pv 6))
      (pss_cons (ps_set (i := 6) scTable.nd rfl (.inl rfl) (pe_call GM hr (by rfl) gM kM bM .nil pass0 (pa_cons (pv 0) (pa_cons (pv 7) (pa_cons (pv 5) pa_nil)))))
      (pss_one (ps_if (pt_cmpR op_gt (pe_callB call_len_seq (by rfl) ml PySem.boot_len (pa_cons (pv 6) pa_nil)) (pv 2) (nomark _)) (pss_one (ps_ret pe_non)) pss_nil)))))
      (pss_cons (ps_expr (pe_bm PySem.F.plainAttrs_list PySem.F.slot_list_append PySem.F.type_list_append mt_append (pv 4) (pa_cons (pv 6) pa_nil)))
      (pss_cons (ps_expr (pe_bm PySem.F.plainAttrs_list PySem.F.slot_list_append PySem.F.type_list_append mt_append (pv 3) (pa_cons (pe_call GM hr (by rfl) gM kM bM .nil pass0 (pa_cons (pv 0) (pa_cons (pe_ix ix_list (pv 3) (pv 5) (fun _ _ => rfl)) (pa_cons (pe_op op_pow pe_int pe_int) pa_nil)))) pa_nil)))
      (pss_one (ps_if (pt_cmpR op_gt (pe_callB call_len_seq (by rfl) ml PySem.boot_len (pa_cons (pe_ix ix_list (pv 3) (pe_op op_add (pv 5) pe_int) (fun _ _ => rfl)) pa_nil)) (pv 2) (nomark _)) (pss_one (ps_ret pe_non)) pss_nil)))))))
      (pss_one (ps_ret (pe_tup (pa_cons (pv 3) (pa_cons (pv 4) pa_nil)))))), ?_⟩
    -- sem
    have k1 := o.k1
    have k4 := o.k4
    obtain ⟨a0, l0, h0, hl0⟩ := o.first
    have ml0 := o.len a0 (List.mem_of_getElem? h0) l0 (List.mem_of_getElem? hl0)
    obtain ⟨xa, as, rfl, hX, hA⟩ := tupv_of hx
    obtain ⟨v0, hv0, dv0⟩ := dpAll_getD (i := 0) (d := askD a0) hA (by rw [List.getElem?_map, h0]; rfl)
    obtain ⟨ya, ws0, rfl, hY, hW0⟩ := tupv_of dv0
    obtain ⟨w0, hw0, dw0⟩ := dpAll_getD (i := 0) (d := wayD l0) hW0 (by rw [List.getElem?_map, hl0]; rfl)
    obtain ⟨wa, rfl, hWa⟩ := way_of dw0
    refine ⟨by show 1 ≤ sizeLine; decide, fun N nN => ?_⟩
    have sN := same_upd (o := .tup [V.int 0]) nN
    refine ⟨_, rfl, xa, as, 0, .ref ya, rfl, rfl, sN.seqT hX, atI_nat (j := 0) hv0, ya, ws0, 0, .ref wa, rfl, rfl, sN.seqT hY, atI_nat (j := 0) hw0, wa, _, rfl, .inr (sN.seqT hWa), N, _, V.int 0, rfl, rfl, SqT.of upd_same, by omega, by rw [List.length_map, ml0]; omega, fun p H1 s1 hp => ?_⟩
    refine ⟨by show 1 ≤ sizeLine; decide, fun F0 nF => ?_⟩
    have sF := same_upd (o := .lst [V.ref p]) nF
    have s01 := (sN.trans s1).trans sF
    have dz : Dp K (upd H1 F0 (.lst [V.ref p])) (.ref p) (wayD (List.replicate kd 0)) := by
      refine of_way (sF.seqT ?_)
      rw [List.map_replicate]
      rw [List.length_map, ml0] at hp
      exact hp
    have stz : StK kd (List.replicate kd 0) := ⟨List.length_replicate, fun z hz => by rw [List.eq_of_mem_replicate hz]; decide⟩
    refine ⟨by show 1 ≤ sizeLine; decide, fun L nL => ?_⟩
    have sL := same_upd (o := .lst [V.ref F0]) nL
    have nFL : F0 ≠ L := ne_of_none upd_same nL
    have nLH : H L = none := s01.free nL
    refine ⟨by show 0 ≤ sizeLine; decide, fun B nB => ?_⟩
    have sB := same_upd (o := .lst []) nB
    have s02 := s01.trans sL
    have nBH : H B = none := s02.free nB
    have nFB : F0 ≠ B := ne_of_none (sL _ _ upd_same) nB
    have nLB : L ≠ B := ne_of_none upd_same nB
    refine ⟨_, _, rfl, ?_⟩
    refine ⟨_, rfl, (most : Int), 1, rfl, rfl, (most : Int) + 1, rfl, by omega, by omega, ?_⟩
    refine for_range (lo := 0) (n := ((most : Int) + 1).toNat) (fun t σ H2 => ∃ (y5 y6 y7 : Option V) (Ts Bs : List Lv), σ = [some (.ref xa), some (.int (most : Int)), some (.int (cap : Int)), some (.ref L), some (.ref B), y5, y6, y7] ∧ Same H H2 ∧
        H2 L = some (.lst (Ts.map fun T => V.ref T.1)) ∧ H2 B = some (.lst (Bs.map fun T => V.ref T.1)) ∧ (∀ T ∈ Ts ++ Bs, LvOk K H2 kd T ∧ T.1 ≠ L ∧ T.1 ≠ B ∧ T.2.2.length ≤ cap) ∧ Ts.length = t + 1 ∧ Bs.length = t ∧
        (∀ (t : Nat) (T : Lv), Ts[t]? = some T → Canon (T.2.2.map four) (LN (asks4 h) t)) ∧ (∀ (t : Nat) (T : Lv), Bs[t]? = some T → Canon (T.2.2.map four) (LBall (some (t : Int)) (asks4 h))))
      ⟨none, none, none, [(F0, [.ref p], [List.replicate kd 0])], [], rfl, s02.trans sB, sB _ _ upd_same, upd_same, fun T hT => ?_, rfl, rfl, fun t T e => ?_, fun t T e => (nomatch e)⟩ ?_ ?_
    · rw [List.append_nil] at hT
      rw [List.mem_singleton.mp hT]
      have sLB := sL.trans sB
      exact ⟨⟨sLB _ _ upd_same, dpAll_same sLB (.cons dz .nil), fun r hr => by rw [List.mem_singleton.mp hr]; exact stz⟩, nFL, nFB, c1⟩
    · cases t with
      | zero =>
        obtain rfl := Option.some.inj e
        show Canon [four (List.replicate kd 0)] _
        rw [four_zero k1 k4]
        exact canon_zero _
      | succ t => cases e
    · clear nFB sB sL s02 s01 nFL dz sF nF hp s1 H1 p F0 nL nB
      rintro t σ H2 ht ⟨y5, y6, y7, Ts, Bs, rfl, s2, hL, hB, ok, lT, lB, canT, canB⟩
      have tm : t ≤ most := by omega
      rw [Int.zero_add]
      obtain ⟨T0, hT0⟩ : ∃ T0, Ts[0]? = some T0 := ⟨_, List.getElem?_eq_getElem (show 0 < Ts.length by omega)⟩
      obtain ⟨okT0, nT0L, nT0B, lT0⟩ := ok T0 (List.mem_append_left _ (List.mem_of_getElem? hT0))
      have at0 : (Ts.map fun T => V.ref T.1)[0]? = some (.ref T0.1) := by rw [List.getElem?_map, hT0]; rfl
      refine ⟨_, rfl, L, _, 0, _, rfl, rfl, SqL.of hL, atI_nat (j := 0) at0, ?_⟩
      refine ⟨_, _, rfl, ?_⟩
      refine ⟨WTab K H2 xa L B most cap t h kd, ⟨(boxS (t : Int).toNat 4).length + 1, .non, .none, T0.1, T0.2.1, T0.2.2, 0, rfl, Same.refl _, okT0.1, okT0.2.1, okT0.2.2, lT0, (canT 0 T0 hT0).congr fun x _ => Iff.rfl, .non, by decide, fun _ => Nat.lt_succ_of_le (cnt_le _ _), fun e => (by rw [eqv_non] at e; cases e), nT0L, nT0B⟩, ?_⟩
      rintro m σ H3 ⟨hv, dh, q0, ps, R, n, rfl, s3, hq0, dR, okR, lR, cR, dhv, shd, ne, eq, nqL, nqB⟩
      have lps := sts_len dR
      have s23 := s2.trans s3
      refine ⟨_, rfl, _, rfl, stsD R, dh, .lst (SqL.of hq0) dR, dhv, sts_shaped R, shd, _, rfl, ?_⟩
      cases c : PyData.eqv (stsD R) dh with
      | false =>
        have lt := ne c
        refine ifT rfl ⟨fun σ' H' => WTab K H2 xa L B most cap t h kd (cntB t (R.map four)) σ' H', fun σ' H' h => ⟨_, lt, h⟩, ?_⟩
        refine ⟨_, rfl, ?_⟩
        have fwR : 40 * (wy * R.length) < 4096 := by
          have lw : wy * R.length ≤ wy * cap := Nat.mul_le_mul_left _ lR
          omega
        refine ⟨_, rfl, _, rfl, _, rfl, .ref xa, .ref q0, h, R, (t : Int), kd, wy, rfl, dp_same s23 hx, o, .lst (SqL.of hq0) dR, okR, by omega, fwR, fun q2 H4 ps2 R2 s4 n2 hq2 d2 ok2 c2 => ?_⟩
        have lps2 := sts_len d2
        have s34 := s3.trans s4
        refine ⟨_, rfl, q2, ps2, rfl, .inl (SqL.of hq2), _, rfl, _, (cap : Int), rfl, rfl, _, rfl, ite2 (fun c => ?_) (fun c => ?_)⟩
        · exact qn _ (s23.trans s4)
        have c : ¬ (cap : Int) < ps2.length := fun z => c (decide_eq_true z)
        have lR2 : R2.length ≤ cap := by omega
        have c3 : Canon (R2.map four) (LB (some (t : Int)) (asks4 h) (n + 1)) := by
          rcases c2 with c2 | ⟨c2, _⟩
          · exact lb_ahead cR c2
          · omega
        have nq2 : q2 ≠ L ∧ q2 ≠ B := ⟨(ne_of_none (s3 _ _ hL) n2).symm, (ne_of_none (s3 _ _ hB) n2).symm⟩
        refine ⟨.ref q0, stsD R, q2, ps2, R2, n + 1, rfl, s34, hq2, d2, ok2, lR2, c3, .lst (SqL.of (s4 _ _ hq0)) (dpAll_same s4 dR), sts_shaped R, fun e => ?_, fun e => ⟨nq2.1, nq2.2, ?_⟩, nq2⟩
        · rw [eqv_sts_iff] at e
          refine cnt_lt (by omega) cR c3 fun z => ?_
          rw [decide_eq_false_iff_not] at e
          exact e (map_inj ok2 okR z.symm)
        · have e := eqv_sts e
          subst e
          refine cR.congr fun x hx => ?_
          have same : ∀ x, Ok4 x → (LB (some (t : Int)) (asks4 h) n x ↔ LB (some (t : Int)) (asks4 h) (n + 1) x) := fun x hx => (cR.up x hx).symm.trans (c3.up x hx)
          exact (LB.all same hx).symm
      | true =>
        refine ifF rfl ?_
        obtain ⟨_, _, cBox⟩ := eq c
        have hL3 := s3 _ _ hL
        have hB3 := s3 _ _ hB
        have lBs : (Bs.map fun T => V.ref T.1).length = Bs.length := List.length_map ..
        have lTs : (Ts.map fun T => V.ref T.1).length = Ts.length := List.length_map ..
        -- boxes.append(lows)
        refine ⟨_, rfl, .inl ⟨rfl, _, SqL.of hB3⟩, _, rfl, B, _, _, rfl, rfl, hB3, small_line (by omega), ?_⟩
        obtain ⟨H4, eH4⟩ : ∃ H4, H4 = upd H3 B (.lst ((Bs.map fun T => V.ref T.1) ++ [V.ref q0])) := ⟨_, rfl⟩
        rw [← eH4]
        have hB4 : H4 B = some (.lst ((Bs ++ [((q0, ps, R) : Lv)]).map fun T => V.ref T.1)) := by
          rw [eH4, upd_same, List.map_append]
          rfl
        have hL4 : H4 L = some (.lst (Ts.map fun T => V.ref T.1)) := by rw [eH4, upd_ne nLB]; exact hL3
        have keep4 : ∀ U : Lv, LvOk K H3 kd U → U.1 ≠ B → LvOk K H4 kd U := fun U u ne => by rw [eH4]; exact u.put hB3 ne
        have okq : LvOk K H4 kd (q0, ps, R) := keep4 _ ⟨hq0, dR, okR⟩ nqB
        have s24 : Same H H4 := fun b o' e => by
          rw [eH4, upd_ne (ne_of_none e nBH)]
          exact s23 _ _ e
        obtain ⟨T1, hT1⟩ : ∃ T1, Ts[t]? = some T1 := ⟨_, List.getElem?_eq_getElem (show t < Ts.length by omega)⟩
        obtain ⟨okT1, nT1L, nT1B, lT1⟩ := ok T1 (List.mem_append_left _ (List.mem_of_getElem? hT1))
        have okT14 := keep4 T1 (okT1.same s3) nT1B
        have atT1 : (Ts.map fun T => V.ref T.1)[t]? = some (.ref T1.1) := by rw [List.getElem?_map, hT1]; rfl
        have cT1 := canT t T1 hT1
        have fw1 : 40 * (wy * T1.2.2.length) < 4096 := by
          have lw : wy * T1.2.2.length ≤ wy * cap := Nat.mul_le_mul_left _ lT1
          omega
        -- levels.append(..)
        refine ⟨_, rfl, .inl ⟨rfl, _, SqL.of hL4⟩, ?_⟩
        refine ⟨_, rfl, _, rfl, _, rfl, L, _, (t : Int), .ref T1.1, rfl, rfl, SqL.of hL4, atI_nat (j := t) atT1, 10, 9, rfl, rfl, ⟨by decide, by decide, by decide⟩, ?_⟩
        refine ⟨.ref xa, .ref T1.1, h, T1.2.2, _, kd, wy, rfl, dp_same s24 hx, o, .lst (SqL.of okT14.1) okT14.2.1, okT14.2.2, by decide, fw1, fun q2 H5 ps2 R2 s5 n2 hq2 d2 ok2 c2 => ?_⟩
        have hL5 := s5 _ _ hL4
        have hB5 := s5 _ _ hB4
        have nq2L : q2 ≠ L := (ne_of_none hL4 n2).symm
        have nq2B : q2 ≠ B := (ne_of_none hB4 n2).symm
        have lps2 := sts_len d2
        refine ⟨L, _, _, rfl, rfl, hL5, small_line (by omega), ?_⟩
        obtain ⟨H6, eH6⟩ : ∃ H6, H6 = upd H5 L (.lst ((Ts.map fun T => V.ref T.1) ++ [V.ref q2])) := ⟨_, rfl⟩
        rw [← eH6]
        have hL6 : H6 L = some (.lst ((Ts ++ [((q2, ps2, R2) : Lv)]).map fun T => V.ref T.1)) := by
          rw [eH6, upd_same, List.map_append]
          rfl
        have hB6 : H6 B = some (.lst ((Bs ++ [((q0, ps, R) : Lv)]).map fun T => V.ref T.1)) := by rw [eH6, upd_ne nLB.symm]; exact hB5
        have keep6 : ∀ U : Lv, LvOk K H5 kd U → U.1 ≠ L → LvOk K H6 kd U := fun U u ne => by rw [eH6]; exact u.put hL5 ne
        have ok26 : LvOk K H6 kd (q2, ps2, R2) := keep6 _ ⟨hq2, d2, ok2⟩ nq2L
        have s26 : Same H H6 := fun b o' e => by
          rw [eH6, upd_ne (ne_of_none e nLH)]
          exact s5 _ _ (s24 _ _ e)
        have at2 : ((Ts ++ [((q2, ps2, R2) : Lv)]).map fun T => V.ref T.1)[t + 1]? = some (.ref q2) := by
          rw [List.map_append, List.getElem?_append_right (by omega), lTs, lT, Nat.sub_self]
          rfl
        refine ⟨_, rfl, _, rfl, (t : Int), 1, rfl, rfl, L, _, ((t + 1 : Nat) : Int), .ref q2, rfl, by rw [Int.natCast_succ], SqL.of hL6, atI_nat (j := t + 1) at2, q2, ps2, rfl, .inl (SqL.of ok26.1), _, rfl, _, (cap : Int), rfl, rfl, _, rfl, ite2 (fun c => ?_) (fun c => ?_)⟩
        · exact qn _ s26
        have c : ¬ (cap : Int) < ps2.length := fun z => c (decide_eq_true z)
        have lR2 : R2.length ≤ cap := by omega
        have cAH : Canon (R2.map four) (AH none (T1.2.2.map four) (asks4 h)) := by
          rcases c2 with c2 | ⟨c2, _⟩
          · refine c2.congr fun x _ => (ah_free W4 (B := sz * t) (canon_bound W4 cT1) ?_ (Int.mul_nonneg W4.p1 (by omega))).symm
            have h1 : sz * (t : Int) ≤ 1000 * 1000 := Int.mul_le_mul sz1 (by omega) (by omega) (by decide)
            have h2 : (10 : Int) ^ (9 : Int).toNat = 1000000000 := by decide
            rw [h2]
            omega
          · omega
        have c3 : Canon (R2.map four) (LN (asks4 h) (t + 1)) := ah_ln cT1 cAH
        refine ⟨_, _, _, Ts ++ [(q2, ps2, R2)], Bs ++ [(q0, ps, R)], rfl, s26, hL6, hB6, fun U hU => ?_, by rw [List.length_append, lT]; rfl, by rw [List.length_append, lB]; rfl, fun u U e => ?_, fun u U e => ?_⟩
        · have old : ∀ U ∈ Ts ++ Bs, LvOk K H6 kd U ∧ U.1 ≠ L ∧ U.1 ≠ B ∧ U.2.2.length ≤ cap := fun U hU => by
            obtain ⟨u1, u2, u3, u4⟩ := ok U hU
            exact ⟨keep6 _ ((keep4 _ (u1.same s3) u3).same s5) u2, u2, u3, u4⟩
          rcases List.mem_append.mp hU with hU | hU
          · rcases List.mem_append.mp hU with hU | hU
            · exact old U (List.mem_append_left _ hU)
            · rw [List.mem_singleton.mp hU]
              exact ⟨ok26, nq2L, nq2B, lR2⟩
          · rcases List.mem_append.mp hU with hU | hU
            · exact old U (List.mem_append_right _ hU)
            · rw [List.mem_singleton.mp hU]
              exact ⟨keep6 _ (okq.same s5) nqL, nqL, nqB, lR⟩
        · rw [List.getElem?_append] at e
          split at e
          · exact canT _ _ e
          · next ge =>
            have : u - Ts.length = 0 := by
              have := (List.getElem?_eq_some_iff.mp e).1
              simp at this
              omega
            rw [this] at e
            obtain rfl := Option.some.inj e
            rw [show u = t + 1 by omega]
            exact c3
        · rw [List.getElem?_append] at e
          split at e
          · exact canB _ _ e
          · next ge =>
            have : u - Bs.length = 0 := by
              have := (List.getElem?_eq_some_iff.mp e).1
              simp at this
              omega
            rw [this] at e
            obtain rfl := Option.some.inj e
            rw [show u = t by omega]
            exact cBox
    · rintro σ H2 ⟨y5, y6, y7, Ts, Bs, rfl, s2, hL, hB, ok, lT, lB, canT, canB⟩
      refine ⟨_, rfl, _, rfl, by show 2 ≤ sizeLine; decide, fun T nT => ?_⟩
      have sT := same_upd (o := .tup [V.ref L, V.ref B]) nT
      exact q T L B _ Ts Bs (s2.trans sT) upd_same (sT _ _ hL) (sT _ _ hB) (fun U hU => ⟨(ok U hU).1.same sT, (ok U hU).2.2.2⟩) (by omega) (by omega) canT canB
end
/-! ### the fate of a store, by the table -/
def sFateT : Stmt := topS 60
structure LostB (A : Asks) (s : List Int) (t : Nat) : Prop where
  before : ∀ u, u < t → LN A u s ∧ ¬ LBall (some (u : Int)) A s
  gone : ¬ LN A t s
structure KeptB (A : Asks) (s : List Int) (t : Nat) : Prop where
  before : ∀ u, u < t → LN A u s ∧ ¬ LBall (some (u : Int)) A s
  last : LN A t s
  kept : LBall (some (t : Int)) A s
structure TabOk (K : PySem.W.Frag) (H : Hp) (T L B : Addr) (Ts Bs : List Lv) (most cap kd : Nat) (h : Asks) : Prop where
  tup : H T = some (.tup [.ref L, .ref B])
  lev : H L = some (.lst (Ts.map fun T => V.ref T.1))
  box : H B = some (.lst (Bs.map fun T => V.ref T.1))
  ok : ∀ T ∈ Ts ++ Bs, LvOk K H kd T ∧ T.2.2.length ≤ cap
  lenT : Ts.length = most + 2
  lenB : Bs.length = most + 1
  canT : ∀ (t : Nat) (T : Lv), Ts[t]? = some T → Canon (T.2.2.map four) (LN (asks4 h) t)
  canB : ∀ (t : Nat) (T : Lv), Bs[t]? = some T → Canon (T.2.2.map four) (LBall (some (t : Int)) (asks4 h))
theorem TabOk.same {K : PySem.W.Frag} {H H' : Hp} {T L B : Addr} {Ts Bs : List Lv} {most cap kd : Nat} {h : Asks} (o : TabOk K H T L B Ts Bs most cap kd h) (s : Same H H') : TabOk K H' T L B Ts Bs most cap kd h :=
  ⟨s _ _ o.tup, s _ _ o.lev, s _ _ o.box, fun U hU => ⟨(o.ok U hU).1.same s, (o.ok U hU).2⟩, o.lenT, o.lenB, o.canT, o.canB⟩
def spFateT (K : PySem.W.Frag) : Sp := fun vs H Q _ => ∃ (T L B : Addr) (y : V) (Ts Bs : List Lv) (most cap kd : Nat) (h : Asks) (s : List Int), vs = [.ref T, y] ∧ TabOk K H T L B Ts Bs most cap kd h ∧ Dp K H y (wayD s) ∧ StK kd s ∧ 1 ≤ kd ∧ kd ≤ 4 ∧ most ≤ 1000 ∧ cap ≤ 1000 ∧
  (∀ H', Same H H' → Q .non H') ∧
  (∀ (a : Addr) (H' : Hp) (t : Nat), Same H H' → H a = none → H' a = some (.tup [.int (t : Int), .non]) → t ≤ most → LostB (asks4 h) (four s) t → Q (.ref a) H') ∧
  ∀ (a : Addr) (H' : Hp) (t : Nat) (U : Lv), Same H H' → H a = none → Bs[t]? = some U → H' a = some (.tup [.int (t : Int), .ref U.1]) → t ≤ most → KeptB (asks4 h) (four s) t → Q (.ref a) H'
section
variable {P : Program} {w : World} {K : PySem.W.Frag} {mg : Str → Option Value} {base : Heap}
theorem scFateT : FnScope ["table", "store", "levels", "boxes", "t"] ["table", "store"] (defScope sFateT) := ⟨rfl, rfl, rfl, by decide +kernel, rfl, by decide +kernel, by decide +kernel⟩
theorem ok_fateT {f fA : Addr} {fd fdA : FuncData} {k : Nat} (F : Fun K "_law_fate" "_law_fate" sFateT f fd)
    (GA : FnOk P w K mg base CX0 (k + 2) fA fdA ["store", "some"] (spCovAny K)) (kA : PySem.W.keepIn K (.ref fA) = true) (bA : Binds K fdA ["store", "some"] []) (gA : mg "_law_covers_any" = some (.ref fA))
    (ml : mg "len" = none) (mr : mg "range" = none) : FnOk P w K mg base CX0 (k + 3) f fd ["table", "store"] (spFateT K) := by
  refine F.ok scFateT (fun vs H Q E h => ?_) (fun cdv A outer s0 H vs Q E hr h => ?_)
  · obtain ⟨T, L, B, y, Ts, Bs, most, cap, kd, h, s, rfl, _⟩ := h
    rfl
  · obtain ⟨T, L, B, y, Ts, Bs, most, cap, kd, h, s, rfl, tab, hy, oks, k1, k4, m1000, c1000, qn, ql, qk⟩ := h
    refine ⟨_, pss_cons (ps_asg (pv 0) (pg_tup (by rfl) (pgs_cons (pg_name (i := 2) scFateT.nd rfl (.inl rfl)) (pgs_cons (pg_name (i := 3) scFateT.nd rfl (.inl rfl)) pgs_nil))))
      (pss_cons (ps_for PassesOwn.never rfl (pi_range1 (by rfl) mr (pa_cons (pe_callB call_len_seq (by rfl) ml PySem.boot_len (pa_cons (pv 3) pa_nil)) pa_nil)) (pg_name (i := 4) scFateT.nd rfl (.inl rfl)) (pss_cons (ps_if (pt_not (pt_val (pe_call GA hr (by rfl) gA kA bA .nil pass0 (pa_cons (pv 1) (pa_cons (pe_ix ix_list (pv 2) (pv 4) (fun _ _ => rfl)) pa_nil))))) (pss_one (ps_ret (pe_tup (pa_cons (pv 4) (pa_cons pe_non pa_nil))))) pss_nil)
      (pss_one (ps_if (pt_val (pe_call GA hr (by rfl) gA kA bA .nil pass0 (pa_cons (pv 1) (pa_cons (pe_ix ix_list (pv 3) (pv 4) (fun _ _ => rfl)) pa_nil)))) (pss_one (ps_ret (pe_tup (pa_cons (pv 4) (pa_cons (pe_ix ix_list (pv 3) (pv 4) (fun _ _ => rfl)) pa_nil))))) pss_nil))))
      (pss_one (ps_ret pe_non))), ?_⟩
    -- sem
    have os4 := oks.four k1 k4
    have lBs : (Bs.map fun T => V.ref T.1).length = most + 1 := by rw [List.length_map, tab.lenB]
    refine ⟨_, rfl, T, _, rfl, SqT.of tab.tup, rfl, _, _, rfl, _, _, rfl, rfl, ?_⟩
    refine ⟨_, rfl, B, _, rfl, .inl (SqL.of tab.box), ((most + 1 : Nat) : Int), by rw [lBs], by omega, by omega, ?_⟩
    refine for_range (lo := 0) (n := ((most + 1 : Nat) : Int).toNat) (fun t σ H2 => ∃ (y4 : Option V), σ = [some (.ref T), some y, some (.ref L), some (.ref B), y4] ∧ Same H H2 ∧ ∀ u, u < t → LN (asks4 h) u (four s) ∧ ¬ LBall (some (u : Int)) (asks4 h) (four s))
      ⟨none, rfl, Same.refl _, fun u hu => absurd hu (Nat.not_lt_zero u)⟩ ?_ ?_
    · rintro t σ H2 ht ⟨y4, rfl, s2, bef⟩
      have tm : t ≤ most := by omega
      have tab2 := tab.same s2
      rw [Int.zero_add]
      obtain ⟨T1, hT1⟩ : ∃ T1, Ts[t]? = some T1 := ⟨_, List.getElem?_eq_getElem (show t < Ts.length by rw [tab.lenT]; omega)⟩
      obtain ⟨B1, hB1⟩ : ∃ B1, Bs[t]? = some B1 := ⟨_, List.getElem?_eq_getElem (show t < Bs.length by rw [tab.lenB]; omega)⟩
      have atT : (Ts.map fun T => V.ref T.1)[t]? = some (.ref T1.1) := by rw [List.getElem?_map, hT1]; rfl
      have atB : (Bs.map fun T => V.ref T.1)[t]? = some (.ref B1.1) := by rw [List.getElem?_map, hB1]; rfl
      obtain ⟨okT, lT⟩ := tab2.ok T1 (List.mem_append_left _ (List.mem_of_getElem? hT1))
      refine ⟨_, rfl, _, rfl, _, rfl, L, _, (t : Int), .ref T1.1, rfl, rfl, SqL.of tab2.lev, atI_nat (j := t) atT, ?_⟩
      refine ⟨y, .ref T1.1, s, T1.2.2, kd, rfl, dp_same s2 hy, .lst (SqL.of okT.1) okT.2.1, oks.1, k4, okT.2.2, by omega, fun H3 s3 => ?_⟩
      have s23 := s2.trans s3
      have tab3 := tab.same s23
      obtain ⟨okB, lB⟩ := tab3.ok B1 (List.mem_append_right _ (List.mem_of_getElem? hB1))
      refine ⟨_, rfl, ?_⟩
      cases c : anyLe (four s) (T1.2.2.map four) with
      | false =>
        refine ifT rfl ⟨_, rfl, by show 2 ≤ sizeLine; decide, fun a na => ?_⟩
        have sa := same_upd (o := .tup [V.int (t : Int), V.non]) na
        refine ql a _ t (s23.trans sa) (s23.free na) upd_same tm ⟨bef, fun z => ?_⟩
        have := anyLe_iff.mpr (((tab.canT t T1 hT1).up _ os4).mpr z)
        rw [c] at this
        cases this
      | true =>
        have last : LN (asks4 h) t (four s) := ((tab.canT t T1 hT1).up _ os4).mp (anyLe_iff.mp c)
        refine ifF rfl ?_
        refine ⟨_, rfl, _, rfl, _, rfl, B, _, (t : Int), .ref B1.1, rfl, rfl, SqL.of tab3.box, atI_nat (j := t) atB, ?_⟩
        refine ⟨y, .ref B1.1, s, B1.2.2, kd, rfl, dp_same s23 hy, .lst (SqL.of okB.1) okB.2.1, oks.1, k4, okB.2.2, by omega, fun H4 s4 => ?_⟩
        have s24 := s23.trans s4
        have tab4 := tab.same s24
        refine ⟨_, rfl, ?_⟩
        cases c2 : anyLe (four s) (B1.2.2.map four) with
        | true =>
          refine ifT rfl ⟨_, rfl, _, rfl, _, rfl, B, _, (t : Int), .ref B1.1, rfl, rfl, SqL.of tab4.box, atI_nat (j := t) atB, by show 2 ≤ sizeLine; decide, fun a na => ?_⟩
          have sa := same_upd (o := .tup [V.int (t : Int), V.ref B1.1]) na
          exact qk a _ t B1 (s24.trans sa) (s24.free na) hB1 upd_same tm ⟨bef, last, ((tab.canB t B1 hB1).up _ os4).mp (anyLe_iff.mp c2)⟩
        | false =>
          refine ifF rfl ⟨_, rfl, s24, fun u hu => ?_⟩
          by_cases e : u = t
          · subst e
            refine ⟨last, fun z => ?_⟩
            have := anyLe_iff.mpr (((tab.canB u B1 hB1).up _ os4).mpr z)
            rw [c2] at this
            cases this
          · exact bef u (by omega)
    · rintro σ H2 ⟨y4, rfl, s2, _⟩
      exact qn _ s2
end
/-! ### a way, traded -/
def sTraded : Stmt := topS 53
def rSumT (K : PySem.W.Frag) : List V → Hp → VK → Prop := fun vs H Q => ∃ (a : Addr) (ns : List Int), vs = [V.ref a] ∧ SqT K H a (ns.map V.int) ∧ Q (.int ns.sum) H
theorem cr_sumT {X : Cx} (hc : X.calm = true) : CallR X (.builtin "sum") (rSumT X.K) := by
  intro pins s σ H vs us Q I r h
  obtain ⟨a, ns, rfl, hs, q⟩ := h
  obtain ⟨its, rv, hl, _⟩ := I.tuple hs
  rw [Vals.ref1 r]
  have hi := rv.ints
  obtain ⟨xs, e⟩ := hi.allInts.items
  have hn : numsOf (intItems xs).toList = ns := by rw [← e]; exact hi.numsOf
  rw [nums_intItems] at hn
  have hl : s.heap.IsTuple a its.toArray := hl
  rw [e] at hl
  refine PySem.W.ktm_sumG (I.ok.hd hc) hl fun h' tk t' hk => ?_
  rw [preSum_eq, List.take_of_length_le (by simp), hn]
  exact ⟨.int _, H, I.kept hk, ⟨t', rfl⟩, q⟩
def spTraded (K : PySem.W.Frag) : Sp := fun vs H Q _ => ∃ (p c : Addr) (ns : List Int) (m : Nat) (y : V) (l : List Int) (S : Int), vs = [.ref p, y] ∧ Pen H p c ns m ∧ m + 10 < penMost ∧ Dp K H y (wayD l) ∧ 1 ≤ l.length ∧ l.length ≤ 4 ∧ 3 ≤ S ∧ (∀ z ∈ l, -S ≤ z ∧ z ≤ S) ∧
  ∀ v H' l', Kp p H H' → Pen H' p c ns (m + 10) → Dp K H' v (wayD l') → l'.length = l.length → (∀ z ∈ l', -S ≤ z ∧ z ≤ S) → Q v H'
section
variable {P : Program} {w : World} {K : PySem.W.Frag} {mg : Str → Option Value} {base : Heap}
theorem scTraded : FnScope ["pen", "way", "kind", "rest"] ["pen", "way"] (defScope sTraded) := ⟨rfl, rfl, rfl, by decide +kernel, rfl, by decide +kernel, by decide +kernel⟩
theorem ok_traded {f fT : Addr} {fd fdT : FuncData} {k : Nat} (F : Fun K "_law_traded" "_law_traded" sTraded f fd) (GT : FnOk P w K mg base CX0 (k + 2) fT fdT ["pen", "amount"] spTake) (kT : PySem.W.keepIn K (.ref fT) = true) (bT : Binds K fdT ["pen", "amount"] []) (gT : mg "_law_take" = some (.ref fT))
    (ml : mg "len" = none) (ms : mg "sum" = none) (mx : mg "max" = none) (mn : mg "min" = none) : FnOk P w K mg base CX0 (k + 3) f fd ["pen", "way"] (spTraded K) := by
  refine F.ok scTraded (fun vs H Q E h => ?_) (fun cdv A outer s0 H vs Q E hr h => ?_)
  · obtain ⟨p, c, ns, m, y, l, S, rfl, _⟩ := h
    rfl
  · obtain ⟨p, c, ns, m, y, l, S, rfl, hP, hm, hy, l1, l4, s3, bl, q⟩ := h
    unfold penMost at hm
    refine ⟨_, pss_cons (ps_set (i := 2) scTraded.nd rfl (.inl rfl) (pe_call GT hr (by rfl) gT kT bT .nil pass0 (pa_cons (pv 0) (pa_cons (pe_callB call_len_seq (by rfl) ml PySem.boot_len (pa_cons (pv 1) pa_nil)) pa_nil))))
      (pss_cons (ps_set (i := 3) scTraded.nd rfl (.inl rfl) (pe_op op_sub (pe_callB (cr_sumT rfl) (by rfl) ms (by decide +kernel) (pa_cons (pv 1) pa_nil)) (pe_ix ix_tup (pv 1) (pv 2) (fun _ _ => rfl))))
      (pss_one (ps_ret (pe_op op_catN (pe_op op_catN (pe_slice (r := rSlN K) sl_tupN (pv 1) po_none (po_some (pv 2))) (pe_tup (pa_cons (pe_callB (call_max2 rfl) (by rfl) mx (by decide +kernel) (pa_cons (pe_un un_neg pe_int) (pa_cons (pe_callB (call_min2 rfl) (by rfl) mn (by decide +kernel) (pa_cons pe_int (pa_cons (pe_op op_sub (pe_call GT hr (by rfl) gT kT bT .nil pass0 (pa_cons (pv 0) (pa_cons pe_int pa_nil))) (pv 3)) pa_nil))) pa_nil))) pa_nil))) (pe_slice (r := rSlN K) sl_tupN (pv 1) (po_some (pe_op op_add (pv 2) pe_int)) po_none))))), ?_⟩
    -- sem
    obtain ⟨ya, rfl, hY⟩ := way_of hy
    have lV : (l.map V.int).length = l.length := List.length_map ..
    refine ⟨_, rfl, _, rfl, ya, _, rfl, .inr hY, ?_⟩
    refine ⟨p, c, ns, m, (l.length : Int), by rw [lV]; rfl, hP, by unfold penMost; omega, by omega, by omega, fun r H1 r0 r1 kp1 P1 => ?_⟩
    obtain ⟨i, rfl⟩ : ∃ i : Nat, r = (i : Int) := ⟨r.toNat, by omega⟩
    have il : i < l.length := by omega
    have hY1 := (way_of (hP.dp kp1 hy (noL_way l)))
    obtain ⟨_, e1, hY1⟩ := hY1
    cases e1
    obtain ⟨z, hz⟩ : ∃ z, l[i]? = some z := ⟨_, List.getElem?_eq_getElem il⟩
    have hzv : atI (l.map V.int) (i : Int) = some (V.int z) := atI_nat (by rw [List.getElem?_map, hz]; rfl)
    refine ⟨_, rfl, ya, l, rfl, hY1, _, rfl, _, rfl, ya, _, (i : Int), V.int z, rfl, rfl, hY1, hzv, l.sum, z, rfl, rfl, ?_⟩
    refine ⟨_, rfl, _, rfl, (i : Int), rfl, ya, _, rfl, hY1, fun c1 H2 s2 h1 => ?_⟩
    rw [cut_to (by omega)] at h1
    have P2 := P1.same s2
    obtain ⟨lp, hp⟩ := P2.at
    refine ⟨3, rfl, _, rfl, p, c, ns, _, 2, rfl, P2, by unfold penMost; omega, by decide, by decide, fun r2 H3 r20 r21 kp3 P3 => ?_⟩
    refine ⟨_, rfl, r2, l.sum - z, rfl, rfl, 3, r2 - (l.sum - z), rfl, ?_⟩
    obtain ⟨g, eg⟩ : ∃ g : Int, (if r2 - (l.sum - z) < 3 then r2 - (l.sum - z) else 3) = g := ⟨_, rfl⟩
    rw [eg]
    refine ⟨-3, g, rfl, ?_⟩
    have g3 : g ≤ 3 := by rw [← eg]; split <;> omega
    obtain ⟨e, ee⟩ : ∃ e : Int, (if g > -3 then g else -3) = e := ⟨_, rfl⟩
    rw [ee]
    have e3 : -3 ≤ e ∧ e ≤ 3 := by rw [← ee]; split <;> omega
    have h13 : SqT K H3 c1 ((l.take i).map V.int) := kp3.seqT hp h1
    have hY3 : SqT K H3 ya (l.map V.int) := kp3.seqT hp (s2.seqT hY1)
    refine ⟨by show 1 ≤ sizeLine; decide, fun T nT => ?_⟩
    have sT := same_upd (o := .tup [V.int e]) nT
    refine ⟨c1, T, _, _, rfl, rfl, sT.seqT h13, SqT.of upd_same, by rw [List.length_map, List.length_take, sizeLine_eq]; show _ + 1 ≤ _; omega, fun c2 H4 s4 h2 => ?_⟩
    have hY4 := s4.seqT (sT.seqT hY3)
    refine ⟨_, rfl, _, rfl, (i : Int), 1, rfl, rfl, ((i : Int) + 1), rfl, ya, _, rfl, hY4, fun c3 H5 s5 h3 => ?_⟩
    rw [show (i : Int) + 1 = ((i + 1 : Nat) : Int) by omega, cut_from (by omega)] at h3
    have h25 := s5.seqT h2
    refine ⟨c2, c3, _, _, rfl, rfl, h25, h3, by rw [List.length_append, List.length_map, List.length_map, List.length_take, List.length_drop, sizeLine_eq]; show _ + 1 + _ ≤ _; omega, fun c4 H6 s6 h4 => ?_⟩
    have s36 := ((sT.trans s4).trans s5).trans s6
    have el : (l.take i).map V.int ++ [V.int e] ++ (l.drop (i + 1)).map V.int = (l.take i ++ [e] ++ l.drop (i + 1)).map V.int := by
      rw [List.map_append, List.map_append]
      rfl
    rw [el] at h4
    refine q (.ref c4) H6 _ (((kp1.same s2).trans kp3).same s36) ((P3.same s36).mono (by omega)) (of_way h4) ?_ fun v hv => ?_
    · rw [List.length_append, List.length_append, List.length_take, List.length_drop]
      show min i l.length + 1 + (l.length - (i + 1)) = l.length
      omega
    · rcases List.mem_append.mp hv with hv | hv
      · rcases List.mem_append.mp hv with hv | hv
        · exact bl v (List.mem_of_mem_take hv)
        · rw [List.mem_singleton.mp hv]
          omega
      · exact bl v (List.mem_of_mem_drop hv)
end
/-! ### any house of the second kind, drawn -/
def sHouseB : Stmt := topS 52
def spHouseB (K : PySem.W.Frag) : Sp := fun vs H Q _ => ∃ (p c : Addr) (ns : List Int) (m : Nat) (kinds asks ways size S : Int), vs = [.ref p, .int kinds, .int asks, .int ways, .int size] ∧ Pen H p c ns m ∧ m + 600 < penMost ∧
  (1 ≤ kinds ∧ kinds ≤ 4) ∧ (1 ≤ asks ∧ asks ≤ 8) ∧ (1 ≤ ways ∧ ways ≤ 5) ∧ (0 ≤ size ∧ size ≤ 99) ∧ size ≤ S ∧ 3 ≤ S ∧ ∀ a H' h, Kp p H H' → Pen H' p c ns (m + 600) → Dp K H' (.ref a) (houseD h) → HouseOk kinds asks ways S h → Q (.ref a) H'
theorem dpAll_set0 {K : PySem.W.Frag} {H : Hp} {vs : List V} {ds : List PyData} {v : V} {d : PyData} (h : DpAll K H vs ds) (q : Dp K H v d) : DpAll K H (vs.set 0 v) (ds.set 0 d) := by
  cases h with
  | nil => exact .nil
  | cons _ t => exact .cons q t
section
variable {P : Program} {w : World} {K : PySem.W.Frag} {mg : Str → Option Value} {base : Heap}
theorem scHouseB : FnScope ["pen", "kinds", "asks", "ways", "size", "house", "k", "ask", "j", "kind"] ["pen", "kinds", "asks", "ways", "size"] (defScope sHouseB) := ⟨rfl, rfl, rfl, by decide +kernel, rfl, by decide +kernel, by decide +kernel⟩
theorem ok_houseB {f fT fD : Addr} {fd fdT fdD : FuncData} {k : Nat} (F : Fun K "_law_any_house" "_law_any_house" sHouseB f fd)
    (GT : FnOk P w K mg base CX0 (k + 3) fT fdT ["pen", "amount"] spTake) (kT : PySem.W.keepIn K (.ref fT) = true) (bT : Binds K fdT ["pen", "amount"] []) (gT : mg "_law_take" = some (.ref fT))
    (GD : FnOk P w K mg base CX0 (k + 3) fD fdD ["pen", "way"] (spTraded K)) (kD : PySem.W.keepIn K (.ref fD) = true) (bD : Binds K fdD ["pen", "way"] []) (gD : mg "_law_traded" = some (.ref fD))
    (mr : mg "range" = none) (mt : mg "tuple" = none) : FnOk P w K mg base CX0 (k + 4) f fd ["pen", "kinds", "asks", "ways", "size"] (spHouseB K) := by
  refine F.ok scHouseB (fun vs H Q E h => ?_) (fun cdv A outer s0 H vs Q E hr h => ?_)
  · obtain ⟨p, c, ns, m, kinds, asks, ways, size, S, rfl, _⟩ := h
    rfl
  · obtain ⟨p, c, ns, m, kinds, asks, ways, size, S, rfl, hP, hm, ⟨k0, k4⟩, ⟨a0, a8⟩, ⟨w0, w5⟩, ⟨s0', s99⟩, sS, S3, q⟩ := h
    unfold penMost at hm
    refine ⟨_, pss_cons (ps_set (i := 5) scHouseB.nd rfl (.inl rfl) (pe_lst pa_nil))
      (pss_cons (ps_for PassesOwn.never rfl (pi_range1 (by rfl) mr (pa_cons (pe_op op_add pe_int (pe_call GT hr (by rfl) gT kT bT .nil pass0 (pa_cons (pv 0) (pa_cons (pv 2) pa_nil)))) pa_nil)) (pg_name (i := 6) scHouseB.nd rfl (.inl rfl)) (pss_cons (ps_set (i := 7) scHouseB.nd rfl (.inl rfl) (pe_lst pa_nil))
      (pss_cons (ps_for PassesOwn.never rfl (pi_range1 (by rfl) mr (pa_cons (pe_op op_add pe_int (pe_call GT hr (by rfl) gT kT bT .nil pass0 (pa_cons (pv 0) (pa_cons (pv 3) pa_nil)))) pa_nil)) (pg_name (i := 8) scHouseB.nd rfl (.inl rfl)) (pss_one (ps_expr (pe_bm PySem.F.plainAttrs_list PySem.F.slot_list_append PySem.F.type_list_append mt_append (pv 7) (pa_cons (pe_callTy call_tuple_of (by rfl) mt (by decide +kernel) (pa_cons (pe_lc (own := [("kind", 9)]) (g := gName 9) (tt := tYes) rfl scHouseB.nd (pi_range1 (by rfl) mr (pa_cons (pv 1) pa_nil))
        (blkOk_by (N := ["pen", "kinds", "asks", "ways", "size", "house", "k", "ask", "j", "kind"]) (sc := defScope sHouseB) (by decide +kernel)) (fun _ _ _ _ _ => by exact (pg_name (i := 9) scHouseB.nd rfl (.inl rfl))) (fun _ _ _ _ _ => pts_nil)
        (fun _ _ _ _ _ => by exact (pe_op op_sub (pe_call GT hr (by rfl) gT kT bT .nil pass0 (pa_cons (pv 0) (pa_cons (pe_op op_add (pe_op op_mul pe_int (pv 4)) pe_int) pa_nil))) (pv 4)))) pa_nil)) pa_nil)))))
      (pss_cut (ps_if (pt_cmpR op_gt (pe_call GT hr (by rfl) gT kT bT .nil pass0 (pa_cons (pv 0) (pa_cons pe_int pa_nil))) pe_int (nomark _)) (pss_one (ps_asg (pe_call GD hr (by rfl) gD kD bD .nil pass0 (pa_cons (pv 0) (pa_cons (pe_ix ix_list (pv 7) pe_int (fun _ _ => rfl)) pa_nil))) (pg_sub (pv 7) pe_int set_list))) pss_nil)
      (pss_one (ps_expr (pe_bm PySem.F.plainAttrs_list PySem.F.slot_list_append PySem.F.type_list_append mt_append (pv 5) (pa_cons (pe_callTy call_tuple_of (by rfl) mt (by decide +kernel) (pa_cons (pv 7) pa_nil)) pa_nil))))))))
      (pss_one (ps_ret (pe_callTy call_tuple_of (by rfl) mt (by decide +kernel) (pa_cons (pv 5) pa_nil))))), ?_⟩
    -- sem
    refine ⟨by show 0 ≤ sizeLine; decide, fun F nF => ?_⟩
    have sF := same_upd (o := .lst []) nF
    obtain ⟨npF, ncF⟩ := hP.nep nF
    refine ⟨_, rfl, _, rfl, p, c, ns, m, asks, rfl, hP.same sF, by unfold penMost; omega, a0, by omega, fun r H1 r0 r1 kp1 P1 => ?_⟩
    refine ⟨1, r, rfl, rfl, _, rfl, by omega, by omega, ?_⟩
    refine for_range (lo := 0) (n := (1 + r).toNat) (fun i σ H2 => ∃ (y6 y7 y8 : Option V) (fs : List V) (hs : List (List (List Int))), σ = [some (.ref p), some (.int kinds), some (.int asks), some (.int ways), some (.int size), some (.ref F), y6, y7, y8, none] ∧
      Kp p H H2 ∧ Pen H2 p c ns (m + 1 + 70 * i) ∧ H2 F = some (.lst fs) ∧ DpAll K H2 fs (hs.map askD) ∧ hs.length = i ∧ ∀ a ∈ hs, AskOk kinds ways S a)
      ⟨none, none, none, [], [], rfl, sF.kp.trans kp1, P1, kp1 _ _ upd_same npF.symm, .nil, rfl, by simp⟩ ?_ ?_
    · rintro i σ H2 hi ⟨y6, y7, y8, fs, hs, rfl, kp2, P2, hF, dF, lF, okF⟩
      have hi8 : i < 8 := by omega
      refine ⟨by show 0 ≤ sizeLine; decide, fun A nA => ?_⟩
      have sA := same_upd (o := .lst []) nA
      obtain ⟨npA, ncA⟩ := P2.nep nA
      have nHA : H A = none := kp2.free nA npA.symm
      have nFA : F ≠ A := ne_of_none hF nA
      refine ⟨_, rfl, _, rfl, p, c, ns, _, ways, rfl, P2.same sA, by unfold penMost; omega, w0, by omega, fun r' H3 r0' r1' kp3 P3 => ?_⟩
      refine ⟨1, r', rfl, rfl, _, rfl, by omega, by omega, ?_⟩
      have hF3 := kp3 _ _ (sA _ _ hF) npF.symm
      have dF3 := (P2.same sA).dpAll kp3 (dpAll_same sA dF) (noLAll_map noL_ask hs)
      refine for_range (lo := 0) (n := (1 + r').toNat) (fun j σ H4 => ∃ (y8 : Option V) (ws : List V) (ls : List (List Int)), σ = [some (.ref p), some (.int kinds), some (.int asks), some (.int ways), some (.int size), some (.ref F), some (.int (0 + (i : Int))), some (.ref A), y8, none] ∧
        Kp p H H4 ∧ Pen H4 p c ns (m + 2 + 70 * i + 10 * j) ∧ H4 F = some (.lst fs) ∧ DpAll K H4 fs (hs.map askD) ∧ H4 A = some (.lst ws) ∧ DpAll K H4 ws (ls.map wayD) ∧ ls.length = j ∧ ∀ l ∈ ls, WayOk kinds S l)
        ⟨y8, [], [], rfl, (kp2.same sA).trans kp3, P3.mono (by omega), hF3, dF3, kp3 _ _ upd_same npA.symm, .nil, rfl, by simp⟩ ?_ ?_
      · rintro j σ H4 hj ⟨y8', ws, ls, rfl, kp4, P4, hF4, dF4, hA4, dA4, lA, okA⟩
        have hj5 : j < 5 := by omega
        have lws := dpAll_len dA4
        rw [List.length_map] at lws
        refine ⟨_, rfl, .inl ⟨rfl, _, SqL.of hA4⟩, ?_⟩
        refine ⟨_, rfl, kinds, rfl, by omega, by omega, fun D nD => ?_⟩
        have sD := same_upd (o := .lst []) nD
        obtain ⟨npD, ncD⟩ := P4.nep nD
        refine lc_range (lo := 0) (n := kinds.toNat) (fun t H5 => Kp p H4 H5 ∧ Pen H5 p c ns (m + 2 + 70 * i + 10 * j + t) ∧ ∃ xs : List Int, H5 D = some (.lst (xs.map V.int)) ∧ xs.length = t ∧ ∀ x ∈ xs, -S ≤ x ∧ x ≤ S)
          ⟨sD.kp, P4.same sD, [], upd_same, rfl, by simp⟩ ?_ ?_
        · rintro t H5 ht ⟨kp5, P5, xs, hD, lx, bx⟩
          refine ⟨rfl, ?_⟩
          refine ⟨_, rfl, _, rfl, 2, size, rfl, rfl, .inl ⟨by decide, by decide⟩, _, 1, rfl, rfl, p, c, ns, _, _, rfl, P5, by unfold penMost; omega, by omega, by omega, fun z H6 z0 z1 kp6 P6 => ?_⟩
          refine ⟨_, rfl, z, size, rfl, rfl, _, kp6 _ _ hD npD.symm, by rw [List.length_map]; exact small_line (by omega), ?_⟩
          refine ⟨(kp5.trans kp6).put nD, P6.put npD ncD, xs ++ [z - size], ?_, by rw [List.length_append, lx]; rfl, mem_app1 bx ⟨by omega, by omega⟩⟩
          rw [upd_same, List.map_append]
          rfl
        · rintro H5 ⟨kp5, P5, xs, hD, lx, bx⟩
          refine ⟨D, _, rfl, .inl ⟨SqL.of hD, fun W nW => ?_⟩⟩
          have sW := same_upd (o := .tup (xs.map V.int)) nW
          have hA5 := sW _ _ (kp5 _ _ hA4 npA.symm)
          have dW : Dp K (upd H5 W (.tup (xs.map V.int))) (.ref W) (wayD xs) := dp_tup nW (dpAll_ints xs)
          have okx : WayOk kinds S xs := ⟨by omega, bx⟩
          refine ⟨A, ws, _, rfl, rfl, hA5, small_line (by omega), ?_⟩
          refine ⟨_, ws ++ [.ref W], ls ++ [xs], rfl, ((kp4.trans kp5).same sW).put nHA, ((P5.same sW).put npA ncA).mono (by omega), ?_, ?_, upd_same, ?_, by rw [List.length_append, lA]; rfl, mem_app1 okA okx⟩
          · rw [upd_ne nFA]
            exact sW _ _ (kp5 _ _ hF4 npF.symm)
          · exact dpAll_put hA5 (dpAll_same sW (P4.dpAll kp5 dF4 (noLAll_map noL_ask hs))) (noLAll_map noL_ask hs)
          · exact dpAll_put hA5 (dpAll_app1 (dpAll_same sW (P4.dpAll kp5 dA4 (noLAll_map noL_way ls))) dW) (noLAll_map noL_way _)
      rintro σ H4 ⟨y8', ws, ls, rfl, kp4, P4, hF4, dF4, hA4, dA4, lA, okA⟩
      refine ⟨fun σ H5 => ∃ (ws : List V) (ls : List (List Int)), σ = [some (.ref p), some (.int kinds), some (.int asks), some (.int ways), some (.int size), some (.ref F), some (.int (0 + (i : Int))), some (.ref A), y8', none] ∧
          Kp p H H5 ∧ Pen H5 p c ns (m + 2 + 70 * i + 65) ∧ H5 F = some (.lst fs) ∧ DpAll K H5 fs (hs.map askD) ∧ H5 A = some (.lst ws) ∧ DpAll K H5 ws (ls.map wayD) ∧ 1 ≤ ls.length ∧ (ls.length : Int) ≤ ways ∧ ∀ l ∈ ls, WayOk kinds S l, ?_, ?_⟩
      · refine ⟨_, rfl, p, c, ns, _, 3, rfl, P4, by unfold penMost; omega, by decide, by decide, fun z H5 z0 z1 kp5 P5 => ?_⟩
        have hA5 := kp5 _ _ hA4 npA.symm
        have hF5 := kp5 _ _ hF4 npF.symm
        have dF5 := P4.dpAll kp5 dF4 (noLAll_map noL_ask hs)
        have dA5 := P4.dpAll kp5 dA4 (noLAll_map noL_way ls)
        refine ⟨_, 0, rfl, rfl, _, rfl, ite2 (fun _ => ?_) (fun _ => ?_)⟩
        · obtain ⟨l0, hl0⟩ : ∃ l0, ls[0]? = some l0 := ⟨_, List.getElem?_eq_getElem (show 0 < ls.length by omega)⟩
          have ok0 := okA l0 (List.mem_of_getElem? hl0)
          obtain ⟨v, hv, dv⟩ := dpAll_getD (i := 0) (d := wayD l0) dA5 (by rw [List.getElem?_map, hl0]; rfl)
          have lk := ok0.len
          refine ⟨_, rfl, _, rfl, A, ws, 0, v, rfl, rfl, SqL.of hA5, atI_nat (j := 0) hv, ?_⟩
          refine ⟨p, c, ns, _, v, l0, S, rfl, P5, by unfold penMost; omega, dv, by omega, by omega, S3, ok0.all, fun v' H6 l' kp6 P6 dv' ll' bl' => ?_⟩
          have hA6 := kp6 _ _ hA5 npA.symm
          have hF6 := kp6 _ _ hF5 npF.symm
          have dF6 := P5.dpAll kp6 dF5 (noLAll_map noL_ask hs)
          have dA6 := P5.dpAll kp6 dA5 (noLAll_map noL_way ls)
          have lws := dpAll_len dA6
          rw [List.length_map] at lws
          refine ⟨_, rfl, A, ws, 0, 0, rfl, rfl, hA6, ixN_of (by decide) (by omega), ?_⟩
          have okl' : WayOk kinds S l' := ⟨by omega, bl'⟩
          have dset : DpAll K H6 (ws.set 0 v') ((ls.set 0 l').map wayD) := by
            rw [List.map_set]
            exact dpAll_set0 dA6 dv'
          refine ⟨ws.set 0 v', ls.set 0 l', rfl, ((kp4.trans kp5).trans kp6).put nHA, (P6.put npA ncA).mono (by omega), ?_, ?_, upd_same, ?_, by rw [List.length_set]; omega, by rw [List.length_set]; omega, fun l hl => ?_⟩
          · rw [upd_ne nFA]
            exact hF6
          · exact dpAll_put hA6 dF6 (noLAll_map noL_ask hs)
          · exact dpAll_put hA6 dset (noLAll_map noL_way _)
          · rcases List.mem_or_eq_of_mem_set hl with h | h
            · exact okA l h
            · rw [h]
              exact okl'
        · exact ⟨ws, ls, rfl, kp4.trans kp5, P5.mono (by omega), hF5, dF5, hA5, dA5, by omega, by omega, okA⟩
      · rintro σ H5 ⟨ws, ls, rfl, kp5, P5, hF5, dF5, hA5, dA5, l1, lw, okA⟩
        refine ⟨_, rfl, .inl ⟨rfl, _, SqL.of hF5⟩, _, rfl, A, ws, rfl, .inl ⟨SqL.of hA5, fun W nW => ?_⟩⟩
        have sW := same_upd (o := .tup ws) nW
        have dW : Dp K (upd H5 W (.tup ws)) (.ref W) (askD ls) := dp_tup nW dA5
        have hFW := sW _ _ hF5
        have okL : AskOk kinds ways S ls := ⟨by omega, by omega, by omega, okA⟩
        refine ⟨F, fs, _, rfl, rfl, hFW, small_line (by rw [dpAll_len dF5, List.length_map]; omega), ?_⟩
        refine ⟨_, _, _, fs ++ [.ref W], hs ++ [ls], rfl, (kp5.same sW).put nF, ((P5.same sW).put npF ncF).mono (by omega), upd_same, ?_, by rw [List.length_append, lF]; rfl, mem_app1 okF okL⟩
        exact dpAll_put hFW (dpAll_app1 (dpAll_same sW dF5) dW) (noLAll_map noL_ask _)
    · rintro σ H2 ⟨y6, y7, y8, fs, hs, rfl, kp2, P2, hF, dF, lF, okF⟩
      refine ⟨_, rfl, F, _, rfl, .inl ⟨SqL.of hF, fun W nW => ?_⟩⟩
      have sW := same_upd (o := .tup fs) nW
      exact q W _ hs (kp2.same sW) ((P2.same sW).mono (by omega)) (dp_tup nW dF) ⟨by omega, by omega, okF⟩
end
/-! ### is one life as long as the other -/
def sLonger : Stmt := topS 61
def lifeV : Option Int → V
  | none => .non
  | some n => .int n
def longer : Option Int → Option Int → Bool
  | none, _ => true
  | some _, none => false
  | some a, some b => decide (b ≤ a)
def spLonger : Sp := fun vs H Q _ => ∃ (a b : Option Int), vs = [lifeV a, lifeV b] ∧ Q (.bl (longer a b)) H
section
variable {P : Program} {w : World} {K : PySem.W.Frag} {mg : Str → Option Value} {base : Heap}
theorem scLonger : FnScope ["one", "other"] ["one", "other"] (defScope sLonger) := ⟨rfl, rfl, rfl, by decide +kernel, rfl, by decide +kernel, by decide +kernel⟩
theorem ok_longer {f : Addr} {fd : FuncData} {k : Nat} (F : Fun K "_law_is_longer" "_law_is_longer" sLonger f fd) : FnOk P w K mg base CX0 (k + 1) f fd ["one", "other"] spLonger := by
  refine F.ok scLonger (fun vs H Q E h => ?_) (fun cdv A outer s0 H vs Q E hr h => ?_)
  · obtain ⟨a, b, rfl, _⟩ := h
    rfl
  · obtain ⟨a, b, rfl, q⟩ := h
    refine ⟨_, pss_one (ps_ret (pe_or (pe_cmpR op_isN (pv 0) pe_non (nomark _)) (pe_one (pe_and (pe_cmpR op_notN (pv 1) pe_non (nomark _)) (pe_one (pe_cmpR op_ge (pv 0) (pv 1) (nomark _))))))), ?_⟩
    -- sem
    cases a with
    | none => exact ⟨_, rfl, rfl, _, rfl, ifT rfl q⟩
    | some a =>
      refine ⟨_, rfl, rfl, _, rfl, ifF rfl ?_⟩
      cases b with
      | none => exact ⟨_, rfl, rfl, _, rfl, ifF rfl q⟩
      | some b => exact ⟨_, rfl, rfl, _, rfl, ifT rfl ⟨_, rfl, _, rfl, a, b, rfl, rfl, q⟩⟩
end
/-! ### covers, of the program -/
def sCovers : Stmt := topS 33
/-- over a list: each value told -/
theorem lc_listV {K : PySem.W.Frag} {a : Addr} {xs bs : List V} {i : Nat} {te : TE} {vs : List Nat} {σ : L2.St} {H1 : Hp} {D : Addr} {Qd : Hp → Prop} (hL : SqL K H1 a xs) (nD : H1 D = none) (few : xs.length ≤ 100000) (lb : bs.length = xs.length)
    (hw : ∀ x, wipe ((wipe σ vs).set i (some x)) vs = wipe σ vs)
    (step : ∀ (m : Nat) x y H2, Same H1 H2 → xs[m]? = some x → bs[m]? = some y → ∀ Q : VK, (∀ H3, Same H2 H3 → Q y H3) → te ((wipe σ vs).set i (some x)) H2 Q)
    (hd : ∀ H2, Same H1 H2 → H2 D = some (.lst bs) → Qd H2) :
    ∃ W : Nat → Nat → Hp → Prop, (∃ m, W 0 m (upd H1 D (.lst []))) ∧ ∀ i' m H, W i' m H →
      ((Itl K a).stop i' H ∧ Qd H) ∨ ((Itl K a).go i' H ∧ ∃ Nx : Hp → Prop, (∀ H', Nx H' → ∃ m', m' < m ∧ W (i' + 1) m' H') ∧ ∀ x H', (Itl K a).yld i' H x H' → gName i x (wipe σ vs) H' fun σ2 H2 => wipe σ2 vs = wipe σ vs ∧ tYes σ2 H2 fun b H3 =>
        if b = true then te σ2 H3 fun y H4 => ∃ acc, H4 D = some (.lst acc) ∧ acc.length < sizeLine ∧ Nx (upd H4 D (.lst (acc ++ [y]))) else Nx H3) := by
  have sD := same_upd (o := .lst []) nD
  refine lc_list (K := K) (a := a) (xs := xs) (fun m H2 => Same H1 H2 ∧ H2 D = some (.lst (bs.take m))) ⟨sD, upd_same⟩ (fun m H2 _ ⟨s2, _⟩ => s2.seq hL) ?_ ?_
  · rintro m x H2 hx ⟨s2, hD⟩
    have lt := (List.getElem?_eq_some_iff.mp hx).1
    obtain ⟨y, hy⟩ : ∃ y, bs[m]? = some y := ⟨_, List.getElem?_eq_getElem (by omega)⟩
    refine ⟨hw x, ?_⟩
    show te _ _ _
    refine step m x y H2 s2 hx hy _ fun H3 s3 => ⟨bs.take m, s3 _ _ hD, ?_, fun b o e => ?_, ?_⟩
    · rw [List.length_take]
      exact small_line (by omega)
    · rw [upd_ne (ne_of_none e nD)]
      exact s3 _ _ (s2 _ _ e)
    · rw [upd_same, take_snoc hy]
  · rintro H2 ⟨s2, hD⟩
    rw [← lb, List.take_length] at hD
    exact hd H2 s2 hD
section
variable {P : Program} {w : World} {K : PySem.W.Frag} {mg : Str → Option Value} {base : Heap}
theorem scCovers : FnScope ["store", "other", "mine", "its"] ["store", "other"] (defScope sCovers) := ⟨rfl, rfl, rfl, by decide +kernel, rfl, by decide +kernel, by decide +kernel⟩
theorem ok_covP {f : Addr} {fd : FuncData} {k : Nat} (F : Fun K "covers" "covers" sCovers f fd) (mz : mg "zip" = none) (ma : mg "all" = none) : FnOk P w K mg base CX0 (k + 1) f fd ["store", "other"] (spCovLaw K) := by
  refine F.ok scCovers (fun vs H Q E h => ?_) (fun cdv A outer s H vs Q E hr h => ?_)
  · obtain ⟨x, y, a, b, rfl, _⟩ := h
    rfl
  · obtain ⟨x, y, a, b, rfl, hx, hy, hl, l4, q⟩ := h
    refine ⟨_, pss_one (ps_ret (pe_callB (cr_all rfl) (by rfl) ma (by decide +kernel) (pa_cons
            (pe_lc (own := [("mine", 2), ("its", 3)]) (g := gTup K 2 (gCons (gName 2) (gCons (gName 3) gNil))) (tt := tYes) rfl scCovers.nd (pi_zipA (by rfl) mz (pa_cons (pv 0) (pa_cons (pv 1) pa_nil)))
              (blkOk_by (N := ["store", "other", "mine", "its"]) (sc := defScope sCovers) (by decide +kernel))
              (fun _ _ _ _ _ => by refine pg_tup rfl (pgs_cons ?_ (pgs_cons ?_ pgs_nil)); exact pg_name (i := 2) scCovers.nd rfl (.inl rfl); exact pg_name (i := 3) scCovers.nd rfl (.inl rfl))
              (fun _ _ _ _ _ => pts_nil) (fun _ _ _ _ _ => by exact pe_cmpR op_ge (pv 2) (pv 3) (nomark _))) pa_nil))), ?_⟩
    obtain ⟨xa, rfl, hX⟩ := way_of hx
    obtain ⟨ya, rfl, hY⟩ := way_of hy
    refine ⟨_, rfl, _, rfl, xa, ya, _, _, rfl, .inr ⟨hX, hY, fun D nD => ?_⟩⟩
    have sD := same_upd (o := .lst []) nD
    have lg : (List.zipWith (fun a b : Int => decide (b ≤ a)) a b).length = a.length := by rw [List.length_zipWith, hl, Nat.min_self]
    refine lc_it (walk_zipT (K := K) (a := xa) (b := ya) (xs := a.map V.int) (ys := b.map V.int) (n := a.length) (by rw [List.length_map, List.length_map, hl, Nat.min_self])) (fun m H4 => Same H H4 ∧ H4 D = some (.lst (((List.zipWith (fun a b : Int => decide (b ≤ a)) a b).take m).map V.bl))) ⟨sD, upd_same⟩ ?_ ?_ ?_
    · rintro m H4 _ ⟨s4, _⟩
      exact ⟨s4.seqT hX, s4.seqT hY⟩
    · rintro m v H4 H5 hm ⟨s4, hD⟩ ⟨U, z1, z2, rfl, nU, rfl, g1, g2⟩
      obtain ⟨u1, e1, rfl⟩ := ints_get g1
      obtain ⟨u2, e2, rfl⟩ := ints_get g2
      have sU := same_upd (o := .tup [V.int u1, V.int u2]) nU
      refine ⟨U, _, rfl, SqT.of upd_same, rfl, _, _, rfl, _, _, rfl, rfl, rfl, ?_⟩
      refine ⟨_, rfl, _, rfl, u1, u2, rfl, rfl, _, sU _ _ hD, ?_, fun b o e => ?_, ?_⟩
      · rw [List.length_map, List.length_take]
        exact small_line (by omega)
      · rw [upd_ne (ne_of_none e nD)]
        exact sU _ _ (s4 _ _ e)
      · rw [upd_same, zip_take e1 e2, List.map_append]
        rfl
    · rintro H4 ⟨s4, hD⟩
      rw [List.take_of_length_le (by omega)] at hD
      exact ⟨D, _, rfl, SqL.of hD, q H4 s4⟩
end
/-! ### one less of a kind -/
theorem set_less {t : List Int} {i : Nat} {z : Int} (l4 : t.length ≤ 4) (hz : t[i]? = some z) : le4 (four (t.set i (z - 1))) (four t) = true ∧ ¬ le4 (four t) (four (t.set i (z - 1))) = true :=
  match t, i, l4, hz with
  | [a], 0, _, h => by
    have e : a = z := Option.some.inj h
    subst e
    show le4 [a - 1, 0, 0, 0] [a, 0, 0, 0] = true ∧ ¬ le4 [a, 0, 0, 0] [a - 1, 0, 0, 0] = true
    rw [le4_iff, le4_iff]
    omega
  | [a, b], 0, _, h => by
    have e : a = z := Option.some.inj h
    subst e
    show le4 [a - 1, b, 0, 0] [a, b, 0, 0] = true ∧ ¬ le4 [a, b, 0, 0] [a - 1, b, 0, 0] = true
    rw [le4_iff, le4_iff]
    omega
  | [a, b], 1, _, h => by
    have e : b = z := Option.some.inj h
    subst e
    show le4 [a, b - 1, 0, 0] [a, b, 0, 0] = true ∧ ¬ le4 [a, b, 0, 0] [a, b - 1, 0, 0] = true
    rw [le4_iff, le4_iff]
    omega
  | [a, b, c], 0, _, h => by
    have e : a = z := Option.some.inj h
    subst e
    show le4 [a - 1, b, c, 0] [a, b, c, 0] = true ∧ ¬ le4 [a, b, c, 0] [a - 1, b, c, 0] = true
    rw [le4_iff, le4_iff]
    omega
  | [a, b, c], 1, _, h => by
    have e : b = z := Option.some.inj h
    subst e
    show le4 [a, b - 1, c, 0] [a, b, c, 0] = true ∧ ¬ le4 [a, b, c, 0] [a, b - 1, c, 0] = true
    rw [le4_iff, le4_iff]
    omega
  | [a, b, c], 2, _, h => by
    have e : c = z := Option.some.inj h
    subst e
    show le4 [a, b, c - 1, 0] [a, b, c, 0] = true ∧ ¬ le4 [a, b, c, 0] [a, b, c - 1, 0] = true
    rw [le4_iff, le4_iff]
    omega
  | [a, b, c, d], 0, _, h => by
    have e : a = z := Option.some.inj h
    subst e
    show le4 [a - 1, b, c, d] [a, b, c, d] = true ∧ ¬ le4 [a, b, c, d] [a - 1, b, c, d] = true
    rw [le4_iff, le4_iff]
    omega
  | [a, b, c, d], 1, _, h => by
    have e : b = z := Option.some.inj h
    subst e
    show le4 [a, b - 1, c, d] [a, b, c, d] = true ∧ ¬ le4 [a, b, c, d] [a, b - 1, c, d] = true
    rw [le4_iff, le4_iff]
    omega
  | [a, b, c, d], 2, _, h => by
    have e : c = z := Option.some.inj h
    subst e
    show le4 [a, b, c - 1, d] [a, b, c, d] = true ∧ ¬ le4 [a, b, c, d] [a, b, c - 1, d] = true
    rw [le4_iff, le4_iff]
    omega
  | [a, b, c, d], 3, _, h => by
    have e : d = z := Option.some.inj h
    subst e
    show le4 [a, b, c, d - 1] [a, b, c, d] = true ∧ ¬ le4 [a, b, c, d] [a, b, c, d - 1] = true
    rw [le4_iff, le4_iff]
    omega
  | [], _, _, h => by simp at h
  | [_], _ + 1, _, h => by simp at h
  | [_, _], _ + 2, _, h => by simp at h
  | [_, _, _], _ + 3, _, h => by simp at h
  | [_, _, _, _], _ + 4, _, h => by simp at h
  | _ :: _ :: _ :: _ :: _ :: _, _, l, _ => by simp at l
theorem set_cut {t : List Int} {i : Nat} {z : Int} (hi : i < t.length) : (t.take i ++ [z]) ++ t.drop (i + 1) = t.set i z := by
  rw [List.set_eq_take_append_cons_drop, if_pos hi, List.append_assoc]
  rfl
/-! ### houses whose boxes may be asked for -/
def BoxCfg (kd b : Nat) : Prop := (b + 1) ^ (kd - 1) ≤ 63 ∧ b ≤ 20
structure HsZ (h : Asks) (kd : Nat) : Prop where
  hs : HsL h kd 5
  few : h.length ≤ 8
  all : ∀ a ∈ h, ∀ l ∈ a, ∀ z ∈ l, -99 ≤ z ∧ z ≤ 99
  ne : ∀ a ∈ h, a ≠ []
def spLW (K : PySem.W.Frag) : Sp := fun vs H Q _ => ∃ (x : V) (h : Asks) (kd b : Nat), vs = [x, .int (b : Int)] ∧ Dp K H x (houseD h) ∧ HsZ h kd ∧ BoxCfg kd b ∧
  ∀ (q : Addr) (H' : Hp) (ps : List V) (R : List (List Int)), Same H H' → H q = none → H' q = some (.lst ps) → DpAll K H' ps (R.map wayD) → (∀ r ∈ R, StK kd r) → Canon (R.map four) (LBall (some (b : Int)) (asks4 h)) → R.length ≤ 63 → Q (.ref q) H'
def spAbv (K : PySem.W.Frag) : Sp := fun vs H Q _ => ∃ (x y : V) (h : Asks) (s : List Int) (kd b : Nat), vs = [x, .int (b : Int), y] ∧ Dp K H x (houseD h) ∧ HsZ h kd ∧ BoxCfg kd b ∧ Dp K H y (wayD s) ∧ StK kd s ∧ (∀ z ∈ s, z ≤ 1000) ∧
  ∀ (q : Addr) (H' : Hp) (ps : List V) (R : List (List Int)), Same H H' → H q = none → H' q = some (.lst ps) → DpAll K H' ps (R.map wayD) → (∀ r ∈ R, StK kd r) → Canon (R.map four) (fun z => le4 (four s) z = true ∧ LBall (some (b : Int)) (asks4 h) z) → R.length ≤ 63 → Q (.ref q) H'
def spHM (K : PySem.W.Frag) : Sp := fun vs H Q _ => ∃ (x : V) (h : Asks) (kd b : Nat), vs = [x, .int (b : Int)] ∧ Dp K H x (houseD h) ∧ HsZ h kd ∧ BoxCfg kd b ∧
  ∀ (N : Int) (H' : Hp), Same H H' → (∀ L : List (List Int), L.Nodup → (∀ s, s ∈ L ↔ s ∈ boxS b kd ∧ LBall (some (b : Int)) (asks4 h) (four s)) → N = L.length) → Q (.int N) H'
theorem HouseOk.hsl {kinds asks ways size : Int} {h : Asks} (o : HouseOk kinds asks ways size h) (k0 : 1 ≤ kinds) (k4 : kinds ≤ 4) : HsL h kinds.toNat 5 := by
  have h1 := o.one
  obtain ⟨a0, ha⟩ : ∃ a0, h[0]? = some a0 := ⟨_, List.getElem?_eq_getElem (show 0 < h.length by omega)⟩
  have ma := List.mem_of_getElem? ha
  have a1 := (o.all a0 ma).one
  obtain ⟨l0, hl⟩ : ∃ l0, a0[0]? = some l0 := ⟨_, List.getElem?_eq_getElem (show 0 < a0.length by omega)⟩
  exact ⟨fun a ha l hl => by have := ((o.all a ha).all l hl).len; omega, fun a ha => (o.all a ha).five, ⟨a0, l0, ha, hl⟩, by omega, by omega⟩
theorem HouseOk.hsz {kinds asks ways size : Int} {h : Asks} (o : HouseOk kinds asks ways size h) (k0 : 1 ≤ kinds) (k4 : kinds ≤ 4) (a8 : asks ≤ 8) (s99 : size ≤ 99) : HsZ h kinds.toNat :=
  ⟨o.hsl k0 k4, by have := o.most; omega, fun a ha l hl z hz => (by have := ((o.all a ha).all l hl).all z hz; omega), fun a ha z => by
    have := (o.all a ha).one
    rw [z] at this
    simp at this⟩
/-! ### k10: what the law's houses ask of boxes -/
theorem four_of_len {n : Nat} (h : n < 4) : n = 0 ∨ n = 1 ∨ n = 2 ∨ n = 3 := by omega
theorem sd_pow {kd b : Nat} (k1 : 1 ≤ kd) (k4 : kd ≤ 4) : sd kd b 1 * (sd kd b 2 * sd kd b 3) = (b + 1) ^ (kd - 1) := by
  unfold sd
  rcases kd_cases k1 k4 with rfl | rfl | rfl | rfl
  · rfl
  · show (b + 1) * (1 * 1) = (b + 1) ^ 1
    rw [Nat.pow_one, Nat.mul_one]
  · show (b + 1) * ((b + 1) * 1) = (b + 1) ^ 2
    rw [Nat.mul_one, Nat.pow_two]
  · show (b + 1) * ((b + 1) * (b + 1)) = (b + 1) ^ 3
    rw [Nat.pow_succ, Nat.pow_two, Nat.mul_assoc]
theorem HsZ.hsOk {h : Asks} {kd : Nat} (o : HsZ h kd) : HsOk h kd := ⟨o.hs.first, o.hs.k1, o.hs.k4, o.hs.len, o.hs.ways, by have := o.few; omega⟩
theorem HsZ.stOk {h : Asks} {kd b : Nat} (o : HsZ h kd) (c : BoxCfg kd b) : StOk kd b (sd kd b 1) (sd kd b 2) (sd kd b 3) (R4 (planOf h)) := by
  have p := sd_pow (b := b) o.hs.k1 o.hs.k4
  have c1 := c.1
  have c2 := c.2
  have l1 : (R4 (planOf h)).length = 1 := rfl
  have few := o.few
  refine ⟨o.hs.k1, o.hs.k4, rfl, rfl, rfl, by omega, by rw [p]; omega, by rw [l1, p]; omega, ?_, o.hsOk.plan.rooms, o.hsOk.plan.rkd, fun l hl a ha => ?_, fun l hl a ha q hq => ?_⟩
  · rw [l1, items_snoc, show itemsR _ _ _ (R4 (planOf h)) 0 = [] from rfl, List.nil_append, roomItems_len, p]
    have lr : (roomAt (R4 (planOf h)) 0).length = h.length := by
      rw [r4_one, roomAt_one, List.length_map]
      unfold asks4
      rw [List.length_map]
    rw [lr]
    have : (b + 1) ^ (kd - 1) * h.length ≤ 63 * 8 := Nat.mul_le_mul c1 few
    omega
  · obtain ⟨l0, hl0, rfl⟩ := List.mem_map.mp hl
    obtain ⟨a0, ha0, rfl⟩ := List.mem_map.mp ha
    rw [List.mem_singleton.mp hl0] at ha0
    obtain ⟨a1, ha1, rfl⟩ := List.mem_map.mp ha0
    intro e
    unfold ask4 at e
    rw [List.map_eq_nil_iff, List.map_eq_nil_iff] at e
    exact o.ne a1 ha1 e
  · obtain ⟨l0, hl0, rfl⟩ := List.mem_map.mp hl
    obtain ⟨a0, ha0, rfl⟩ := List.mem_map.mp ha
    rw [List.mem_singleton.mp hl0] at ha0
    obtain ⟨a1, ha1, rfl⟩ := List.mem_map.mp ha0
    unfold ask4 at hq
    rw [List.map_map] at hq
    obtain ⟨l1, hl1, rfl⟩ := List.mem_map.mp hq
    have ll := o.hs.len a1 ha1 l1 hl1
    have k1 := o.hs.k1
    have bd := o.all a1 ha1 l1 hl1
    show (four l1).getD 0 0 + (b : Int) < 1000000
    match l1, ll, bd with
    | [], ll, _ => exact absurd ll (by show ¬ (0 = kd); omega)
    | z :: r, _, bd =>
      have := bd z List.mem_cons_self
      show z + (b : Int) < 1000000
      omega
/-! ### k10: from the program's promises to those that the law asks for -/
theorem gb_lball {b : Int} {A : Asks} (b0 : 0 ≤ b) {x : List Int} (hx : Ok4 x) : LBall (some b) A x ↔ GB b (oneR A) 0 x :=
  forall_congr' fun n => pb_lb b0 (lb := LB (some b) A) (fun _ => True.intro) (fun _ _ => Iff.rfl) (fun _ _ _ h l => h.mono l) (fun _ _ h => h.down) n x hx
/-- told without the noughts of the kinds that aren't there -/
theorem told_back {kd : Nat} {M : List (List Int)} (l : Lows kd M) : (M.map fun x => x.take kd).map four = M := by
  rw [List.map_map]
  exact (List.map_congr_left fun x hx => l.back x hx).trans (List.map_id _)
theorem told_stk {kd : Nat} {M : List (List Int)} (l : Lows kd M) : ∀ r ∈ M.map (fun x => x.take kd), StK kd r := fun r hr => by
  obtain ⟨x, hx, rfl⟩ := List.mem_map.mp hr
  exact ⟨l.len x hx, l.pos x hx⟩
theorem HsZ.cfg {h : Asks} {kd b : Nat} (o : HsZ h kd) (c : BoxCfg kd b) : sd kd b 1 * (sd kd b 2 * sd kd b 3) ≤ 63 ∧ sd kd b 1 * (sd kd b 2 * sd kd b 3) * 5 < 4096 ∧ sd kd b 1 * (sd kd b 2 * sd kd b 3) * (sd kd b 1 * (sd kd b 2 * sd kd b 3) + 1) < 4096 := by
  have p := sd_pow (b := b) o.hs.k1 o.hs.k4
  have c1 := c.1
  rw [p]
  generalize (b + 1) ^ (kd - 1) = n at c1
  refine ⟨c1, by omega, ?_⟩
  have : n * (n + 1) ≤ 63 * 64 := Nat.mul_le_mul c1 (by omega)
  omega
theorem HsZ.prj {h : Asks} {kd b : Nat} (o : HsZ h kd) (c : BoxCfg kd b) : ∀ x, Ok4 x → GB (b : Int) (oneR (asks4 h)) 0 x → GB (b : Int) (oneR (asks4 h)) 0 (prj kd x) := by
  have so := o.stOk c
  have gx := gb_box (b := (b : Int)) so.k1 so.k4 so.rk
  rw [r4_one] at gx
  exact gx.prj 0
theorem lw_imp {K : PySem.W.Frag} : ∀ vs H Q E, spLW K vs H Q E → spLeastW K vs H Q E := by
  rintro vs H Q E ⟨x, h, kd, b, rfl, hx, hz, cfg, q⟩
  obtain ⟨l63, f5, sq⟩ := hz.cfg cfg
  refine ⟨x, h, kd, b, _, _, _, rfl, hx, hz.hsOk, hz.stOk cfg, f5, sq, fun q1 H1 ps M s1 nq hq d can lM => ?_⟩
  have lo := lows_of can hz.hs.k1 hz.hs.k4 (hz.prj cfg)
  refine q q1 H1 ps _ s1 nq hq d (told_stk lo) ?_ (by rw [List.length_map]; omega)
  rw [told_back lo]
  exact can.congr fun x hx => (gb_lball (by omega) hx).symm
theorem abv_imp {K : PySem.W.Frag} : ∀ vs H Q E, spAbv K vs H Q E → spAboveW K vs H Q E := by
  rintro vs H Q E ⟨x, y, h, s, kd, b, rfl, hx, hz, cfg, hy, os, _, q⟩
  obtain ⟨l63, f5, sq⟩ := hz.cfg cfg
  have k1 := hz.hs.k1
  have k4 := hz.hs.k4
  refine ⟨x, y, h, kd, b, _, _, _, s, rfl, hx, hz.hsOk, hz.stOk cfg, f5, sq, hy, os.1, os.2, fun q1 H1 ps M s1 nq hq d can lM => ?_⟩
  have e4 : prj kd (four s) = four s := by
    unfold prj
    congr 1
    unfold four
    rw [List.take_append_of_le_length (by rw [os.1]; exact Nat.le_refl _)]
    exact List.take_of_length_le (by rw [os.1]; exact Nat.le_refl _)
  have lo := lows_of can k1 k4 fun x hx h => ⟨by have := prj_le k1 k4 h.1; rw [e4] at this; exact this, hz.prj cfg x hx h.2⟩
  refine q q1 H1 ps _ s1 nq hq d (told_stk lo) ?_ (by rw [List.length_map]; omega)
  rw [told_back lo]
  exact can.congr fun x hx => and_congr Iff.rfl (gb_lball (by omega) hx).symm
/-! ### houses of up to three kinds, numbers of -3 to 3 -/
structure Hs75 (h : Asks) (kd : Nat) : Prop where
  z : HsZ h kd
  k3 : kd ≤ 3
  n3 : ∀ a ∈ h, ∀ l ∈ a, ∀ z ∈ l, -3 ≤ z ∧ z ≤ 3
/-- at each level of the table few least ones -/
def Lv8 (h : Asks) : Prop := ∀ j, j ≤ 7 → ∃ B, Canon B (LN (asks4 h) j) ∧ B.length ≤ 8
theorem Hs75.ways {h : Asks} {kd : Nat} (o : Hs75 h kd) : Ways4 (asks4 h) 3 3 3 0 := by
  refine ⟨by decide, by decide, by decide, by decide, fun a ha w hw => ?_⟩
  obtain ⟨a0, ha0, rfl⟩ := List.mem_map.mp ha
  obtain ⟨l, hl, rfl⟩ := List.mem_map.mp hw
  have ll := o.z.hs.len a0 ha0 l hl
  have n3 := o.n3 a0 ha0 l hl
  have k3 := o.k3
  match l, ll, n3 with
  | [], _, _ => exact ⟨0, 0, 0, 0, rfl, by decide, by decide, by decide, by decide⟩
  | [a], _, n => exact ⟨a, 0, 0, 0, rfl, n a (by simp), by decide, by decide, by decide⟩
  | [a, b], _, n => exact ⟨a, b, 0, 0, rfl, n a (by simp), n b (by simp), by decide, by decide⟩
  | [a, b, c], _, n => exact ⟨a, b, c, 0, rfl, n a (by simp), n b (by simp), n c (by simp), by decide⟩
  | _ :: _ :: _ :: _ :: _, ll, _ => exact absurd ll (by simp only [List.length_cons]; omega)
theorem Hs75.ways3 {h : Asks} {kd : Nat} (o : Hs75 h kd) : Ways4 (asks4 h) 3 3 3 3 :=
  ⟨by decide, by decide, by decide, by decide, fun a ha w hw => by
    obtain ⟨e, f, g, i, rfl, p1, p2, p3, p4⟩ := o.ways.all a ha w hw
    exact ⟨e, f, g, i, rfl, p1, p2, p3, by omega⟩⟩
theorem Hs75.fewP {h : Asks} {kd n : Nat} (o : Hs75 h kd) (lv : Lv8 h) (n6 : n ≤ 6) : FewP none (oneR (asks4 h)) n := by
  refine few3 (t := 18) (wy := 5) (c := 8) o.ways (by omega) (fun a ha => ?_) (fun a ha => ?_) (fun j hj => lv j (by omega)) (by decide) (by decide) (by decide)
  · exact (o.z.hsOk.asks.1 a ha).2
  · exact (o.z.hsOk.asks.1 a ha).1
theorem Hs75.cfg {h : Asks} {kd b : Nat} (o : Hs75 h kd) (b6 : b ≤ 6) : BoxCfg kd b := by
  refine ⟨?_, by omega⟩
  have k3 := o.k3
  have k1 := o.z.hs.k1
  have : kd - 1 ≤ 2 := by omega
  exact Nat.le_trans (Nat.pow_le_pow_right (by omega) this) (Nat.le_trans (Nat.pow_le_pow_left (show b + 1 ≤ 7 by omega) 2) (by decide))
theorem great6 {b : Nat} (h : b ≤ 6) {c : Nat} (e : (c : Int) = greatOf (b : Int)) : c ≤ 6 := by
  have : b = 0 ∨ b = 1 ∨ b = 2 ∨ b = 3 ∨ b = 4 ∨ b = 5 ∨ b = 6 := by omega
  have g : greatOf (b : Int) ≤ 6 := by
    rcases this with rfl | rfl | rfl | rfl | rfl | rfl | rfl <;> decide
  omega
theorem Hs75.bxAsk {h : Asks} {kd b : Nat} (o : Hs75 h kd) (b6 : b ≤ 6) : ∃ s1 s2 s3, BxAsk kd b s1 s2 s3 (oneR (asks4 h)) := by
  have c := o.cfg b6
  obtain ⟨_, f5, sq⟩ := o.z.cfg c
  have so := o.z.stOk c
  rw [r4_one] at so
  exact ⟨_, _, _, so, f5, sq⟩
theorem Hs75.askTo {h : Asks} {kd n : Nat} (o : Hs75 h kd) (n7 : n ≤ 7) : AskTo kd (oneR (asks4 h)) n := fun b hb c hc => by
  refine o.bxAsk ?_
  rcases hc with rfl | e
  · omega
  · exact great6 (by omega) e
/-- what the table tells of a fate, as the program has it -/
theorem LostB.fate {h : Asks} {x : List Int} {t : Nat} (hx : Ok4 x) (f : LostB (asks4 h) x t) : FateAt (oneR (asks4 h)) 0 x t false :=
  ⟨fun j hj => ⟨(pb_one hx).mpr (f.before j hj).1, fun g => (f.before j hj).2 ((gb_lball (by omega) hx).mpr g)⟩, (nomatch ·), fun _ z => f.gone ((pb_one hx).mp z)⟩
theorem KeptB.fate {h : Asks} {x : List Int} {t : Nat} (hx : Ok4 x) (f : KeptB (asks4 h) x t) : FateAt (oneR (asks4 h)) 0 x t true :=
  ⟨fun j hj => ⟨(pb_one hx).mpr (f.before j hj).1, fun g => (f.before j hj).2 ((gb_lball (by omega) hx).mpr g)⟩, fun _ => ⟨(pb_one hx).mpr f.last, (gb_lball (by omega) hx).mp f.kept⟩, (nomatch ·)⟩
theorem TabOk.lv8 {K : PySem.W.Frag} {H : Hp} {T L B : Addr} {Ts Bs : List Lv} {kd : Nat} {h : Asks} (o : TabOk K H T L B Ts Bs 6 8 kd h) : Lv8 h := fun j hj => by
  obtain ⟨U, hU⟩ : ∃ U, Ts[j]? = some U := ⟨_, List.getElem?_eq_getElem (by rw [o.lenT]; omega)⟩
  refine ⟨_, o.canT j U hU, ?_⟩
  rw [List.length_map]
  exact (o.ok U (List.mem_append_left _ (List.mem_of_getElem? hU))).2
/-! ### the least ones told, looked at -/
def sLowsR : Stmt := topS 62
def spLowsR (K : PySem.W.Frag) : Sp := fun vs H Q _ => ∃ (x : V) (h : Asks) (kd n : Nat), vs = [x, .int (n : Int)] ∧ Dp K H x (houseD h) ∧ Hs75 h kd ∧ Lv8 h ∧ n ≤ 5 ∧ ∀ H', Same H H' → Q (.bl true) H'
section
variable {P : Program} {w : World} {K : PySem.W.Frag} {mg : Str → Option Value} {base : Heap}
theorem scLowsR : FnScope ["house", "n", "lows", "ahead", "low", "kind", "number", "fewer", "one"] ["house", "n"] (defScope sLowsR) := ⟨rfl, rfl, rfl, by decide +kernel, rfl, by decide +kernel, by decide +kernel⟩
theorem ok_lowsR75 {f fL fB fC : Addr} {fd fdL fdB fdC : FuncData} {k : Nat} (F : Fun K "_law_lows_right" "_law_lows_right" sLowsR f fd)
    (GL : FnOk P w K mg base CX0 k fL fdL ["house", "n"] (spLeastP K)) (kL : PySem.W.keepIn K (.ref fL) = true) (bL : Binds K fdL ["house", "n"] []) (gL : mg "least" = some (.ref fL))
    (GB : FnOk P w K mg base CX0 k fB fdB ["house", "store", "n"] (spLastsP K)) (kB : PySem.W.keepIn K (.ref fB) = true) (bB : Binds K fdB ["house", "store", "n"] []) (gB : mg "lasts" = some (.ref fB))
    (GC : FnOk P w K mg base CX0 k fC fdC ["store", "other"] (spCovLaw K)) (kC : PySem.W.keepIn K (.ref fC) = true) (bC : Binds K fdC ["store", "other"] []) (gC : mg "covers" = some (.ref fC))
    (mx : mg "max" = none) (me : mg "enumerate" = none) : FnOk P w K mg base CX0 (k + 1) f fd ["house", "n"] (spLowsR K) := by
  refine F.ok scLowsR (fun vs H Q E h => ?_) (fun cdv A outer s0 H vs Q E hr h => ?_)
  · obtain ⟨x, h, kd, n, rfl, _⟩ := h
    rfl
  · obtain ⟨x, h, kd, n, rfl, hx, o, lv, n5, q⟩ := h
    refine ⟨_, pss_cons (ps_par (i := 2) (j := 3) rfl scLowsR.nd rfl rfl (by decide) rfl rfl (pa_cons (pe_call GL hr (by rfl) gL kL bL .nil pass0 (pa_cons (pv 0) (pa_cons (pv 1) pa_nil))) (pa_cons (pe_call GL hr (by rfl) gL kL bL .nil pass0 (pa_cons (pv 0) (pa_cons (pe_callB (call_max2 rfl) (by rfl) mx (by decide +kernel) (pa_cons pe_int (pa_cons (pe_op op_sub (pv 1) pe_int) pa_nil))) pa_nil))) pa_nil)) (by rfl))
      (pss_cons (ps_for PassesOwn.never rfl (pi_list (pv 2)) (pg_name (i := 4) scLowsR.nd rfl (.inr rfl)) (pss_cons (ps_if (PW.pt (pw_or (pt_not (pt_val (pe_call GB hr (by rfl) gB kB bB .nil pass0 (pa_cons (pv 0) (pa_cons (pv 4) (pa_cons (pv 1) pa_nil)))))) (pw_or1 (pt_cmpR op_notIn_seq pe_bl (pe_lc (own := [("one", 8)]) (g := gName 8) (tt := tYes) rfl scLowsR.nd (pi_list (pv 3))
        (blkOk_by (N := ["house", "n", "lows", "ahead", "low", "kind", "number", "fewer", "one"]) (sc := defScope sLowsR) (by decide +kernel)) (fun _ _ _ _ _ => by exact (pg_name (i := 8) scLowsR.nd rfl (.inl rfl))) (fun _ _ _ _ _ => pts_nil)
        (fun _ _ _ _ _ => by exact (pe_call GC hr (by rfl) gC kC bC .nil pass0 (pa_cons (pv 4) (pa_cons (pv 8) pa_nil))))) (by rfl))))) (pss_one (ps_ret pe_bl)) pss_nil)
      (pss_one (ps_for PassesOwn.never rfl (pi_enumT (by rfl) me (pa_cons (pv 4) pa_nil)) (pg_tup rfl (pgs_cons (pg_name (i := 5) scLowsR.nd rfl (.inl rfl)) (pgs_cons (pg_name (i := 6) scLowsR.nd rfl (.inl rfl)) pgs_nil))) (pss_cons (ps_set (i := 7) scLowsR.nd rfl (.inl rfl) (pe_op op_catN (pe_op op_catN (pe_slice (r := rSlN K) sl_tupN (pv 4) po_none (po_some (pv 5))) (pe_tup (pa_cons (pe_op op_sub (pv 6) pe_int) pa_nil))) (pe_slice (r := rSlN K) sl_tupN (pv 4) (po_some (pe_op op_add (pv 5) pe_int)) po_none)))
      (pss_one (ps_if (PW.pt (pw_and (pt_cmpR op_gt (pv 6) pe_int (nomark _)) (pw_and1 (pt_val (pe_call GB hr (by rfl) gB kB bB .nil pass0 (pa_cons (pv 0) (pa_cons (pv 7) (pa_cons (pv 1) pa_nil)))))))) (pss_one (ps_ret pe_bl)) pss_nil)))))))
      (pss_one (ps_ret pe_bl))), ?_⟩
    -- sem
    have k1 := o.z.hs.k1
    have k4 := o.z.hs.k4
    have hs := o.z.hsOk
    refine ⟨_, rfl, _, rfl, x, h, kd, n, rfl, hx, hs, by omega, o.fewP lv (by omega), fun q1 H1 ps1 M1 s1 nq1 hq1 d1 can1 => ?_⟩
    have lo1 := lows_of can1 k1 k4 fun x hx => ln_prj hs n hx
    have ok1 := told_stk lo1
    have tb1 := told_back lo1
    generalize M1.map (fun x => x.take kd) = R1 at d1 ok1 tb1
    subst tb1
    obtain ⟨m, em⟩ : ∃ m : Nat, (if (n : Int) - 1 > 0 then (n : Int) - 1 else 0) = (m : Int) := ⟨_, (Int.toNat_of_nonneg (by split <;> omega)).symm⟩
    have mn : m ≤ n := by
      split at em <;> omega
    have mi := fun m => lv m
    have e0 : (m : Int) = if (n : Int) - 1 > 0 then (n : Int) - 1 else 0 := em.symm
    refine ⟨_, rfl, _, rfl, (n : Int), 1, rfl, rfl, 0, (n : Int) - 1, rfl, x, h, kd, m, by rw [e0]; rfl, dp_same s1 hx, hs, by omega, o.fewP lv (by omega), fun q2 H2 ps2 M2 s2 nq2 hq2 d2 can2 => ?_⟩
    have lo2 := lows_of can2 k1 k4 fun x hx => ln_prj hs m hx
    have ok2 := told_stk lo2
    have tb2 := told_back lo2
    generalize M2.map (fun x => x.take kd) = R2 at d2 ok2 tb2
    subst tb2
    refine ⟨_, _, rfl, ?_⟩
    have hq1' := s2 _ _ hq1
    have d1' := dpAll_same s2 d1
    have s02 := s1.trans s2
    have lp1 := sts_len d1
    have lp2 := sts_len d2
    have l8 : R2.length ≤ 8 := by
      obtain ⟨B, cB, lB⟩ := lv m (by omega)
      have := can2.uniq cB
      rw [← List.length_map (f := four), this]
      exact lB
    refine ⟨_, rfl, q1, rfl, ⟨_, SqL.of hq1'⟩, ?_⟩
    refine for_list (K := K) (a := q1) (xs := ps1) (fun j σ H3 => ∃ (y4 y5 y6 y7 : Option V), σ = [some x, some (.int (n : Int)), some (.ref q1), some (.ref q2), y4, y5, y6, y7, none] ∧ Same H2 H3)
      ⟨none, none, none, none, rfl, Same.refl _⟩ (fun j σ H3 _ ⟨_, _, _, _, _, s3⟩ => SqL.of (s3 _ _ hq1')) ?_ ?_
    · rintro j v σ H3 hj ⟨y4, y5, y6, y7, rfl, s3⟩
      obtain ⟨t, ht, dv⟩ := sts_get (dpAll_same s3 d1') hj
      have mt := List.mem_of_getElem? ht
      have okt := ok1 t mt
      have o4t := okt.four k1 k4
      have m4t : four t ∈ R1.map four := List.mem_map.mpr ⟨t, mt, rfl⟩
      have lnt : LN (asks4 h) n (four t) := (can1.up _ o4t).mp ⟨_, m4t, le4_refl o4t⟩
      have s23 := s02.trans s3
      refine ⟨_, rfl, _, rfl, _, rfl, x, v, h, t, kd, n, rfl, dp_same s23 hx, dv, hs, by rw [okt.1]; exact k1, by rw [okt.1]; exact k4, okt.2, by omega, o.fewP lv (by omega), fun b H4 s4 hb => ?_⟩
      obtain rfl : b = true := hb.mpr lnt
      refine ⟨_, rfl, ?_⟩
      have s234 := s3.trans s4
      have s04 := s02.trans s234
      have hq4 := s234 _ _ hq2
      have d4 := dpAll_same s234 d2
      have dv4 := dp_same s4 dv
      refine ⟨_, rfl, q2, rfl, ⟨_, SqL.of hq4⟩, fun D nD => ?_⟩
      refine lc_listV (K := K) (a := q2) (xs := ps2) (bs := (R2.map (cov t)).map V.bl) (SqL.of hq4) nD (by omega) (by rw [List.length_map, List.length_map, lp2]) (fun _ => rfl) (fun m' v' y' H5 s5 hm hy Qc hc => ?_) fun H5 s5 hD5 => ?_
      · obtain ⟨u, hu, du⟩ := sts_get (dpAll_same s5 d4) hm
        have oku := ok2 u (List.mem_of_getElem? hu)
        rw [List.getElem?_map, List.getElem?_map, hu] at hy
        obtain rfl := Option.some.inj hy
        exact ⟨_, rfl, _, rfl, v, v', t, u, rfl, dp_same s5 dv4, du, by rw [okt.1, oku.1], by rw [okt.1]; exact k4, fun H6 s6 => hc H6 s6⟩
      refine ⟨D, _, rfl, .inl (SqL.of hD5), rfl, flat_bls _, _, rfl, ?_⟩
      rw [cov_any k4 okt.1 ok2, anyLe_iff.mpr ((can2.up _ o4t).mpr (lnt.le mn))]
      refine ifF rfl ?_
      have s05 := s04.trans s5
      have s25 := s234.trans s5
      have dv5 := dp_same s5 dv4
      obtain ⟨ta, rfl, hT⟩ := way_of dv5
      refine ⟨_, rfl, ta, _, rfl, hT, ?_⟩
      refine for_it (walk_enumT (K := K) (a := ta) (xs := t.map V.int)) (fun i σ H6 => ∃ (y5 y6 y7 : Option V), σ = [some x, some (.int (n : Int)), some (.ref q1), some (.ref q2), some (.ref ta), y5, y6, y7, none] ∧ Same H5 H6)
        ⟨y5, y6, y7, rfl, Same.refl _⟩ ?_ ?_ ?_
      · rintro i σ H6 _ ⟨_, _, _, _, s6⟩
        exact s6.seqT hT
      · rintro i u σ H6 H7 hi ⟨y5, y6, y7, rfl, s6⟩ ⟨U, x1, x2, rfl, nU, rfl, f1, f2⟩
        obtain rfl := Option.some.inj f1
        have sU := same_upd (o := .tup [V.int (i : Int), x2]) nU
        obtain ⟨z, hz, rfl⟩ := ints_get f2
        have il := (List.getElem?_eq_some_iff.mp hz).1
        have s7 := s6.trans sU
        have hT7 := s7.seqT hT
        refine ⟨U, _, rfl, SqT.of upd_same, rfl, _, _, rfl, _, _, rfl, rfl, ?_⟩
        -- one less of the kind
        refine ⟨_, rfl, _, rfl, (i : Int), rfl, ta, _, rfl, hT7, fun c1 H8 s8 h1 => ?_⟩
        rw [cut_to (by omega)] at h1
        have hT8 := s8.seqT hT7
        refine ⟨_, rfl, z, 1, rfl, rfl, by show 1 ≤ sizeLine; decide, fun T nT => ?_⟩
        have sT := same_upd (o := .tup [V.int (z - 1)]) nT
        refine ⟨c1, T, _, _, rfl, rfl, sT.seqT h1, SqT.of upd_same, by rw [List.length_map, List.length_take, sizeLine_eq]; show _ + 1 ≤ _; have := okt.1; omega, fun c2 H9 s9 h2 => ?_⟩
        have hT9 := s9.seqT (sT.seqT hT8)
        refine ⟨_, rfl, _, rfl, _, 1, rfl, rfl, ((i : Int) + 1), rfl, ta, _, rfl, hT9, fun c3 H10 s10 h3 => ?_⟩
        rw [show (i : Int) + 1 = ((i + 1 : Nat) : Int) by omega, cut_from (by omega)] at h3
        refine ⟨c2, c3, _, _, rfl, rfl, s10.seqT h2, h3, by rw [List.length_append, List.length_map, List.length_map, List.length_take, List.length_drop, sizeLine_eq]; show _ + 1 + _ ≤ _; have := okt.1; omega, fun c4 H11 s11 h4 => ?_⟩
        have e4 : (List.map V.int (List.take i t) ++ [V.int (z - 1)]) ++ List.map V.int (List.drop (i + 1) t) = (t.set i (z - 1)).map V.int := by
          rw [← set_cut (by omega), List.map_append, List.map_append]
          rfl
        rw [e4] at h4
        have s711 := s8.trans (sT.trans (s9.trans (s10.trans s11)))
        have s511 := s7.trans s711
        refine ⟨_, rfl, z, 0, rfl, rfl, _, rfl, ite2 (fun c => ?_) (fun c => ?_)⟩
        · have c := of_decide_eq_true c
          have ok' : StK kd (t.set i (z - 1)) := ⟨by rw [List.length_set, okt.1], fun y hy => by
            rcases List.mem_or_eq_of_mem_set hy with hy | e
            · exact okt.2 y hy
            · omega⟩
          refine ⟨_, rfl, _, rfl, _, rfl, x, .ref c4, h, t.set i (z - 1), kd, n, rfl, dp_same (s05.trans s511) hx, of_way h4, hs, by rw [ok'.1]; exact k1, by rw [ok'.1]; exact k4, ok'.2, by omega, o.fewP lv (by omega), fun b H12 s12 hb => ?_⟩
          have bf : b = false := by
            cases b with
            | false => rfl
            | true =>
              exfalso
              have ln := hb.mp rfl
              obtain ⟨q1', q2'⟩ := set_less (by rw [okt.1]; exact k4) hz
              obtain ⟨y, hy, ly⟩ := (can1.up _ (ok'.four k1 k4)).mpr ln
              have e := can1.anti y hy _ m4t (le4_trans ly q1')
              subst e
              exact q2' ly
          subst bf
          exact ⟨_, rfl, ifF rfl ⟨_, _, _, rfl, s511.trans s12⟩⟩
        · exact ⟨_, _, _, rfl, s511⟩
      · rintro σ H6 ⟨y5, y6, y7, rfl, s6⟩
        exact ⟨_, _, _, _, rfl, s25.trans s6⟩
    · rintro σ H3 ⟨y4, y5, y6, y7, rfl, s3⟩
      exact q _ (s02.trans s3)
end
/-! ### what lasts within a box, looked at -/
def sBoxesR : Stmt := topS 63
theorem lball_ln {b : Int} {A : Asks} (b0 : 0 ≤ b) {x : List Int} (hx : Ok4 x) (h : LBall (some b) A x) (n : Nat) : LN A n x :=
  (pb_one hx).mp (pb_wider (b' := none) (fun _ _ _ e => nomatch e) n 0 x ((gb_lball b0 hx).mp h n))
theorem lball_wider {b c : Int} {A : Asks} (b0 : 0 ≤ b) (bc : b ≤ c) {x : List Int} (hx : Ok4 x) (h : LBall (some b) A x) : LBall (some c) A x :=
  (gb_lball (by omega) hx).mpr fun n => pb_wider (b' := some c) (fun z hz => by
    intro r e
    cases e
    exact le4_trans (hz b rfl) (le4_iff.mpr ⟨bc, bc, bc, bc⟩)) n 0 x ((gb_lball b0 hx).mp h n)
theorem HsZ.inb {h : Asks} {kd b : Nat} (o : HsZ h kd) (c : BoxCfg kd b) {M : List (List Int)} (can : Canon M (LBall (some (b : Int)) (asks4 h))) : ∀ x ∈ M, InB (some (b : Int)) x := by
  have so := o.stOk c
  have gx := gb_box (b := (b : Int)) so.k1 so.k4 so.rk
  rw [r4_one] at gx
  exact (canon_cols so.sdOk (can.congr fun x hx => gb_lball (by omega) hx) (gx.prj 0) (gx.clip 0)).2
theorem four_in {s : List Int} {b : Int} (l4 : s.length ≤ 4) (h : le4 (four s) [b, b, b, b] = true) : ∀ z ∈ s, z ≤ b := by
  match s, l4, h with
  | [], _, _ => exact fun z hz => nomatch hz
  | [a], _, h =>
    obtain ⟨h1, _⟩ := le4_iff.mp (show le4 [a, 0, 0, 0] [b, b, b, b] = true from h)
    intro z hz
    rw [List.mem_singleton.mp hz]
    exact h1
  | [a, c], _, h =>
    obtain ⟨h1, h2, _⟩ := le4_iff.mp (show le4 [a, c, 0, 0] [b, b, b, b] = true from h)
    intro z hz
    simp only [List.mem_cons, List.not_mem_nil, or_false] at hz
    omega
  | [a, c, d], _, h =>
    obtain ⟨h1, h2, h3, _⟩ := le4_iff.mp (show le4 [a, c, d, 0] [b, b, b, b] = true from h)
    intro z hz
    simp only [List.mem_cons, List.not_mem_nil, or_false] at hz
    omega
  | [a, c, d, e], _, h =>
    obtain ⟨h1, h2, h3, h4⟩ := le4_iff.mp (show le4 [a, c, d, e] [b, b, b, b] = true from h)
    intro z hz
    simp only [List.mem_cons, List.not_mem_nil, or_false] at hz
    omega
  | _ :: _ :: _ :: _ :: _ :: _, l, _ => simp at l
def spBoxesR (K : PySem.W.Frag) : Sp := fun vs H Q _ => ∃ (x y : V) (T L B : Addr) (Ts Bs : List Lv) (h : Asks) (s : List Int) (kd b : Nat), vs = [x, .ref T, .int (b : Int), y] ∧ Dp K H x (houseD h) ∧ Hs75 h kd ∧ TabOk K H T L B Ts Bs 6 8 kd h ∧ b ≤ 5 ∧ Dp K H y (wayD s) ∧ StK kd s ∧ (∀ z ∈ s, z ≤ 1000) ∧ ∀ H', Same H H' → Q (.bl true) H'
section
variable {P : Program} {w : World} {K : PySem.W.Frag} {mg : Str → Option Value} {base : Heap}
theorem scBoxesR : FnScope ["house", "table", "b", "store", "lows", "more", "low", "one"] ["house", "table", "b", "store"] (defScope sBoxesR) := ⟨rfl, rfl, rfl, by decide +kernel, rfl, by decide +kernel, by decide +kernel⟩
theorem ok_boxesR75 {f fW fA fC fT fF : Addr} {fd fdW fdA fdC fdT fdF : FuncData} {k : Nat} (F : Fun K "_law_boxes_right" "_law_boxes_right" sBoxesR f fd)
    (GW : FnOk P w K mg base CX0 k fW fdW ["house", "b"] (spLW K)) (kW : PySem.W.keepIn K (.ref fW) = true) (bW : Binds K fdW ["house", "b"] []) (gW : mg "least_within" = some (.ref fW))
    (GA : FnOk P w K mg base CX0 k fA fdA ["house", "b", "store"] (spAbv K)) (kA : PySem.W.keepIn K (.ref fA) = true) (bA : Binds K fdA ["house", "b", "store"] []) (gA : mg "above" = some (.ref fA))
    (GC : FnOk P w K mg base CX0 k fC fdC ["store", "other"] (spCovLaw K)) (kC : PySem.W.keepIn K (.ref fC) = true) (bC : Binds K fdC ["store", "other"] []) (gC : mg "covers" = some (.ref fC))
    (GT : FnOk P w K mg base CX0 k fT fdT ["table", "store"] (spFateT K)) (kT : PySem.W.keepIn K (.ref fT) = true) (bT : Binds K fdT ["table", "store"] []) (gT : mg "_law_fate" = some (.ref fT))
    (GF : FnOk P w K mg base CX0 k fF fdF ["house", "store"] (spLife K)) (kF : PySem.W.keepIn K (.ref fF) = true) (bF : Binds K fdF ["house", "store"] []) (gF : mg "life" = some (.ref fF))
    (mx : mg "max" = none) : FnOk P w K mg base CX0 (k + 1) f fd ["house", "table", "b", "store"] (spBoxesR K) := by
  refine F.ok scBoxesR (fun vs H Q E h => ?_) (fun cdv A outer s0 H vs Q E hr h => ?_)
  · obtain ⟨x, y, T, L, B, Ts, Bs, h, s, kd, b, rfl, _⟩ := h
    rfl
  · obtain ⟨x, y, T, L, B, Ts, Bs, h, s, kd, b, rfl, hx, o, tab, b5, hy, oks, y1000, q⟩ := h
    refine ⟨_, pss_cons (ps_par (i := 4) (j := 5) rfl scBoxesR.nd rfl rfl (by decide) rfl rfl (pa_cons (pe_call GW hr (by rfl) gW kW bW .nil pass0 (pa_cons (pv 0) (pa_cons (pv 2) pa_nil))) (pa_cons (pe_call GW hr (by rfl) gW kW bW .nil pass0 (pa_cons (pv 0) (pa_cons (pe_op op_add (pv 2) pe_int) pa_nil))) pa_nil)) (by rfl))
      (pss_cons (ps_for PassesOwn.never rfl (pi_list (pv 4)) (pg_name (i := 6) scBoxesR.nd rfl (.inr rfl)) (pss_cons (ps_if (PW.pt (pw_or (pt_cmpR op_notIn_seq pe_bl (pe_lc (own := [("one", 7)]) (g := gName 7) (tt := tYes) rfl scBoxesR.nd (pi_list (pv 5))
        (blkOk_by (N := ["house", "table", "b", "store", "lows", "more", "low", "one"]) (sc := defScope sBoxesR) (by decide +kernel)) (fun _ _ _ _ _ => by exact (pg_name (i := 7) scBoxesR.nd rfl (.inl rfl))) (fun _ _ _ _ _ => pts_nil)
        (fun _ _ _ _ _ => by exact (pe_call GC hr (by rfl) gC kC bC .nil pass0 (pa_cons (pv 6) (pa_cons (pv 7) pa_nil))))) (by rfl)) (pw_or1 (pt_cmpR op_gt (pe_callB (cr_maxT rfl hr) (by rfl) mx (by decide +kernel) (pa_cons (pv 6) pa_nil)) (pv 2) (nomark _))))) (pss_one (ps_ret pe_bl)) pss_nil)
      (pss_one (ps_if (PW.pt (pw_and (pt_cmpR op_notN (pe_call GT hr (by rfl) gT kT bT .nil pass0 (pa_cons (pv 1) (pa_cons (pv 6) pa_nil))) pe_non (nomark _)) (pw_and1 (pt_cmpR op_notN (pe_call GF hr (by rfl) gF kF bF .nil pass0 (pa_cons (pv 0) (pa_cons (pv 6) pa_nil))) pe_non (nomark _))))) (pss_one (ps_ret pe_bl)) pss_nil))))
      (pss_cons (ps_for PassesOwn.never rfl (pi_list (pe_call GA hr (by rfl) gA kA bA .nil pass0 (pa_cons (pv 0) (pa_cons (pv 2) (pa_cons (pv 3) pa_nil))))) (pg_name (i := 7) scBoxesR.nd rfl (.inr rfl)) (pss_one (ps_if (PW.pt (pw_or (pt_not (pt_val (pe_call GC hr (by rfl) gC kC bC .nil pass0 (pa_cons (pv 7) (pa_cons (pv 3) pa_nil))))) (pw_or1 (pt_cmpR op_notIn_seq pe_bl (pe_lc (own := [("low", 6)]) (g := gName 6) (tt := tYes) rfl scBoxesR.nd (pi_list (pv 4))
        (blkOk_by (N := ["house", "table", "b", "store", "lows", "more", "low", "one"]) (sc := defScope sBoxesR) (by decide +kernel)) (fun _ _ _ _ _ => by exact (pg_name (i := 6) scBoxesR.nd rfl (.inl rfl))) (fun _ _ _ _ _ => pts_nil)
        (fun _ _ _ _ _ => by exact (pe_call GC hr (by rfl) gC kC bC .nil pass0 (pa_cons (pv 7) (pa_cons (pv 6) pa_nil))))) (by rfl))))) (pss_one (ps_ret pe_bl)) pss_nil)))
      (pss_one (ps_ret pe_bl)))), ?_⟩
    -- sem
    have k1 := o.z.hs.k1
    have k4 := o.z.hs.k4
    have hs := o.z.hsOk
    have lv := tab.lv8
    have cf := o.cfg (b := b) (by omega)
    have cf1 := o.cfg (b := b + 1) (by omega)
    refine ⟨_, rfl, _, rfl, x, h, kd, b, rfl, hx, o.z, cf, fun q1 H1 ps1 R1 s1 nq1 hq1 d1 ok1 can1 l1 => ?_⟩
    refine ⟨_, rfl, _, rfl, (b : Int), 1, rfl, rfl, x, h, kd, b + 1, rfl, dp_same s1 hx, o.z, cf1, fun q2 H2 ps2 R2 s2 nq2 hq2 d2 ok2 can2 l2 => ?_⟩
    refine ⟨_, _, rfl, ?_⟩
    have hq1' := s2 _ _ hq1
    have d1' := dpAll_same s2 d1
    have s02 := s1.trans s2
    have lp1 := sts_len d1
    have lp2 := sts_len d2
    have ib := o.z.inb cf can1
    refine ⟨_, rfl, q1, rfl, ⟨_, SqL.of hq1'⟩, ?_⟩
    refine for_list (K := K) (a := q1) (xs := ps1) (fun j σ H3 => ∃ (y6 : Option V), σ = [some x, some (.ref T), some (.int (b : Int)), some y, some (.ref q1), some (.ref q2), y6, none] ∧ Same H2 H3)
      ⟨none, rfl, Same.refl _⟩ (fun j σ H3 _ ⟨_, _, s3⟩ => SqL.of (s3 _ _ hq1')) ?_ ?_
    · rintro j v σ H3 hj ⟨y6, rfl, s3⟩
      obtain ⟨t, ht, dv⟩ := sts_get (dpAll_same s3 d1') hj
      have mt := List.mem_of_getElem? ht
      have okt := ok1 t mt
      have o4t := okt.four k1 k4
      have m4t : four t ∈ R1.map four := List.mem_map.mpr ⟨t, mt, rfl⟩
      have lbt : LBall (some (b : Int)) (asks4 h) (four t) := (can1.up _ o4t).mp ⟨_, m4t, le4_refl o4t⟩
      have s23 := s02.trans s3
      have hq3 := s3 _ _ hq2
      have d3 := dpAll_same s3 d2
      refine ⟨_, rfl, q2, rfl, ⟨_, SqL.of hq3⟩, fun D nD => ?_⟩
      refine lc_listV (K := K) (a := q2) (xs := ps2) (bs := (R2.map (cov t)).map V.bl) (SqL.of hq3) nD (by omega) (by rw [List.length_map, List.length_map, lp2]) (fun _ => rfl) (fun m' v' y' H5 s5 hm hy' Qc hc => ?_) fun H5 s5 hD5 => ?_
      · obtain ⟨u, hu, du⟩ := sts_get (dpAll_same s5 d3) hm
        have oku := ok2 u (List.mem_of_getElem? hu)
        rw [List.getElem?_map, List.getElem?_map, hu] at hy'
        obtain rfl := Option.some.inj hy'
        exact ⟨_, rfl, _, rfl, v, v', t, u, rfl, dp_same s5 dv, du, by rw [okt.1, oku.1], by rw [okt.1]; exact k4, fun H6 s6 => hc H6 s6⟩
      refine ⟨D, _, rfl, .inl (SqL.of hD5), rfl, flat_bls _, _, rfl, ?_⟩
      rw [cov_any k4 okt.1 ok2, anyLe_iff.mpr ((can2.up _ o4t).mpr (lball_wider (by omega) (by omega) o4t lbt))]
      have s25 := s3.trans s5
      have s05 := s02.trans s25
      have dv5 := dp_same s5 dv
      obtain ⟨ta, rfl, hT⟩ := way_of dv5
      -- none above the box
      have mxb : ∀ z ∈ t, z ≤ (b : Int) := four_in (by rw [okt.1]; exact k4) (ib _ m4t b rfl)
      obtain ⟨z0, zs, et⟩ : ∃ z0 zs, t = z0 :: zs := by
        match t, okt.1 with
        | [], e => exact absurd e (by show ¬ (0 = kd); omega)
        | z :: r, _ => exact ⟨z, r, rfl⟩
      have hT0 := hT
      rw [et] at hT
      refine ⟨_, rfl, ta, z0, zs, rfl, hT, _, rfl, _, _, rfl, rfl, _, rfl, ?_⟩
      have mx0 : zs.foldl max z0 ≤ (b : Int) := by
        rw [foldl_max_le]
        rw [et] at mxb
        exact ⟨mxb z0 List.mem_cons_self, fun m hm => mxb m (List.mem_cons_of_mem _ hm)⟩
      rw [decide_eq_false (show ¬ ((b : Int) < zs.foldl max z0) by omega)]
      refine ifF rfl ?_
      have dt5 : Dp K H5 (.ref ta) (wayD t) := of_way hT0
      have nx : ∀ H6, Same H5 H6 → ∃ (y6 : Option V), [some x, some (V.ref T), some (V.int (b : Int)), some y, some (V.ref q1), some (V.ref q2), some (V.ref ta), none] = [some x, some (V.ref T), some (V.int (b : Int)), some y, some (V.ref q1), some (V.ref q2), y6, none] ∧ Same H2 H6 := fun H6 s6 => ⟨_, rfl, s25.trans s6⟩
      refine ⟨_, rfl, _, rfl, T, L, B, .ref ta, Ts, Bs, 6, 8, kd, h, t, rfl, tab.same s05, dt5, okt, k1, k4, by decide, by decide, fun H6 s6 => ?_, fun a H6 tt s6 na ha t6 lost => ?_, fun a H6 tt U s6 na hU ha t6 kept => ?_⟩
      · refine ⟨rfl, _, rfl, ?_⟩
        exact ifF rfl (nx H6 s6)
      · exact absurd (lball_ln (by omega) o4t lbt tt) lost.gone
      · refine ⟨rfl, _, rfl, ?_⟩
        refine ifT rfl ?_
        have s06 := s05.trans s6
        refine ⟨_, rfl, _, rfl, x, .ref ta, h, t, kd, tt, true, rfl, dp_same s06 hx, dp_same s6 dt5, hs, o.fewP lv (by omega), o.askTo (by show tt + 1 ≤ 7; omega), by omega, by rw [okt.1]; exact k1, by rw [okt.1]; exact k4, okt.2, kept.fate o4t, fun H7 s7 => ?_⟩
        refine ⟨rfl, _, rfl, ?_⟩
        exact ifF rfl (nx H7 (s6.trans s7))
    · rintro σ H3 ⟨y6, rfl, s3⟩
      have s03 := s02.trans s3
      refine ⟨_, rfl, _, rfl, _, rfl, x, y, h, s, kd, b, rfl, dp_same s03 hx, o.z, cf, dp_same s03 hy, oks, y1000, fun qa Ha psa Ra sa nqa hqa da oka cana la => ?_⟩
      have lpa := sts_len da
      refine ⟨qa, rfl, ⟨_, SqL.of hqa⟩, ?_⟩
      have s0a := s03.trans sa
      have hq1a := (s3.trans sa) _ _ hq1'
      have d1a := dpAll_same (s3.trans sa) d1'
      refine for_list (K := K) (a := qa) (xs := psa) (fun j σ H4 => ∃ (y6 y7 : Option V), σ = [some x, some (.ref T), some (.int (b : Int)), some y, some (.ref q1), some (.ref q2), y6, y7] ∧ Same Ha H4)
        ⟨_, none, rfl, Same.refl _⟩ (fun j σ H4 _ ⟨_, _, _, s4⟩ => SqL.of (s4 _ _ hqa)) ?_ ?_
      · rintro j v σ H4 hj ⟨y6, y7, rfl, s4⟩
        obtain ⟨t, ht, dv⟩ := sts_get (dpAll_same s4 da) hj
        have mt := List.mem_of_getElem? ht
        have okt := oka t mt
        have o4t := okt.four k1 k4
        have m4t : four t ∈ Ra.map four := List.mem_map.mpr ⟨t, mt, rfl⟩
        obtain ⟨le, lbt⟩ := (cana.up _ o4t).mp ⟨_, m4t, le4_refl o4t⟩
        have s04 := s0a.trans s4
        refine ⟨_, rfl, _, rfl, v, y, t, s, rfl, dv, dp_same s04 hy, by rw [okt.1, oks.1], by rw [okt.1]; exact k4, fun H5 s5 => ?_⟩
        rw [cov_le (by rw [okt.1, oks.1]) (by rw [okt.1]; exact k4), le]
        refine ⟨_, rfl, ?_⟩
        have hq5 := (s4.trans s5) _ _ hq1a
        have d5 := dpAll_same (s4.trans s5) d1a
        have dv5 := dp_same s5 dv
        refine ⟨_, rfl, q1, rfl, ⟨_, SqL.of hq5⟩, fun D nD => ?_⟩
        refine lc_listV (K := K) (a := q1) (xs := ps1) (bs := (R1.map (cov t)).map V.bl) (SqL.of hq5) nD (by omega) (by rw [List.length_map, List.length_map, lp1]) (fun _ => rfl) (fun m' v' y' H6 s6 hm hy' Qc hc => ?_) fun H6 s6 hD6 => ?_
        · obtain ⟨u, hu, du⟩ := sts_get (dpAll_same s6 d5) hm
          have oku := ok1 u (List.mem_of_getElem? hu)
          rw [List.getElem?_map, List.getElem?_map, hu] at hy'
          obtain rfl := Option.some.inj hy'
          exact ⟨_, rfl, _, rfl, v, v', t, u, rfl, dp_same s6 dv5, du, by rw [okt.1, oku.1], by rw [okt.1]; exact k4, fun H7 s7 => hc H7 s7⟩
        refine ⟨D, _, rfl, .inl (SqL.of hD6), rfl, flat_bls _, _, rfl, ?_⟩
        rw [cov_any k4 okt.1 ok1, anyLe_iff.mpr ((can1.up _ o4t).mpr lbt)]
        refine ifF rfl ?_
        exact ⟨_, _, rfl, s4.trans (s5.trans s6)⟩
      · rintro σ H4 ⟨y6, y7, rfl, s4⟩
        exact q _ (s0a.trans s4)
end
/-! ### houses can be compared -/
theorem canLayAll_map {α : Type} {f : α → PyData} (h : ∀ x, (f x).canLay0 = true) : ∀ l : List α, PyData.canLayAll0 (l.map f) = true
  | [] => rfl
  | a :: l => by
    simp only [List.map_cons, PyData.canLayAll0, Bool.and_eq_true]
    exact ⟨h a, canLayAll_map h l⟩
theorem house_lay (h : Asks) : (houseD h).canLay0 = true := by
  unfold houseD
  simp only [PyData.canLay0]
  refine canLayAll_map (fun a => ?_) h
  unfold askD
  simp only [PyData.canLay0]
  refine canLayAll_map (fun l => ?_) a
  unfold wayD
  simp only [PyData.canLay0]
  exact canLayAll_map (fun i => by simp only [PyData.canLay0]) l
theorem depthAll_map {α : Type} {f : α → PyData} {m : Nat} : ∀ {l : List α}, (∀ x ∈ l, (f x).depth ≤ m) → PyData.depthAll (l.map f) ≤ m
  | [], _ => by simp [PyData.depthAll]
  | x :: r, h => by
    rw [List.map_cons]
    simp only [PyData.depthAll]
    have h1 := h x List.mem_cons_self
    have h2 := depthAll_map (m := m) fun y hy => h y (List.mem_cons_of_mem _ hy)
    omega
structure Shows (d : PyData) (m : Nat) (k : Nat) : Prop where
  show_ : d.showable = true
  dict : d.hasDict = false
  depth : d.depth ≤ k
  len : d.shown.length ≤ m
theorem way_depth (l : List Int) : (wayD l).depth ≤ 2 := by
  unfold wayD
  simp only [PyData.depth]
  have := depthAll_map (f := PyData.int) (m := 0) (l := l) fun x _ => by simp [PyData.depth]
  omega
theorem ask_depth (a : List (List Int)) : (askD a).depth ≤ 3 := by
  unfold askD
  simp only [PyData.depth]
  have := depthAll_map (f := wayD) (m := 2) (l := a) fun x _ => way_depth x
  omega
theorem house_depth (h : Asks) : (houseD h).depth ≤ 4 := by
  unfold houseD
  simp only [PyData.depth]
  have := depthAll_map (f := askD) (m := 3) (l := h) fun x _ => ask_depth x
  omega
theorem house_shaped (h : Asks) : SeqAt.shaped (houseD h) = true := by
  unfold SeqAt.shaped
  rw [Bool.and_eq_true, decide_eq_true_iff]
  exact ⟨house_lay h, Nat.le_trans (house_depth h) (by decide)⟩
/-! ### lives compared (plain Lean), and the table kept while the pen moves -/
def LifeOf (A : Asks) (x : List Int) : Option Int → Prop
  | none => ∃ t, KeptB A x t
  | some z => ∃ t : Nat, z = (t : Int) - 1 ∧ LostB A x t
theorem life_longer {A A' : Asks} {x x' : List Int} (hx : Ok4 x) (h : ∀ n, LN A n x → LN A' n x') : ∀ {r r' : Option Int}, LifeOf A x r → LifeOf A' x' r' → longer r' r = true
  | _, none, _, _ => rfl
  | none, some z', ⟨t, k⟩, ⟨t', _, l⟩ => absurd (h _ (lball_ln (by omega) hx k.kept t')) l.gone
  | some z, some z', ⟨t, e, l⟩, ⟨t', e', l'⟩ => by
    refine decide_eq_true ?_
    by_cases c : t' < t
    · exact absurd (h _ (l.before t' c).1) l'.gone
    · omega
theorem le4_ptw {s t : List Int} (e : s.length = t.length) (l4 : s.length ≤ 4) (h : ∀ (i : Nat) (x z : Int), t[i]? = some x → s[i]? = some z → z ≤ x) : le4 (four s) (four t) = true :=
  match s, t, e, l4, h with
  | [], [], _, _, _ => rfl
  | [a], [b], _, _, h => show le4 [a, 0, 0, 0] [b, 0, 0, 0] = true from le4_iff.mpr ⟨h 0 _ _ rfl rfl, Int.le_refl _, Int.le_refl _, Int.le_refl _⟩
  | [a, a2], [b, b2], _, _, h => show le4 [a, a2, 0, 0] [b, b2, 0, 0] = true from le4_iff.mpr ⟨h 0 _ _ rfl rfl, h 1 _ _ rfl rfl, Int.le_refl _, Int.le_refl _⟩
  | [a, a2, a3], [b, b2, b3], _, _, h => show le4 [a, a2, a3, 0] [b, b2, b3, 0] = true from le4_iff.mpr ⟨h 0 _ _ rfl rfl, h 1 _ _ rfl rfl, h 2 _ _ rfl rfl, Int.le_refl _⟩
  | [a, a2, a3, a4], [b, b2, b3, b4], _, _, h => show le4 [a, a2, a3, a4] [b, b2, b3, b4] = true from le4_iff.mpr ⟨h 0 _ _ rfl rfl, h 1 _ _ rfl rfl, h 2 _ _ rfl rfl, h 3 _ _ rfl rfl⟩
  | _ :: _ :: _ :: _ :: _ :: _, _, _, l, _ => by simp at l
/-- an ask of a house that may be asked for -/
structure AskG (kd : Nat) (a : List (List Int)) : Prop where
  ne : a ≠ []
  five : a.length ≤ 5
  all : ∀ l ∈ a, l.length = kd ∧ ∀ z ∈ l, -3 ≤ z ∧ z ≤ 3
theorem hs75_of {h : Asks} {kd : Nat} (k1 : 1 ≤ kd) (k3 : kd ≤ 3) (ne : h ≠ []) (few : h.length ≤ 8) (all : ∀ a ∈ h, AskG kd a) : Hs75 h kd := by
  refine ⟨⟨⟨fun a ha l hl => ((all a ha).all l hl).1, fun a ha => (all a ha).five, ?_, k1, by omega⟩, few, fun a ha l hl z hz => ?_, fun a ha => (all a ha).ne⟩, k3, fun a ha l hl => ((all a ha).all l hl).2⟩
  · match h, ne, all with
    | a :: r, _, all =>
      match a, (all a List.mem_cons_self).ne with
      | [], e => exact absurd rfl e
      | l :: a, _ => exact ⟨_, _, rfl, rfl⟩
  · have := ((all a ha).all l hl).2 z hz
    omega
theorem HouseOk.askG {kinds : Int} {h : Asks} (o : HouseOk kinds 3 3 3 h) (k0 : 1 ≤ kinds) : ∀ a ∈ h, AskG kinds.toNat a := fun a ha =>
  ⟨fun e => by
    have := (o.all a ha).one
    rw [e] at this
    simp at this, (o.all a ha).five, fun l hl => ⟨by have := ((o.all a ha).all l hl).len; omega, ((o.all a ha).all l hl).all⟩⟩
theorem dpAll_take {K : PySem.W.Frag} {H : Hp} : ∀ {vs : List V} {ds : List PyData} (k : Nat), DpAll K H vs ds → DpAll K H (vs.take k) (ds.take k)
  | _, _, 0, _ => by rw [List.take_zero, List.take_zero]; exact .nil
  | _, _, _ + 1, .nil => by rw [List.take_nil, List.take_nil]; exact .nil
  | _, _, k + 1, .cons h t => by rw [List.take_succ_cons, List.take_succ_cons]; exact .cons h (dpAll_take k t)
theorem askS_sub {h g : Asks} (s : ∀ b ∈ g, ∃ a ∈ h, ∀ w ∈ a, w ∈ b) : ∀ b ∈ asks4 g, ∃ a ∈ asks4 h, ∀ w ∈ a, w ∈ b := fun b hb => by
  obtain ⟨b0, hb0, rfl⟩ := List.mem_map.mp hb
  obtain ⟨a0, ha0, sub⟩ := s b0 hb0
  refine ⟨_, List.mem_map.mpr ⟨a0, ha0, rfl⟩, fun w hw => ?_⟩
  obtain ⟨l, hl, rfl⟩ := List.mem_map.mp hw
  exact List.mem_map.mpr ⟨l, sub l hl, rfl⟩
theorem LvOk.pen {K : PySem.W.Frag} {H H' : Hp} {p c : Addr} {ns : List Int} {m kd : Nat} {U : Lv} (P : Pen H p c ns m) (k : Kp p H H') (o : LvOk K H kd U) : LvOk K H' kd U := by
  obtain ⟨h1, h2, h3⟩ := o
  refine ⟨k _ _ h1 fun e => ?_, P.dpAll k h2 (noLAll_map noL_way _), h3⟩
  obtain ⟨⟨a, l, hp, _⟩, _⟩ := P
  rw [e, hp] at h1
  have e2 : U.2.1 = [V.ref c, V.int a, V.int l] := by
    have := Option.some.inj h1
    injection this with this
    exact this.symm
  rw [e2] at h2
  generalize U.2.2 = R at h2
  match R, h2 with
  | x :: y :: r, .cons _ (.cons q _) =>
    obtain ⟨_, z, _⟩ := way_of q
    cases z
theorem TabOk.pen {K : PySem.W.Frag} {H H' : Hp} {p c : Addr} {ns : List Int} {m : Nat} {T L B : Addr} {Ts Bs : List Lv} {kd : Nat} {h : Asks} (o : TabOk K H T L B Ts Bs 6 8 kd h) (P : Pen H p c ns m) (k : Kp p H H') : TabOk K H' T L B Ts Bs 6 8 kd h := by
  have PP := P
  obtain ⟨⟨a, l, hp, _⟩, _⟩ := P
  have ne : ∀ {D : Addr} {Us : List Lv}, H D = some (.lst (Us.map fun T => V.ref T.1)) → Us.length ≠ 3 → D ≠ p := fun {D Us} hD n e => by
    rw [e, hp] at hD
    have := Option.some.inj hD
    injection this with this
    have := congrArg List.length this
    rw [List.length_map] at this
    exact n this.symm
  have l1 := o.lenT
  have l2 := o.lenB
  refine ⟨k _ _ o.tup fun e => ?_, k _ _ o.lev (ne o.lev (by omega)), k _ _ o.box (ne o.box (by omega)), fun U hU => ⟨(o.ok U hU).1.pen PP k, (o.ok U hU).2⟩, l1, l2, o.canT, o.canB⟩
  have := o.tup
  rw [e, hp] at this
  cases this
/-- what is found of a life: told, or beyond -/
def TellV (h : Asks) (s : List Int) (v : V) : Prop := v = .str "beyond" ∨ ∃ r, v = lifeV r ∧ LifeOf (asks4 h) (four s) r
theorem lifeV_ne (r : Option Int) (b : Str) : scal (lifeV r) (.str b) = true ∧ (!decide (lifeV r = .str b)) = true := by
  cases r with
  | none => exact ⟨rfl, rfl⟩
  | some z => exact ⟨rfl, rfl⟩
theorem eqv_house_nil (h : Asks) : PyData.eqv (houseD h) (.tuple []) = h.isEmpty := by
  unfold houseD
  simp only [PyData.eqv]
  cases h with
  | nil => rfl
  | cons a r => rfl
theorem fewer_sub {h : Asks} {i : Nat} : ∀ b ∈ h.take i ++ h.drop (i + 1), ∃ a ∈ h, ∀ w ∈ a, w ∈ b := fun b hb => by
  rcases List.mem_append.mp hb with hb | hb
  · exact ⟨b, List.mem_of_mem_take hb, fun w hw => hw⟩
  · exact ⟨b, List.mem_of_mem_drop hb, fun w hw => hw⟩
theorem fewer_good {h : Asks} {i kd : Nat} (k1 : 1 ≤ kd) (k3 : kd ≤ 3) (l8 : h.length ≤ 8) (g : ∀ a ∈ h, AskG kd a) : h.take i ++ h.drop (i + 1) = [] ∨ Hs75 (h.take i ++ h.drop (i + 1)) kd := by
  by_cases e : h.take i ++ h.drop (i + 1) = []
  · exact .inl e
  · refine .inr (hs75_of k1 k3 e (by rw [List.length_append, List.length_take, List.length_drop]; omega) fun a ha => ?_)
    rcases List.mem_append.mp ha with ha | ha
    · exact g a (List.mem_of_mem_take ha)
    · exact g a (List.mem_of_mem_drop ha)
theorem wider_sub {h : Asks} {i : Nat} {b : List (List Int)} {w : List Int} (hb : h[i]? = some b) : ∀ c ∈ h.take i ++ [b ++ [w]] ++ h.drop (i + 1), ∃ a ∈ h, ∀ x ∈ a, x ∈ c := fun c hc => by
  rcases List.mem_append.mp hc with hc | hc
  · rcases List.mem_append.mp hc with hc | hc
    · exact ⟨c, List.mem_of_mem_take hc, fun w hw => hw⟩
    · rw [List.mem_singleton.mp hc]
      exact ⟨b, List.mem_of_getElem? hb, fun x hx => List.mem_append_left _ hx⟩
  · exact ⟨c, List.mem_of_mem_drop hc, fun w hw => hw⟩
theorem wider_good {h : Asks} {i kd : Nat} {b : List (List Int)} {w : List Int} (k1 : 1 ≤ kd) (k3 : kd ≤ 3) (l8 : h.length ≤ 7) (g : ∀ a ∈ h, AskG kd a) (hb : h[i]? = some b) (b4 : b.length ≤ 4) (lw : w.length = kd) (nw : ∀ z ∈ w, -3 ≤ z ∧ z ≤ 3) : Hs75 (h.take i ++ [b ++ [w]] ++ h.drop (i + 1)) kd := by
  refine hs75_of k1 k3 (fun e => ?_) (by rw [List.length_append, List.length_append, List.length_take, List.length_drop]; show _ + 1 + _ ≤ 8; omega) fun a ha => ?_
  · have := congrArg List.length e
    rw [List.length_append, List.length_append] at this
    simp at this
  · rcases List.mem_append.mp ha with ha | ha
    · rcases List.mem_append.mp ha with ha | ha
      · exact g a (List.mem_of_mem_take ha)
      · rw [List.mem_singleton.mp ha]
        have gb := g b (List.mem_of_getElem? hb)
        refine ⟨fun e => ?_, by rw [List.length_append]; show _ + 1 ≤ 5; omega, fun l hl => ?_⟩
        · have := congrArg List.length e
          rw [List.length_append] at this
          simp at this
        · rcases List.mem_append.mp hl with hl | hl
          · exact gb.all l hl
          · rw [List.mem_singleton.mp hl]
            exact ⟨lw, nw⟩
    · exact g a (List.mem_of_mem_drop ha)
/-! ### the law of k75 -/
def sLaw75 : Stmt := topS 64
def spLaw75 (K : PySem.W.Frag) : Sp := fun vs H Q _ => ∃ (a : Addr) (ns : List Int), vs = [.ref a] ∧ SqL K H a (ns.map V.int) ∧ ns.length ≤ 63 ∧ ∀ H', Q (.bl true) H'
theorem cutv_from {l : List V} {k : Nat} (h : k ≤ l.length) : cutV l (some (k : Int)) none = l.drop k := by
  unfold cutV
  rw [show HT.sIx l.length 0 (some (k : Int)) = min k l.length from HT.sIx_nat _ _ k, HT.sIx_none, Nat.min_eq_left h, List.take_of_length_le (by rw [List.length_drop]; omega)]
theorem cutv_to {l : List V} {k : Nat} (h : k ≤ l.length) : cutV l none (some (k : Int)) = l.take k := by
  unfold cutV
  rw [show HT.sIx l.length l.length (some (k : Int)) = min k l.length from HT.sIx_nat _ _ k, HT.sIx_none, List.drop_zero, Nat.sub_zero, Nat.min_eq_left h]
section
variable {P : Program} {w : World} {K : PySem.W.Frag} {mg : Str → Option Value} {base : Heap}
structure T75 (mg : Str → Option Value) (fO fT fH fS fB fF fV fQ fL fX : Addr) : Prop where
  gO : mg "_law_open" = some (.ref fO)
  gT : mg "_law_take" = some (.ref fT)
  gH : mg "_law_any_house" = some (.ref fH)
  gS : mg "_law_any_store" = some (.ref fS)
  gB : mg "_law_table" = some (.ref fB)
  gF : mg "_law_fate" = some (.ref fF)
  gV : mg "life" = some (.ref fV)
  gQ : mg "_law_is_longer" = some (.ref fQ)
  gL : mg "_law_lows_right" = some (.ref fL)
  gX : mg "_law_boxes_right" = some (.ref fX)
  range : mg "range" = none
  tuple : mg "tuple" = none
  len : mg "len" = none
structure C75 (P : Program) (w : World) (K : PySem.W.Frag) (mg : Str → Option Value) (base : Heap) (k : Nat) (fO fT fH fS fB fF fV fQ fL fX : Addr) (dO dT dH dS dB dF dV dQ dL dX : FuncData) : Prop where
  GO : FnOk P w K mg base CX0 k fO dO ["script"] (spOpen K)
  kO : PySem.W.keepIn K (.ref fO) = true
  bO : Binds K dO ["script"] []
  GT : FnOk P w K mg base CX0 k fT dT ["pen", "amount"] spTake
  kT : PySem.W.keepIn K (.ref fT) = true
  bT : Binds K dT ["pen", "amount"] []
  GH : FnOk P w K mg base CX0 k fH dH ["pen", "kinds", "asks", "ways", "size"] (spHouseB K)
  kH : PySem.W.keepIn K (.ref fH) = true
  bH : Binds K dH ["pen", "kinds", "asks", "ways", "size"] []
  GS : FnOk P w K mg base CX0 k fS dS ["pen", "kinds", "most"] (spAnyStore K)
  kS : PySem.W.keepIn K (.ref fS) = true
  bS : Binds K dS ["pen", "kinds", "most"] []
  GB : FnOk P w K mg base CX0 k fB dB ["house", "most", "cap"] (spTable K)
  kB : PySem.W.keepIn K (.ref fB) = true
  bB : Binds K dB ["house", "most", "cap"] []
  GF : FnOk P w K mg base CX0 k fF dF ["table", "store"] (spFateT K)
  kF : PySem.W.keepIn K (.ref fF) = true
  bF : Binds K dF ["table", "store"] []
  GV : FnOk P w K mg base CX0 k fV dV ["house", "store"] (spLife K)
  kV : PySem.W.keepIn K (.ref fV) = true
  bV : Binds K dV ["house", "store"] []
  GQ : FnOk P w K mg base CX0 k fQ dQ ["one", "other"] spLonger
  kQ : PySem.W.keepIn K (.ref fQ) = true
  bQ : Binds K dQ ["one", "other"] []
  GL : FnOk P w K mg base CX0 k fL dL ["house", "n"] (spLowsR K)
  kL : PySem.W.keepIn K (.ref fL) = true
  bL : Binds K dL ["house", "n"] []
  GX : FnOk P w K mg base CX0 k fX dX ["house", "table", "b", "store"] (spBoxesR K)
  kX : PySem.W.keepIn K (.ref fX) = true
  bX : Binds K dX ["house", "table", "b", "store"] []
theorem scLaw75 : FnScope ["script", "pen", "turn", "kinds", "house", "store", "great", "i", "fewer", "wider", "found", "one", "mine", "table", "is_there", "other", "n", "number"] ["script"] (defScope sLaw75) := ⟨rfl, rfl, rfl, by decide +kernel, rfl, by decide +kernel, by decide +kernel⟩
theorem ok_law75 {f fO fT fH fS fB fF fV fQ fL fX : Addr} {fd dO dT dH dS dB dF dV dQ dL dX : FuncData} {k : Nat} (F : Fun K "law" "law" sLaw75 f fd) (T : T75 mg fO fT fH fS fB fF fV fQ fL fX) (c : C75 P w K mg base k fO fT fH fS fB fF fV fQ fL fX dO dT dH dS dB dF dV dQ dL dX) : FnOk P w K mg base CX0 (k + 1) f fd ["script"] (spLaw75 K) := by
  refine F.ok scLaw75 (fun vs H Q E h => ?_) (fun cdv A outer s0 H vs Q E hr h => ?_)
  · obtain ⟨a, ns, rfl, _⟩ := h
    rfl
  · obtain ⟨a, ns, rfl, hS, hlen, q⟩ := h
    refine ⟨_, pss_cons (ps_set (i := 1) scLaw75.nd rfl (.inr rfl) (pe_call c.GO hr (by rfl) T.gO c.kO c.bO .nil pass0 (pa_cons (pv 0) pa_nil)))
      (pss_cons (ps_for PassesOwn.never rfl (pi_range1 (by rfl) T.range (pa_cons pe_int pa_nil)) (pg_name (i := 2) scLaw75.nd rfl (.inl rfl)) (pss_cons (ps_set (i := 3) scLaw75.nd rfl (.inl rfl) (pe_op op_add pe_int (pe_call c.GT hr (by rfl) T.gT c.kT c.bT .nil pass0 (pa_cons (pv 1) (pa_cons pe_int pa_nil)))))
      (pss_cons (ps_set (i := 4) scLaw75.nd rfl (.inl rfl) (pe_call c.GH hr (by rfl) T.gH c.kH c.bH .nil pass0 (pa_cons (pv 1) (pa_cons (pv 3) (pa_cons pe_int (pa_cons pe_int (pa_cons pe_int pa_nil)))))))
      (pss_cons (ps_set (i := 5) scLaw75.nd rfl (.inl rfl) (pe_call c.GS hr (by rfl) T.gS c.kS c.bS .nil pass0 (pa_cons (pv 1) (pa_cons (pv 3) (pa_cons pe_int pa_nil)))))
      (pss_cons (ps_set (i := 6) scLaw75.nd rfl (.inl rfl) (pe_callTy call_tuple_of (by rfl) T.tuple (by decide +kernel) (pa_cons (pe_lc (own := [("number", 17)]) (g := gName 17) (tt := tYes) rfl scLaw75.nd (pi_tup (pv 5))
        (blkOk_by (N := ["script", "pen", "turn", "kinds", "house", "store", "great", "i", "fewer", "wider", "found", "one", "mine", "table", "is_there", "other", "n", "number"]) (sc := defScope sLaw75) (by decide +kernel)) (fun _ _ _ _ _ => by exact (pg_name (i := 17) scLaw75.nd rfl (.inl rfl))) (fun _ _ _ _ _ => pts_nil)
        (fun _ _ _ _ _ => by exact (pe_op op_add (pv 17) (pe_call c.GT hr (by rfl) T.gT c.kT c.bT .nil pass0 (pa_cons (pv 1) (pa_cons pe_int pa_nil)))))) pa_nil)))
      (pss_cons (ps_set (i := 7) scLaw75.nd rfl (.inl rfl) (pe_call c.GT hr (by rfl) T.gT c.kT c.bT .nil pass0 (pa_cons (pv 1) (pa_cons (pe_callB call_len_seq (by rfl) T.len PySem.boot_len (pa_cons (pv 4) pa_nil)) pa_nil))))
      (pss_cons (ps_set (i := 8) scLaw75.nd rfl (.inl rfl) (pe_op op_catN (pe_slice (r := rSlN K) sl_tupN (pv 4) po_none (po_some (pv 7))) (pe_slice (r := rSlN K) sl_tupN (pv 4) (po_some (pe_op op_add (pv 7) pe_int)) po_none)))
      (pss_cons (ps_set (i := 9) scLaw75.nd rfl (.inl rfl) (pe_op op_catN (pe_op op_catN (pe_slice (r := rSlN K) sl_tupN (pv 4) po_none (po_some (pv 7))) (pe_tup (pa_cons (pe_op op_catN (pe_ix ix_tup (pv 4) (pv 7) (fun _ _ => rfl)) (pe_tup (pa_cons (pe_call c.GS hr (by rfl) T.gS c.kS c.bS .nil pass0 (pa_cons (pv 1) (pa_cons (pv 3) (pa_cons pe_int pa_nil)))) pa_nil))) pa_nil))) (pe_slice (r := rSlN K) sl_tupN (pv 4) (po_some (pe_op op_add (pv 7) pe_int)) po_none)))
      (pss_cons (ps_set (i := 10) scLaw75.nd rfl (.inl rfl) (pe_lst pa_nil))
      (pss_cons (ps_for PassesOwn.never rfl (pi_list (pe_lst (pa_cons (pe_tup (pa_cons (pv 4) (pa_cons (pv 5) pa_nil))) (pa_cons (pe_tup (pa_cons (pv 4) (pa_cons (pv 6) pa_nil))) (pa_cons (pe_tup (pa_cons (pv 8) (pa_cons (pv 5) pa_nil))) (pa_cons (pe_tup (pa_cons (pv 9) (pa_cons (pv 5) pa_nil))) pa_nil)))))) (pg_tup rfl (pgs_cons (pg_name (i := 11) scLaw75.nd rfl (.inl rfl)) (pgs_cons (pg_name (i := 12) scLaw75.nd rfl (.inl rfl)) pgs_nil))) (pss_cons (ps_set (i := 13) scLaw75.nd rfl (.inl rfl) (pe_ifExp (pt_cmpR (op_neD hr.units) (pv 11) (pe_tup pa_nil) (nomark _)) (pe_call c.GB hr (by rfl) T.gB c.kB c.bB .nil pass0 (pa_cons (pv 11) (pa_cons pe_int (pa_cons pe_int pa_nil)))) pe_non))
      (pss_cons (ps_set (i := 14) scLaw75.nd rfl (.inl rfl) (pe_and (pe_cmpR op_notN (pv 13) pe_non (nomark _)) (pe_one (pe_cmpR op_notN (pe_call c.GF hr (by rfl) T.gF c.kF c.bF .nil pass0 (pa_cons (pv 13) (pa_cons (pv 12) pa_nil))) pe_non (nomark _)))))
      (pss_one (ps_expr (pe_bm PySem.F.plainAttrs_list PySem.F.slot_list_append PySem.F.type_list_append mt_append (pv 10) (pa_cons (pe_ifExp (pt_val (pv 14)) (pe_call c.GV hr (by rfl) T.gV c.kV c.bV .nil pass0 (pa_cons (pv 11) (pa_cons (pv 12) pa_nil))) pe_str) pa_nil)))))))
      (pss_cut (ps_if (pt_cmpR op_ne (pe_ix ix_list (pv 10) pe_int (fun _ _ => rfl)) pe_str (nomark _)) (pss_one (ps_for PassesOwn.never rfl (pi_list (pe_slice sl_list (pv 10) (po_some pe_int) po_none)) (pg_name (i := 15) scLaw75.nd rfl (.inl rfl)) (pss_one (ps_if (PW.pt (pw_and (pt_cmpR op_ne (pv 15) pe_str (nomark _)) (pw_and1 (pt_not (pt_val (pe_call c.GQ hr (by rfl) T.gQ c.kQ c.bQ .nil pass0 (pa_cons (pv 15) (pa_cons (pe_ix ix_list (pv 10) pe_int (fun _ _ => rfl)) pa_nil)))))))) (pss_one (ps_ret pe_bl)) pss_nil)))) pss_nil)
      (pss_cons (ps_par (i := 13) (j := 16) rfl scLaw75.nd rfl rfl (by decide) rfl rfl (pa_cons (pe_call c.GB hr (by rfl) T.gB c.kB c.bB .nil pass0 (pa_cons (pv 4) (pa_cons pe_int (pa_cons pe_int pa_nil)))) (pa_cons (pe_call c.GT hr (by rfl) T.gT c.kT c.bT .nil pass0 (pa_cons (pv 1) (pa_cons pe_int pa_nil))) pa_nil)) (by rfl))
      (pss_one (ps_if (pt_cmpR op_notN (pv 13) pe_non (nomark _)) (pss_one (ps_if (PW.pt (pw_or (pt_not (pt_val (pe_call c.GL hr (by rfl) T.gL c.kL c.bL .nil pass0 (pa_cons (pv 4) (pa_cons (pv 16) pa_nil))))) (pw_or1 (pt_not (pt_val (pe_call c.GX hr (by rfl) T.gX c.kX c.bX .nil pass0 (pa_cons (pv 4) (pa_cons (pv 13) (pa_cons (pv 16) (pa_cons (pv 5) pa_nil)))))))))) (pss_one (ps_ret pe_bl)) pss_nil)) pss_nil))))))))))))))
      (pss_one (ps_ret pe_bl))), ?_⟩
    -- sem
    refine ⟨_, rfl, a, ns, rfl, hS, hlen, fun H0 p c' ms s0' P0 _ => ?_⟩
    refine ⟨3, rfl, by decide, by decide, ?_⟩
    refine for_range (lo := 0) (n := 3) (fun t σ H1 => ∃ (y2 y3 y4 y5 y6 y7 y8 y9 y10 y11 y12 y13 y14 y15 y16 : Option V), σ = [some (.ref a), some (.ref p), y2, y3, y4, y5, y6, y7, y8, y9, y10, y11, y12, y13, y14, y15, y16, none] ∧ Pen H1 p c' ms (1000 * t))
      ⟨none, none, none, none, none, none, none, none, none, none, none, none, none, none, none, rfl, P0⟩ ?_ ?_
    · rintro t σ H1 ht ⟨y2, y3, y4, y5, y6, y7, y8, y9, y10, y11, y12, y13, y14, y15, y16, rfl, P1⟩
      -- kinds, house, store
      refine ⟨_, rfl, p, c', ms, _, 3, rfl, P1, by unfold penMost; omega, by decide, by decide, fun r H2 r0 r1 kp2 P2 => ?_⟩
      refine ⟨1, r, rfl, rfl, ?_⟩
      refine ⟨_, rfl, _, rfl, p, c', ms, _, 1 + r, 3, 3, 2, 3, rfl, P2, by unfold penMost; omega, ⟨by omega, by omega⟩, ⟨by decide, by decide⟩, ⟨by decide, by decide⟩, ⟨by decide, by decide⟩, by decide, by decide, fun ha H3 h kp3 P3 dh oh => ?_⟩
      refine ⟨_, rfl, _, rfl, p, c', ms, _, 1 + r, 3, rfl, P3, by unfold penMost; omega, ⟨by omega, by omega⟩, ⟨by decide, by decide⟩, fun sv H4 s kp4 P4 dsv ls bs => ?_⟩
      obtain ⟨kd, ekd⟩ : ∃ kd, kd = (1 + r).toNat := ⟨_, rfl⟩
      have k1 : 1 ≤ kd := by omega
      have k3 : kd ≤ 3 := by omega
      have gA := oh.askG (by omega)
      rw [← ekd] at gA
      have hlen3 := oh.most
      have hone := oh.one
      have hne : h ≠ [] := fun e => by rw [e] at hone; simp at hone
      have oH : Hs75 h kd := hs75_of k1 k3 hne (by omega) gA
      have oks : StK kd s := ⟨by omega, fun z hz => (bs z hz).1⟩
      -- a store with more
      obtain ⟨sa, rfl, hSA⟩ := way_of dsv
      obtain ⟨pl, hp4⟩ := P4.at
      refine ⟨_, rfl, sa, rfl, ⟨_, hSA⟩, fun D nD => ?_⟩
      have sD := same_upd (o := .lst []) nD
      obtain ⟨npD, ncD⟩ := P4.nep nD
      refine lc_tup (K := K) (a := sa) (xs := s.map V.int) (fun j H5 => Kp p H4 H5 ∧ Pen H5 p c' ms (1000 * t + 611 + j) ∧ ∃ xs : List Int, H5 D = some (.lst (xs.map V.int)) ∧ xs.length = j ∧ ∀ (i : Nat) (x z : Int), xs[i]? = some x → s[i]? = some z → z ≤ x ∧ x ≤ z + 1)
        ⟨sD.kp, (P4.same sD).mono (by omega), [], upd_same, rfl, fun i x z e => (nomatch e)⟩ (fun j H5 _ ⟨kp5, _⟩ => kp5.seqT hp4 hSA) ?_ ?_
      · rintro j v H5 hj ⟨kp5, P5, xs, hD, lx, bx⟩
        obtain ⟨z, hz, rfl⟩ := ints_get hj
        have jl := (List.getElem?_eq_some_iff.mp hz).1
        refine ⟨rfl, ?_⟩
        refine ⟨_, rfl, _, rfl, p, c', ms, _, 2, rfl, P5, by unfold penMost; omega, by decide, by decide, fun r2 H6 r20 r21 kp6 P6 => ?_⟩
        refine ⟨z, r2, rfl, rfl, _, kp6 _ _ hD npD.symm, by rw [List.length_map]; exact small_line (by omega), ?_⟩
        refine ⟨(kp5.trans kp6).put nD, P6.put npD ncD, xs ++ [z + r2], ?_, by rw [List.length_append, lx]; rfl, fun i x z' ex ez => ?_⟩
        · rw [upd_same, List.map_append]
          rfl
        · by_cases c1 : i < xs.length
          · rw [List.getElem?_append_left c1] at ex
            exact bx i x z' ex ez
          · have il := (List.getElem?_eq_some_iff.mp ex).1
            rw [List.length_append, List.length_singleton] at il
            obtain rfl : i = xs.length := by omega
            rw [List.getElem?_append_right (Nat.le_refl _), Nat.sub_self] at ex
            obtain rfl := Option.some.inj ex
            rw [lx, hz] at ez
            obtain rfl := Option.some.inj ez
            omega
      rintro H5 ⟨kp5, P5, gs, hD, lgs, bgs⟩
      refine ⟨D, _, rfl, .inl ⟨SqL.of hD, fun G nG => ?_⟩⟩
      have sG := same_upd (o := .tup (gs.map V.int)) nG
      have dG : Dp K (upd H5 G (.tup (gs.map V.int))) (.ref G) (wayD gs) := dp_tup nG (dpAll_ints gs)
      rw [List.length_map] at lgs
      have okg : StK kd gs := ⟨by rw [lgs, oks.1], fun x hx => by
        obtain ⟨i, hi⟩ := List.mem_iff_getElem?.mp hx
        have il := (List.getElem?_eq_some_iff.mp hi).1
        obtain ⟨z, hz⟩ : ∃ z, s[i]? = some z := ⟨_, List.getElem?_eq_getElem (by omega)⟩
        have := bgs i x z hi hz
        have := oks.2 z (List.mem_of_getElem? hz)
        omega⟩
      have leg : le4 (four s) (four gs) = true := le4_ptw lgs.symm (by rw [oks.1]; omega) fun i x z h1 h2 => (bgs i x z h1 h2).1
      have kp46 := kp5.same sG
      have P6 := (P5.mono (show 1000 * t + 611 + (s.map V.int).length ≤ 1000 * t + 620 by rw [List.length_map, oks.1]; omega)).same sG
      generalize upd H5 G (.tup (gs.map V.int)) = H6 at dG kp46 P6
      clear hD bgs
      have dh6 := P4.dp kp46 (P3.dp kp4 dh (noL_house h)) (noL_house h)
      have ds6 := P4.dp kp46 dsv (noL_way s)
      obtain ⟨_, as, e1, hX, hA⟩ := tupv_of dh6
      cases e1
      have las : as.length = h.length := by rw [dpAll_len hA, List.length_map]
      -- which ask
      refine ⟨_, rfl, _, rfl, ha, as, rfl, .inr hX, p, c', ms, _, (as.length : Int), rfl, P6, by unfold penMost; omega, by omega, by omega, fun r3 H7 r30 r31 kp7 P7 => ?_⟩
      obtain ⟨i, rfl⟩ : ∃ i : Nat, r3 = (i : Int) := ⟨r3.toNat, by omega⟩
      have il : i < h.length := by omega
      obtain ⟨_, hp6⟩ := P6.at
      have hX7 := kp7.seqT hp6 hX
      have hA7 := P6.dpAll kp7 hA (noLAll_map noL_ask h)
      have dh7 := P6.dp kp7 dh6 (noL_house h)
      have ds7 := P6.dp kp7 ds6 (noL_way s)
      have dG7 := P6.dp kp7 dG (noL_way gs)
      -- an ask fewer
      refine ⟨_, rfl, _, rfl, (i : Int), rfl, ha, as, rfl, hX7, fun c1 H8 s8 h1 => ?_⟩
      rw [cutv_to (by omega)] at h1
      refine ⟨_, rfl, _, rfl, _, 1, rfl, rfl, ((i : Int) + 1), rfl, ha, as, rfl, s8.seqT hX7, fun c2 H9 s9 h2 => ?_⟩
      rw [show (i : Int) + 1 = ((i + 1 : Nat) : Int) by omega, cutv_from (by omega)] at h2
      refine ⟨c1, c2, _, _, rfl, rfl, s9.seqT h1, h2, by rw [List.length_take, List.length_drop, sizeLine_eq]; omega, fun fa H10 s10 hf => ?_⟩
      have s710 := s8.trans (s9.trans s10)
      have hA10 := dpAll_same s710 hA7
      have dF : Dp K H10 (.ref fa) (houseD (h.take i ++ h.drop (i + 1))) := .tup hf (by
        rw [List.map_append, List.map_take, List.map_drop]
        exact dpAll_app (dpAll_take i hA10) (dpAll_dropN (i + 1) hA10))
      have hX10 := s710.seqT hX7
      have dh10 := dp_same s710 dh7
      have ds10 := dp_same s710 ds7
      have dG10 := dp_same s710 dG7
      have P10 := P7.same s710
      -- a way more
      obtain ⟨b, hb⟩ : ∃ b, h[i]? = some b := ⟨_, List.getElem?_eq_getElem il⟩
      obtain ⟨va, hva, dva⟩ := dpAll_getD (i := i) (d := askD b) hA10 (by rw [List.getElem?_map, hb]; rfl)
      obtain ⟨ba, bw, rfl, hB, hBall⟩ := tupv_of dva
      have mb := List.mem_of_getElem? hb
      have lbw : bw.length = b.length := by rw [dpAll_len hBall, List.length_map]
      have b5 := (gA b mb).five
      have b4 := (oh.all b mb).most
      refine ⟨_, rfl, _, rfl, (i : Int), rfl, ha, as, rfl, hX10, fun c3 H11 s11 h3 => ?_⟩
      rw [cutv_to (by omega)] at h3
      refine ⟨_, rfl, _, rfl, ha, as, (i : Int), .ref ba, rfl, rfl, s11.seqT hX10, atI_nat hva, ?_⟩
      have P11 := P10.same s11
      obtain ⟨_, hp11⟩ := P11.at
      refine ⟨_, rfl, _, rfl, p, c', ms, _, 1 + r, 1, rfl, P11, by unfold penMost; omega, ⟨by omega, by omega⟩, ⟨by decide, by decide⟩, fun wv H12 wl kp12 P12 dw lw bwl => ?_⟩
      have kp1012 : Kp p H10 H12 := s11.kp.trans kp12
      have dh12 := P10.dp kp1012 dh10 (noL_house h)
      have ds12 := P10.dp kp1012 ds10 (noL_way s)
      have dG12 := P10.dp kp1012 dG10 (noL_way gs)
      have dF12 := P10.dp kp1012 dF (noL_house _)
      have h312 := kp12.seqT hp11 h3
      obtain ⟨_, hp10⟩ := P10.at
      have hX12 := kp1012.seqT hp10 hX10
      have hA12 := P10.dpAll kp1012 hA10 (noLAll_map noL_ask h)
      have hB12 := kp1012.seqT hp10 hB
      have hBall12 := P10.dpAll kp1012 hBall (noLAll_map noL_way b)
      refine ⟨by show 1 ≤ sizeLine; decide, fun U nU => ?_⟩
      have sU := same_upd (o := .tup [wv]) nU
      refine ⟨ba, U, bw, [wv], rfl, rfl, sU.seqT hB12, SqT.of upd_same, by rw [sizeLine_eq]; show _ + 1 ≤ _; omega, fun c5 H13 s13 h5 => ?_⟩
      have s123 := sU.trans s13
      have dc5 : Dp K H13 (.ref c5) (askD (b ++ [wl])) := .tup h5 (by
        rw [List.map_append]
        exact dpAll_app (dpAll_same s123 hBall12) (.cons (dp_same s123 dw) .nil))
      refine ⟨by show 1 ≤ sizeLine; decide, fun W nW => ?_⟩
      have sW := same_upd (o := .tup [V.ref c5]) nW
      refine ⟨c3, W, _, _, rfl, rfl, (s123.trans sW).seqT h312, SqT.of upd_same, by rw [List.length_take, sizeLine_eq]; show _ + 1 ≤ _; omega, fun c6 H14 s14 h6 => ?_⟩
      have s124 := s123.trans (sW.trans s14)
      refine ⟨_, rfl, _, rfl, _, 1, rfl, rfl, ((i : Int) + 1), rfl, ha, as, rfl, s124.seqT hX12, fun c7 H15 s15 h7 => ?_⟩
      rw [show (i : Int) + 1 = ((i + 1 : Nat) : Int) by omega, cutv_from (by omega)] at h7
      refine ⟨c6, c7, _, _, rfl, rfl, s15.seqT h6, h7, by rw [List.length_append, List.length_take, List.length_drop, sizeLine_eq]; show _ + 1 + _ ≤ _; omega, fun wa H16 s16 hw => ?_⟩
      have s1216 := s124.trans (s15.trans s16)
      have hA16 := dpAll_same s1216 hA12
      have dW : Dp K H16 (.ref wa) (houseD (h.take i ++ [b ++ [wl]] ++ h.drop (i + 1))) := .tup hw (by
        rw [List.map_append, List.map_append, List.map_take, List.map_drop]
        exact dpAll_app (dpAll_app (dpAll_take i hA16) (.cons (dp_same (sW.trans (s14.trans (s15.trans s16))) dc5) .nil)) (dpAll_dropN (i + 1) hA16))
      have dh16 := dp_same s1216 dh12
      have ds16 := dp_same s1216 ds12
      have dG16 := dp_same s1216 dG12
      have dF16 := dp_same s1216 dF12
      have P16 := P12.same s1216
      clear hX hA hX7 hA7 hX10 hA10 hva dva hB hBall h1 h2 hf h3 h312 h5 h6 h7 hw hX12 hA12 hB12 hBall12 dc5 hA16 dh12 ds12 dG12 dF12 dh10 ds10 dG10 dF dh7 ds7 dG7 dh6 ds6 dG
      obtain ⟨hF, eF⟩ : ∃ hF, hF = h.take i ++ h.drop (i + 1) := ⟨_, rfl⟩
      obtain ⟨hW, eW⟩ : ∃ hW, hW = h.take i ++ [b ++ [wl]] ++ h.drop (i + 1) := ⟨_, rfl⟩
      have goF : hF = [] ∨ Hs75 hF kd := by rw [eF]; exact fewer_good k1 k3 (by omega) gA
      have goW : Hs75 hW kd := by
        rw [eW]
        exact wider_good k1 k3 (by omega) gA hb (by omega) (by omega) fun z hz => by have := bwl z hz; omega
      have o4s := oks.four k1 (by omega)
      have lnF : ∀ n, LN (asks4 h) n (four s) → LN (asks4 hF) n (four s) := fun n => by rw [eF]; exact LN.sub (askS_sub fewer_sub)
      have lnW : ∀ n, LN (asks4 h) n (four s) → LN (asks4 hW) n (four s) := fun n => by rw [eW]; exact LN.sub (askS_sub (wider_sub hb))
      rw [← eF] at dF16
      rw [← eW] at dW
      clear eF eW
      -- what is found
      refine ⟨by show 0 ≤ sizeLine; decide, fun F0 nF0 => ?_⟩
      have sF0 := same_upd (o := .lst []) nF0
      have hF0 := upd_same (H := H16) (a := F0) (o := .lst [])
      obtain ⟨npF, ncF⟩ := P16.nep nF0
      generalize upd H16 F0 (.lst []) = H17 at sF0 hF0
      refine ⟨_, rfl, _, rfl, by show 2 ≤ sizeLine; decide, fun A1 n1 => ?_⟩
      have sA1 := same_upd (o := .tup [V.ref ha, V.ref sa]) n1
      have hA1 := upd_same (H := H17) (a := A1) (o := .tup [V.ref ha, V.ref sa])
      generalize upd H17 A1 (.tup [V.ref ha, V.ref sa]) = H18 at sA1 hA1
      refine ⟨_, rfl, _, rfl, by show 2 ≤ sizeLine; decide, fun A2 n2 => ?_⟩
      have sA2 := same_upd (o := .tup [V.ref ha, V.ref G]) n2
      have hA2 := upd_same (H := H18) (a := A2) (o := .tup [V.ref ha, V.ref G])
      generalize upd H18 A2 (.tup [V.ref ha, V.ref G]) = H19 at sA2 hA2
      refine ⟨_, rfl, _, rfl, by show 2 ≤ sizeLine; decide, fun A3 n3 => ?_⟩
      have sA3 := same_upd (o := .tup [V.ref fa, V.ref sa]) n3
      have hA3 := upd_same (H := H19) (a := A3) (o := .tup [V.ref fa, V.ref sa])
      generalize upd H19 A3 (.tup [V.ref fa, V.ref sa]) = H20 at sA3 hA3
      refine ⟨_, rfl, _, rfl, by show 2 ≤ sizeLine; decide, fun A4 n4 => ?_⟩
      have sA4 := same_upd (o := .tup [V.ref wa, V.ref sa]) n4
      have hA4 := upd_same (H := H20) (a := A4) (o := .tup [V.ref wa, V.ref sa])
      generalize upd H20 A4 (.tup [V.ref wa, V.ref sa]) = H21 at sA4 hA4
      refine ⟨by show 4 ≤ sizeLine; decide, fun L0 nL0 => ?_⟩
      have sL0 := same_upd (o := .lst [V.ref A1, V.ref A2, V.ref A3, V.ref A4]) nL0
      have hL0 := upd_same (H := H21) (a := L0) (o := .lst [V.ref A1, V.ref A2, V.ref A3, V.ref A4])
      have s1721 := sA1.trans (sA2.trans (sA3.trans sA4))
      have nFL : F0 ≠ L0 := ne_of_none (s1721 _ _ hF0) nL0
      generalize upd H21 L0 (.lst [V.ref A1, V.ref A2, V.ref A3, V.ref A4]) = H22 at sL0 hL0
      have s1622 := sF0.trans (s1721.trans sL0)
      have hF22 := (s1721.trans sL0) _ _ hF0
      have hA1' := (sA2.trans (sA3.trans (sA4.trans sL0))) _ _ hA1
      have hA2' := (sA3.trans (sA4.trans sL0)) _ _ hA2
      have hA3' := (sA4.trans sL0) _ _ hA3
      have hA4' := sL0 _ _ hA4
      have P22 := P16.same s1622
      have dh22 := dp_same s1622 dh16
      have ds22 := dp_same s1622 ds16
      have dG22 := dp_same s1622 dG16
      have dF22 := dp_same s1622 dF16
      have dW22 := dp_same s1622 dW
      clear hA1 hA2 hA3 hA4 hF0 dh16 ds16 dG16 dF16 dW sA1 sA2 sA3 sA4 n1 n2 n3 n4 s1721 sL0 sF0
      have pair : ∀ (j : Nat) (v : V), [V.ref A1, V.ref A2, V.ref A3, V.ref A4][j]? = some v → ∃ (A x y : Addr) (g : Asks) (u : List Int), v = .ref A ∧ H22 A = some (.tup [.ref x, .ref y]) ∧ Dp K H22 (.ref x) (houseD g) ∧ Dp K H22 (.ref y) (wayD u) ∧ StK kd u ∧ (g = [] ∨ Hs75 g kd) ∧ (∀ n, LN (asks4 h) n (four s) → LN (asks4 g) n (four u)) ∧ (j = 0 → g = h ∧ u = s) := by
        intro j v hv
        match j, hv with
        | 0, hv =>
          cases hv
          exact ⟨A1, ha, sa, h, s, rfl, hA1', dh22, ds22, oks, .inr oH, fun n z => z, fun _ => ⟨rfl, rfl⟩⟩
        | 1, hv =>
          cases hv
          exact ⟨A2, ha, G, h, gs, rfl, hA2', dh22, dG22, okg, .inr oH, fun n z => z.mono leg, fun e => nomatch e⟩
        | 2, hv =>
          cases hv
          exact ⟨A3, fa, sa, hF, s, rfl, hA3', dF22, ds22, oks, goF, lnF, fun e => nomatch e⟩
        | 3, hv =>
          cases hv
          exact ⟨A4, wa, sa, hW, s, rfl, hA4', dW22, ds22, oks, .inr goW, lnW, fun e => nomatch e⟩
        | (j + 4), hv => simp at hv
      refine ⟨_, rfl, ⟨_, SqL.of hL0⟩, ?_⟩
      refine for_list (K := K) (a := L0) (xs := [V.ref A1, V.ref A2, V.ref A3, V.ref A4]) (fun j σ H6 => ∃ (z11 z12 z13 z14 : Option V) (fs : List V), σ = [some (.ref a), some (.ref p), some (.int (0 + (t : Int))), some (.int (1 + r)), some (.ref ha), some (.ref sa), some (.ref G), some (.int (i : Int)), some (.ref fa), some (.ref wa), some (.ref F0), z11, z12, z13, z14, y15, y16, none] ∧
        Kp F0 H22 H6 ∧ H6 F0 = some (.lst fs) ∧ fs.length = j ∧ (∀ v ∈ fs, ∃ g u, TellV g u v ∧ ∀ n, LN (asks4 h) n (four s) → LN (asks4 g) n (four u)) ∧ ∀ v, fs[0]? = some v → TellV h s v)
        ⟨_, _, _, _, [], rfl, Kp.refl _ _, hF22, rfl, fun v hv => (nomatch hv), fun v e => (nomatch e)⟩
        (fun j σ H6 _ ⟨_, _, _, _, _, _, kp, _⟩ => SqL.of (kp _ _ hL0 nFL.symm)) ?_ ?_
      · rintro j v σ H6 hv ⟨z11, z12, z13, z14, fs, rfl, kp6, hF6, lfs, all6, fst6⟩
        obtain ⟨A1', x1, y1, g, u, rfl, hA, dg, du, oku, good, lnG, zero⟩ := pair j v hv
        have j4 : j < 4 := (List.getElem?_eq_some_iff.mp hv).1
        have hAF : A1' ≠ F0 := fun e => by
          rw [e, hF22] at hA
          cases hA
        have hA6 := kp6 _ _ hA hAF
        have dg6 := dp_kp kp6 hF22 dg (noL_house g)
        have du6 := dp_kp kp6 hF22 du (noL_way u)
        have o4u := oku.four k1 (by omega)
        have fin : ∀ (w : V) (H9 : Hp) (w13 w14 : Option V), Same H6 H9 → TellV g u w → ∃ (z11 z12 z13 z14 : Option V) (fs' : List V), [some (V.ref a), some (V.ref p), some (V.int (0 + (t : Int))), some (V.int (1 + r)), some (V.ref ha), some (V.ref sa), some (V.ref G), some (V.int (i : Int)), some (V.ref fa), some (V.ref wa), some (V.ref F0), some (V.ref x1), some (V.ref y1), w13, w14, y15, y16, none] = [some (V.ref a), some (V.ref p), some (V.int (0 + (t : Int))), some (V.int (1 + r)), some (V.ref ha), some (V.ref sa), some (V.ref G), some (V.int (i : Int)), some (V.ref fa), some (V.ref wa), some (V.ref F0), z11, z12, z13, z14, y15, y16, none] ∧
            Kp F0 H22 (upd H9 F0 (.lst (fs ++ [w]))) ∧ upd H9 F0 (.lst (fs ++ [w])) F0 = some (.lst fs') ∧ fs'.length = j + 1 ∧ (∀ v ∈ fs', ∃ g u, TellV g u v ∧ ∀ n, LN (asks4 h) n (four s) → LN (asks4 g) n (four u)) ∧ ∀ v, fs'[0]? = some v → TellV h s v := fun w H9 w13 w14 s9 tell => by
          refine ⟨_, _, _, _, fs ++ [w], rfl, fun b' o e nb => ?_, upd_same, by rw [List.length_append, lfs]; rfl, fun v' hv' => ?_, fun v' e => ?_⟩
          · rw [upd_ne nb]
            exact s9 _ _ (kp6 _ _ e nb)
          · rcases List.mem_append.mp hv' with hv' | hv'
            · exact all6 v' hv'
            · rw [List.mem_singleton.mp hv']
              exact ⟨g, u, tell, lnG⟩
          · match fs, lfs, e, fst6 with
            | [], lf, e, _ =>
              obtain rfl := Option.some.inj e
              obtain ⟨rfl, rfl⟩ := zero lf.symm
              exact tell
            | f0 :: r, _, e, fst6 => exact fst6 v' e
        refine ⟨A1', _, rfl, SqT.of hA6, rfl, _, _, rfl, _, _, rfl, rfl, ?_⟩
        -- the table
        refine ⟨_, rfl, by show 0 ≤ sizeLine; decide, fun E1 nE1 => ?_⟩
        have sE1 := same_upd (o := .tup []) nE1
        refine ⟨houseD g, .tuple [], dp_same sE1 dg6, .tup (SqT.of upd_same) .nil, house_shaped g, by decide, ?_⟩
        rw [eqv_house_nil]
        refine ⟨_, rfl, ?_⟩
        rcases good with rfl | og
        · refine ifF rfl ?_
          refine ⟨_, rfl, rfl, _, rfl, ifF rfl ?_⟩
          refine ⟨_, rfl, .inl ⟨rfl, _, SqL.of (sE1 _ _ hF6)⟩, _, rfl, _, rfl, ifF rfl ?_⟩
          exact ⟨F0, fs, _, rfl, rfl, sE1 _ _ hF6, small_line (by omega), fin _ _ _ _ sE1 (.inl rfl)⟩
        · have ge : g.isEmpty = false := by
            obtain ⟨a0, l0, h0, _⟩ := og.z.hs.first
            cases g with
            | nil => cases h0
            | cons a r => rfl
          rw [ge]
          refine ifT rfl ?_
          refine ⟨_, rfl, .ref x1, g, 6, 8, kd, 5, 3, rfl, dp_same sE1 dg6, og.z.hs, og.ways3, by decide, by decide, by decide, by decide, by decide, fun H8 s8 => ?_, fun T1 L1 B1 H8 Ts Bs s8 hT hL hB ok lT lB cT cB => ?_⟩
          · have s68 := sE1.trans s8
            refine ⟨_, rfl, rfl, _, rfl, ifF rfl ?_⟩
            refine ⟨_, rfl, .inl ⟨rfl, _, SqL.of (s68 _ _ hF6)⟩, _, rfl, _, rfl, ifF rfl ?_⟩
            exact ⟨F0, fs, _, rfl, rfl, s68 _ _ hF6, small_line (by omega), fin _ _ _ _ s68 (.inl rfl)⟩
          · have s68 := sE1.trans s8
            have tab : TabOk K H8 T1 L1 B1 Ts Bs 6 8 kd g := ⟨hT, hL, hB, ok, lT, lB, cT, cB⟩
            have lv := tab.lv8
            refine ⟨_, rfl, rfl, _, rfl, ifT rfl ?_⟩
            refine ⟨_, rfl, _, rfl, T1, L1, B1, .ref y1, Ts, Bs, 6, 8, kd, g, u, rfl, tab, dp_same s68 du6, oku, k1, by omega, by decide, by decide, fun H9 s9 => ?_, fun A9 H9 tt s9 na hA9 t6 lost => ?_, fun A9 H9 tt U s9 na hU hA9 t6 kept => ?_⟩
            · have s69 := s68.trans s9
              refine ⟨rfl, ?_⟩
              refine ⟨_, rfl, .inl ⟨rfl, _, SqL.of (s69 _ _ hF6)⟩, _, rfl, _, rfl, ifF rfl ?_⟩
              exact ⟨F0, fs, _, rfl, rfl, s69 _ _ hF6, small_line (by omega), fin _ _ _ _ s69 (.inl rfl)⟩
            · have s69 := s68.trans s9
              refine ⟨rfl, ?_⟩
              refine ⟨_, rfl, .inl ⟨rfl, _, SqL.of (s69 _ _ hF6)⟩, _, rfl, _, rfl, ifT rfl ?_⟩
              refine ⟨_, rfl, _, rfl, .ref x1, .ref y1, g, u, kd, tt, false, rfl, dp_same s69 dg6, dp_same s69 du6, og.z.hsOk, og.fewP lv (by omega), og.askTo (by show tt ≤ 7; omega), by omega, by rw [oku.1]; exact k1, by rw [oku.1]; omega, oku.2, lost.fate o4u, fun H10 s10 => ?_⟩
              have s610 := s69.trans s10
              exact ⟨F0, fs, _, rfl, rfl, s610 _ _ hF6, small_line (by omega), fin _ _ _ _ s610 (.inr ⟨some ((tt : Int) - 1), rfl, tt, rfl, lost⟩)⟩
            · have s69 := s68.trans s9
              refine ⟨rfl, ?_⟩
              refine ⟨_, rfl, .inl ⟨rfl, _, SqL.of (s69 _ _ hF6)⟩, _, rfl, _, rfl, ifT rfl ?_⟩
              refine ⟨_, rfl, _, rfl, .ref x1, .ref y1, g, u, kd, tt, true, rfl, dp_same s69 dg6, dp_same s69 du6, og.z.hsOk, og.fewP lv (by omega), og.askTo (by show tt + 1 ≤ 7; omega), by omega, by rw [oku.1]; exact k1, by rw [oku.1]; omega, oku.2, kept.fate o4u, fun H10 s10 => ?_⟩
              have s610 := s69.trans s10
              exact ⟨F0, fs, _, rfl, rfl, s610 _ _ hF6, small_line (by omega), fin _ _ _ _ s610 (.inr ⟨none, rfl, tt, kept⟩)⟩
      · rintro σ H6 ⟨z11, z12, z13, z14, fs, rfl, kp6, hF6, lfs, all6, fst6⟩
        obtain ⟨f0, fr, rfl⟩ : ∃ f0 fr, fs = f0 :: fr := by
          match fs, lfs with
          | f0 :: fr, _ => exact ⟨f0, fr, rfl⟩
        have tell0 := fst6 f0 rfl
        have hFr : fr.length = 3 := by
          have : fr.length + 1 = 4 := lfs
          omega
        have P6' : Pen H6 p c' ms (1000 * t + 700) := by
          have P22' := P22.mono (show _ ≤ 1000 * t + 700 by omega)
          obtain ⟨⟨at_, left, hp, q1, q2, q3⟩, hc⟩ := P22'
          refine ⟨⟨at_, left, kp6 _ _ hp npF, q1, q2, q3⟩, kp6 _ _ hc ncF⟩
        have dh6' := dp_kp kp6 hF22 dh22 (noL_house h)
        have ds6' := dp_kp kp6 hF22 ds22 (noL_way s)
        refine ⟨fun σ H7 => ∃ z15 : Option V, σ = [some (V.ref a), some (V.ref p), some (V.int (0 + (t : Int))), some (V.int (1 + r)), some (V.ref ha), some (V.ref sa), some (V.ref G), some (V.int (i : Int)), some (V.ref fa), some (V.ref wa), some (V.ref F0), z11, z12, z13, z14, z15, y16, none] ∧ Same H6 H7, ?_, ?_⟩
        · refine ⟨_, rfl, F0, _, 0, f0, rfl, rfl, SqL.of hF6, atI_nat (j := 0) rfl, ?_⟩
          rcases tell0 with rfl | ⟨r0', rfl, l0⟩
          · exact ⟨rfl, _, rfl, ifF rfl ⟨_, rfl, Same.refl _⟩⟩
          · obtain ⟨sc, ne⟩ := lifeV_ne r0' "beyond"
            refine ⟨sc, _, rfl, ?_⟩
            rw [ne]
            refine ifT rfl ?_
            refine ⟨_, rfl, 1, rfl, F0, _, rfl, SqL.of hF6, fun Z nZ => ?_⟩
            have sZ := same_upd (o := .lst (cutV (lifeV r0' :: fr) (some 1) none)) nZ
            have eZ : cutV (lifeV r0' :: fr) (some 1) none = fr := cutv_from (k := 1) (by show 1 ≤ fr.length + 1; omega)
            have hZ := upd_same (H := H6) (a := Z) (o := .lst (cutV (lifeV r0' :: fr) (some 1) none))
            rw [eZ] at hZ sZ
            rw [eZ]
            generalize upd H6 Z (.lst fr) = H7 at hZ sZ
            refine ⟨Z, rfl, ⟨_, SqL.of hZ⟩, ?_⟩
            refine for_list (K := K) (a := Z) (xs := fr) (fun j σ H8 => ∃ z15 : Option V, σ = [some (V.ref a), some (V.ref p), some (V.int (0 + (t : Int))), some (V.int (1 + r)), some (V.ref ha), some (V.ref sa), some (V.ref G), some (V.int (i : Int)), some (V.ref fa), some (V.ref wa), some (V.ref F0), z11, z12, z13, z14, z15, y16, none] ∧ Same H7 H8)
              ⟨_, rfl, Same.refl _⟩ (fun j σ H8 _ ⟨_, _, s8⟩ => SqL.of (s8 _ _ hZ)) ?_ ?_
            · rintro j v σ H8 hj ⟨z15, rfl, s8⟩
              obtain ⟨g, u, tell, ln⟩ := all6 v (List.mem_cons_of_mem _ (List.mem_of_getElem? hj))
              rcases tell with rfl | ⟨r', rfl, l'⟩
              · exact ⟨_, rfl, rfl, _, rfl, ifF rfl ⟨_, rfl, s8⟩⟩
              · obtain ⟨sc', ne'⟩ := lifeV_ne r' "beyond"
                refine ⟨_, rfl, sc', _, rfl, ?_⟩
                rw [ne']
                refine ifT rfl ?_
                refine ⟨_, rfl, _, rfl, F0, _, 0, lifeV r0', rfl, rfl, SqL.of ((sZ.trans s8) _ _ hF6), atI_nat (j := 0) rfl, r', r0', rfl, ?_⟩
                rw [life_longer o4s ln l0 l']
                exact ⟨_, rfl, ifF rfl ⟨_, rfl, s8⟩⟩
            · rintro σ H8 ⟨z15, rfl, s8⟩
              exact ⟨_, rfl, sZ.trans s8⟩
        · rintro σ H7 ⟨z15, rfl, s7⟩
          have P7' := P6'.same s7
          have dh7' := dp_same s7 dh6'
          have ds7' := dp_same s7 ds6'
          refine ⟨_, rfl, .ref ha, h, 6, 8, kd, 5, 3, rfl, dh7', oH.z.hs, oH.ways3, by decide, by decide, by decide, by decide, by decide, fun H8 s8 => ?_, fun T1 L1 B1 H8 Ts Bs s8 hT hL hB ok lT lB cT cB => ?_⟩
          · refine ⟨_, rfl, p, c', ms, _, 6, rfl, P7'.same s8, by unfold penMost; omega, by decide, by decide, fun r4 H9 r40 r41 kp9 P9 => ?_⟩
            refine ⟨_, _, rfl, ?_⟩
            refine ⟨_, rfl, rfl, _, rfl, ifF rfl ?_⟩
            exact ⟨_, _, _, _, _, _, _, _, _, _, _, _, _, _, _, rfl, P9.mono (by omega)⟩
          · have tab : TabOk K H8 T1 L1 B1 Ts Bs 6 8 kd h := ⟨hT, hL, hB, ok, lT, lB, cT, cB⟩
            have P8 := P7'.same s8
            refine ⟨_, rfl, p, c', ms, _, 6, rfl, P8, by unfold penMost; omega, by decide, by decide, fun r4 H9 r40 r41 kp9 P9 => ?_⟩
            have tab9 := tab.pen P8 kp9
            have dh9 := P8.dp kp9 (dp_same s8 dh7') (noL_house h)
            have ds9 := P8.dp kp9 (dp_same s8 ds7') (noL_way s)
            obtain ⟨n4, rfl⟩ : ∃ n4 : Nat, r4 = (n4 : Int) := ⟨r4.toNat, by omega⟩
            refine ⟨_, _, rfl, ?_⟩
            refine ⟨_, rfl, rfl, _, rfl, ifT rfl ?_⟩
            refine ⟨_, rfl, _, rfl, .ref ha, h, kd, n4, rfl, dh9, oH, tab9.lv8, by omega, fun H10 s10 => ?_⟩
            refine ⟨_, rfl, ?_⟩
            refine ⟨_, rfl, _, rfl, _, rfl, _, rfl, .ref ha, .ref sa, T1, L1, B1, Ts, Bs, h, s, kd, n4, rfl, dp_same s10 dh9, oH, tab9.same s10, by omega, dp_same s10 ds9, oks, fun z hz => by have := bs z hz; omega, fun H11 s11 => ?_⟩
            refine ⟨_, rfl, ifF rfl ?_⟩
            exact ⟨_, _, _, _, _, _, _, _, _, _, _, _, _, _, _, rfl, (P9.same (s10.trans s11)).mono (by omega)⟩
    · rintro σ H1 ⟨y2, y3, y4, y5, y6, y7, y8, y9, y10, y11, y12, y13, y14, y15, y16, rfl, P1⟩
      exact q H1
end
/-! ### what the top has written -/
theorem all_mk {l : PySem.W.OpenLaw} {w : World} {K : PySem.W.Frag} {h : Heap} {mg : Str → Option Value} {fa f1 f2 f3 f4 f5 f6 f7 f8 f9 f10 f11 f12 f13 f14 f15 f16 f17 f18 f19 f20 f21 f22 f23 f24 f25 f26 f27 f28 f29 f30 f31 f32 f33 f34 f35 f36 f37 f38 f39 f40 f41 f42 f43 f44 f45 f46 f47 f48 f49 f50 f51 f52 f53 f54 f55 f56 f57 f58 f59 C1 C2 : Addr} (X : K.In h) (G : h.Ns mainGlobals mg) (hfa : mg "law" = some (.ref fa))
    {od1 an1 od2 an2 od3 an3 od4 an4 od5 an5 od6 an6 od7 an7 od8 an8 od9 an9 od10 an10 od11 an11 od12 an12 od13 an13 od14 an14 od15 an15 od16 an16 od17 an17 od18 an18 od19 an19 od20 an20 od21 an21 od22 an22 od23 an23 od24 an24 od25 an25 od26 an26 od27 an27 od28 an28 od29 an29 od30 an30 od31 an31 od32 an32 od33 an33 od34 an34 od35 an35 od36 an36 od37 an37 od38 an38 od39 an39 od40 an40 od41 an41 od42 an42 od43 an43 od44 an44 od45 an45 od46 an46 od47 an47 od48 an48 od49 an49 od50 an50 od51 an51 od52 an52 od53 an53 od54 an54 od55 an55 od56 an56 od57 an57 od58 an58 od59 an59 : Option Addr} {sl1 sl2 sl3 sl4 sl5 sl6 sl7 sl8 sl9 sl10 sl11 sl12 sl13 sl14 sl15 sl16 sl17 sl18 sl19 sl20 sl21 sl22 sl23 sl24 sl25 sl26 sl27 sl28 sl29 sl30 sl31 sl32 sl33 sl34 sl35 sl36 sl37 sl38 sl39 sl40 sl41 sl42 sl43 sl44 sl45 sl46 sl47 sl48 sl49 sl50 sl51 sl52 sl53 sl54 sl55 sl56 sl57 sl58 sl59 : Array (Option Value)} {oc1 kV1 dc1 pm1 cd1 ct1 oc2 kV2 dc2 pm2 cd2 ct2 oc3 kV3 dc3 pm3 cd3 ct3 oc4 kV4 dc4 pm4 cd4 ct4 oc5 kV5 dc5 pm5 cd5 ct5 oc6 kV6 dc6 pm6 cd6 ct6 oc7 kV7 dc7 pm7 cd7 ct7 oc8 kV8 dc8 pm8 cd8 ct8 oc9 kV9 dc9 pm9 cd9 ct9 oc10 kV10 dc10 pm10 cd10 ct10 oc11 kV11 dc11 pm11 cd11 ct11 oc12 kV12 dc12 pm12 cd12 ct12 oc13 kV13 dc13 pm13 cd13 ct13 oc14 kV14 dc14 pm14 cd14 ct14 oc15 kV15 dc15 pm15 cd15 ct15 oc16 kV16 dc16 pm16 cd16 ct16 oc17 kV17 dc17 pm17 cd17 ct17 oc18 kV18 dc18 pm18 cd18 ct18 oc19 kV19 dc19 pm19 cd19 ct19 oc20 kV20 dc20 pm20 cd20 ct20 oc21 kV21 dc21 pm21 cd21 ct21 oc22 kV22 dc22 pm22 cd22 ct22 oc23 kV23 dc23 pm23 cd23 ct23 oc24 kV24 dc24 pm24 cd24 ct24 oc25 kV25 dc25 pm25 cd25 ct25 oc26 kV26 dc26 pm26 cd26 ct26 oc27 kV27 dc27 pm27 cd27 ct27 oc28 kV28 dc28 pm28 cd28 ct28 oc29 kV29 dc29 pm29 cd29 ct29 oc30 kV30 dc30 pm30 cd30 ct30 oc31 kV31 dc31 pm31 cd31 ct31 oc32 kV32 dc32 pm32 cd32 ct32 oc33 kV33 dc33 pm33 cd33 ct33 oc34 kV34 dc34 pm34 cd34 ct34 oc35 kV35 dc35 pm35 cd35 ct35 oc36 kV36 dc36 pm36 cd36 ct36 oc37 kV37 dc37 pm37 cd37 ct37 oc38 kV38 dc38 pm38 cd38 ct38 oc39 kV39 dc39 pm39 cd39 ct39 oc40 kV40 dc40 pm40 cd40 ct40 oc41 kV41 dc41 pm41 cd41 ct41 oc42 kV42 dc42 pm42 cd42 ct42 oc43 kV43 dc43 pm43 cd43 ct43 oc44 kV44 dc44 pm44 cd44 ct44 oc45 kV45 dc45 pm45 cd45 ct45 oc46 kV46 dc46 pm46 cd46 ct46 oc47 kV47 dc47 pm47 cd47 ct47 oc48 kV48 dc48 pm48 cd48 ct48 oc49 kV49 dc49 pm49 cd49 ct49 oc50 kV50 dc50 pm50 cd50 ct50 oc51 kV51 dc51 pm51 cd51 ct51 oc52 kV52 dc52 pm52 cd52 ct52 oc53 kV53 dc53 pm53 cd53 ct53 oc54 kV54 dc54 pm54 cd54 ct54 oc55 kV55 dc55 pm55 cd55 ct55 oc56 kV56 dc56 pm56 cd56 ct56 oc57 kV57 dc57 pm57 cd57 ct57 oc58 kV58 dc58 pm58 cd58 ct58 oc59 kV59 dc59 pm59 cd59 ct59 : Value}
    (aC1 : PySem.W.nsIn K mainGlobals "Chart" = some (some (.ref C1))) (pg1 : PySem.W.plainGet K C1 Str.empty = true) (hd1 : PySem.W.hasDictIn K C1 = true) (po1 : PySem.W.plainOver K C1 = true) (sa1 : PySem.W.findIn K (.ref C1) "__setattr__" = some (some (.builtin "object.__setattr__"))) (mk1 : PySem.W.makesIn K C1 = true) (kc1 : PySem.W.keepIn K (.ref C1) = true)
    (na1_kinds : PySem.W.findIn K (.ref C1) "_kinds" = some none)
    (na1_rooms : PySem.W.findIn K (.ref C1) "_rooms" = some none)
    (na1_lists : PySem.W.findIn K (.ref C1) "_lists" = some none)
    (na1_boxes : PySem.W.findIn K (.ref C1) "_boxes" = some none)
    (aC2 : PySem.W.nsIn K mainGlobals "Box" = some (some (.ref C2))) (pg2 : PySem.W.plainGet K C2 Str.empty = true) (hd2 : PySem.W.hasDictIn K C2 = true) (po2 : PySem.W.plainOver K C2 = true) (sa2 : PySem.W.findIn K (.ref C2) "__setattr__" = some (some (.builtin "object.__setattr__"))) (mk2 : PySem.W.makesIn K C2 = true) (kc2 : PySem.W.keepIn K (.ref C2) = true)
    (na2_found : PySem.W.findIn K (.ref C2) "found" = some none)
    (na2_settled : PySem.W.findIn K (.ref C2) "settled" = some none)
    (na2_rooms : PySem.W.findIn K (.ref C2) "_rooms" = some none)
    (na2_kinds : PySem.W.findIn K (.ref C2) "_kinds" = some none)
    (na2_b : PySem.W.findIn K (.ref C2) "_b" = some none)
    (na2_left : PySem.W.findIn K (.ref C2) "_left" = some none)
    (a1 : PySem.W.nsIn K mainGlobals "in_four" = some (some (.ref f1)))
    (l1 : K.lookup f1 = some ⟨oc1, od1, .func (PySem.W.fnOf "in_four" "in_four" (defArgs sInFour) (defBody sInFour) (defScope sInFour) .none kV1 dc1 pm1 an1 cd1 ct1), sl1⟩) (c1 : PySem.W.codeIn K cd1 "in_four" = true) (k1 : PySem.W.keepIn K (.ref f1) = true)
    (a2 : PySem.W.nsIn K mainGlobals "covers_one" = some (some (.ref f2)))
    (l2 : K.lookup f2 = some ⟨oc2, od2, .func (PySem.W.fnOf "covers_one" "covers_one" (defArgs sCovOne) (defBody sCovOne) (defScope sCovOne) .none kV2 dc2 pm2 an2 cd2 ct2), sl2⟩) (c2 : PySem.W.codeIn K cd2 "covers_one" = true) (k2 : PySem.W.keepIn K (.ref f2) = true)
    (a3 : PySem.W.nsIn K mainGlobals "least_of" = some (some (.ref f3)))
    (l3 : K.lookup f3 = some ⟨oc3, od3, .func (PySem.W.fnOf "least_of" "least_of" (defArgs sLeastOf) (defBody sLeastOf) (defScope sLeastOf) .none kV3 dc3 pm3 an3 cd3 ct3), sl3⟩) (c3 : PySem.W.codeIn K cd3 "least_of" = true) (k3 : PySem.W.keepIn K (.ref f3) = true)
    (a4 : PySem.W.nsIn K mainGlobals "needed" = some (some (.ref f4)))
    (l4 : K.lookup f4 = some ⟨oc4, od4, .func (PySem.W.fnOf "needed" "needed" (defArgs sNeeded) (defBody sNeeded) (defScope sNeeded) .none kV4 dc4 pm4 an4 cd4 ct4), sl4⟩) (c4 : PySem.W.codeIn K cd4 "needed" = true) (k4 : PySem.W.keepIn K (.ref f4) = true)
    (a5 : PySem.W.nsIn K mainGlobals "joined" = some (some (.ref f5)))
    (l5 : K.lookup f5 = some ⟨oc5, od5, .func (PySem.W.fnOf "joined" "joined" (defArgs sJoined) (defBody sJoined) (defScope sJoined) .none kV5 dc5 pm5 an5 cd5 ct5), sl5⟩) (c5 : PySem.W.codeIn K cd5 "joined" = true) (k5 : PySem.W.keepIn K (.ref f5) = true)
    (a6 : PySem.W.nsIn K mainGlobals "least_in_both" = some (some (.ref f6)))
    (l6 : K.lookup f6 = some ⟨oc6, od6, .func (PySem.W.fnOf "least_in_both" "least_in_both" (defArgs sBoth) (defBody sBoth) (defScope sBoth) .none kV6 dc6 pm6 an6 cd6 ct6), sl6⟩) (c6 : PySem.W.codeIn K cd6 "least_in_both" = true) (k6 : PySem.W.keepIn K (.ref f6) = true)
    (a7 : PySem.W.nsIn K mainGlobals "least_in_all" = some (some (.ref f7)))
    (l7 : K.lookup f7 = some ⟨oc7, od7, .func (PySem.W.fnOf "least_in_all" "least_in_all" (defArgs sInAll) (defBody sInAll) (defScope sInAll) .none kV7 dc7 pm7 an7 cd7 ct7), sl7⟩) (c7 : PySem.W.codeIn K cd7 "least_in_all" = true) (k7 : PySem.W.keepIn K (.ref f7) = true)
    (a8 : PySem.W.nsIn K mainGlobals "least_one_more" = some (some (.ref f8)))
    (l8 : K.lookup f8 = some ⟨oc8, od8, .func (PySem.W.fnOf "least_one_more" "least_one_more" (defArgs sOneMore) (defBody sOneMore) (defScope sOneMore) .none kV8 dc8 pm8 an8 cd8 ct8), sl8⟩) (c8 : PySem.W.codeIn K cd8 "least_one_more" = true) (k8 : PySem.W.keepIn K (.ref f8) = true)
    (a9 : PySem.W.nsIn K mainGlobals "least_for_ask" = some (some (.ref f9)))
    (l9 : K.lookup f9 = some ⟨oc9, od9, .func (PySem.W.fnOf "least_for_ask" "least_for_ask" (defArgs sForAsk) (defBody sForAsk) (defScope sForAsk) .none kV9 dc9 pm9 an9 cd9 ct9), sl9⟩) (c9 : PySem.W.codeIn K cd9 "least_for_ask" = true) (k9 : PySem.W.keepIn K (.ref f9) = true)
    (a10 : PySem.W.nsIn K mainGlobals "no_more_than" = some (some (.ref f10)))
    (l10 : K.lookup f10 = some ⟨oc10, od10, .func (PySem.W.fnOf "no_more_than" "no_more_than" (defArgs sNoMore) (defBody sNoMore) (defScope sNoMore) .none kV10 dc10 pm10 an10 cd10 ct10), sl10⟩) (c10 : PySem.W.codeIn K cd10 "no_more_than" = true) (k10 : PySem.W.keepIn K (.ref f10) = true)
    (a11 : PySem.W.nsIn K mainGlobals "kinds_of" = some (some (.ref f11)))
    (l11 : K.lookup f11 = some ⟨oc11, od11, .func (PySem.W.fnOf "kinds_of" "kinds_of" (defArgs sKindsOf) (defBody sKindsOf) (defScope sKindsOf) .none kV11 dc11 pm11 an11 cd11 ct11), sl11⟩) (c11 : PySem.W.codeIn K cd11 "kinds_of" = true) (k11 : PySem.W.keepIn K (.ref f11) = true)
    (a12 : PySem.W.nsIn K mainGlobals "plan_of" = some (some (.ref f12)))
    (l12 : K.lookup f12 = some ⟨oc12, od12, .func (PySem.W.fnOf "plan_of" "plan_of" (defArgs sPlanOf) (defBody sPlanOf) (defScope sPlanOf) .none kV12 dc12 pm12 an12 cd12 ct12), sl12⟩) (c12 : PySem.W.codeIn K cd12 "plan_of" = true) (k12 : PySem.W.keepIn K (.ref f12) = true)
    (a13 : PySem.W.nsIn K mainGlobals "sides_of" = some (some (.ref f13)))
    (l13 : K.lookup f13 = some ⟨oc13, od13, .func (PySem.W.fnOf "sides_of" "sides_of" (defArgs sSides) (defBody sSides) (defScope sSides) .none kV13 dc13 pm13 an13 cd13 ct13), sl13⟩) (c13 : PySem.W.codeIn K cd13 "sides_of" = true) (k13 : PySem.W.keepIn K (.ref f13) = true)
    (a14 : PySem.W.nsIn K mainGlobals "columns_of" = some (some (.ref f14)))
    (l14 : K.lookup f14 = some ⟨oc14, od14, .func (PySem.W.fnOf "columns_of" "columns_of" (defArgs sColumns) (defBody sColumns) (defScope sColumns) .none kV14 dc14 pm14 an14 cd14 ct14), sl14⟩) (c14 : PySem.W.codeIn K cd14 "columns_of" = true) (k14 : PySem.W.keepIn K (.ref f14) = true)
    (a15 : PySem.W.nsIn K mainGlobals "heights_over" = some (some (.ref f15)))
    (l15 : K.lookup f15 = some ⟨oc15, od15, .func (PySem.W.fnOf "heights_over" "heights_over" (defArgs sHeights) (defBody sHeights) (defScope sHeights) .none kV15 dc15 pm15 an15 cd15 ct15), sl15⟩) (c15 : PySem.W.codeIn K cd15 "heights_over" = true) (k15 : PySem.W.keepIn K (.ref f15) = true)
    (a16 : PySem.W.nsIn K mainGlobals "least_settled" = some (some (.ref f16)))
    (l16 : K.lookup f16 = some ⟨oc16, od16, .func (PySem.W.fnOf "least_settled" "least_settled" (defArgs sSettled) (defBody sSettled) (defScope sSettled) .none kV16 dc16 pm16 an16 cd16 ct16), sl16⟩) (c16 : PySem.W.codeIn K cd16 "least_settled" = true) (k16 : PySem.W.keepIn K (.ref f16) = true)
    (a17 : PySem.W.nsIn K mainGlobals "settle" = some (some (.ref f17)))
    (l17 : K.lookup f17 = some ⟨oc17, od17, .func (PySem.W.fnOf "settle" "settle" (defArgs sSettle) (defBody sSettle) (defScope sSettle) .none kV17 dc17 pm17 an17 cd17 ct17), sl17⟩) (c17 : PySem.W.codeIn K cd17 "settle" = true) (k17 : PySem.W.keepIn K (.ref f17) = true)
    (a18 : PySem.W.nsIn K mainGlobals "asked_of_columns" = some (some (.ref f18)))
    (l18 : K.lookup f18 = some ⟨oc18, od18, .func (PySem.W.fnOf "asked_of_columns" "asked_of_columns" (defArgs sAsked) (defBody sAsked) (defScope sAsked) .none kV18 dc18 pm18 an18 cd18 ct18), sl18⟩) (c18 : PySem.W.codeIn K cd18 "asked_of_columns" = true) (k18 : PySem.W.keepIn K (.ref f18) = true)
    (a19 : PySem.W.nsIn K mainGlobals "columns_led_to" = some (some (.ref f19)))
    (l19 : K.lookup f19 = some ⟨oc19, od19, .func (PySem.W.fnOf "columns_led_to" "columns_led_to" (defArgs sLedTo) (defBody sLedTo) (defScope sLedTo) .none kV19 dc19 pm19 an19 cd19 ct19), sl19⟩) (c19 : PySem.W.codeIn K cd19 "columns_led_to" = true) (k19 : PySem.W.keepIn K (.ref f19) = true)
    (a20 : PySem.W.nsIn K mainGlobals "first_support" = some (some (.ref f20)))
    (l20 : K.lookup f20 = some ⟨oc20, od20, .func (PySem.W.fnOf "first_support" "first_support" (defArgs sSupport) (defBody sSupport) (defScope sSupport) .none kV20 dc20 pm20 an20 cd20 ct20), sl20⟩) (c20 : PySem.W.codeIn K cd20 "first_support" = true) (k20 : PySem.W.keepIn K (.ref f20) = true)
    (a21 : PySem.W.nsIn K mainGlobals "least_need" = some (some (.ref f21)))
    (l21 : K.lookup f21 = some ⟨oc21, od21, .func (PySem.W.fnOf "least_need" "least_need" (defArgs sLNeed) (defBody sLNeed) (defScope sLNeed) .none kV21 dc21 pm21 an21 cd21 ct21), sl21⟩) (c21 : PySem.W.codeIn K cd21 "least_need" = true) (k21 : PySem.W.keepIn K (.ref f21) = true)
    (a22 : PySem.W.nsIn K mainGlobals "next_great" = some (some (.ref f22)))
    (l22 : K.lookup f22 = some ⟨oc22, od22, .func (PySem.W.fnOf "next_great" "next_great" (defArgs sGreat) (defBody sGreat) (defScope sGreat) .none kV22 dc22 pm22 an22 cd22 ct22), sl22⟩) (c22 : PySem.W.codeIn K cd22 "next_great" = true) (k22 : PySem.W.keepIn K (.ref f22) = true)
    (a23 : PySem.W.nsIn K mainGlobals "least_there" = some (some (.ref f23)))
    (l23 : K.lookup f23 = some ⟨oc23, od23, .func (PySem.W.fnOf "least_there" "least_there" (defArgs sLeastThere) (defBody sLeastThere) (defScope sLeastThere) .none kV23 dc23 pm23 an23 cd23 ct23), sl23⟩) (c23 : PySem.W.codeIn K cd23 "least_there" = true) (k23 : PySem.W.keepIn K (.ref f23) = true)
    (a24 : PySem.W.nsIn K mainGlobals "lasts_there" = some (some (.ref f24)))
    (l24 : K.lookup f24 = some ⟨oc24, od24, .func (PySem.W.fnOf "lasts_there" "lasts_there" (defArgs sLastsThere) (defBody sLastsThere) (defScope sLastsThere) .none kV24 dc24 pm24 an24 cd24 ct24), sl24⟩) (c24 : PySem.W.codeIn K cd24 "lasts_there" = true) (k24 : PySem.W.keepIn K (.ref f24) = true)
    (a25 : PySem.W.nsIn K mainGlobals "lasts" = some (some (.ref f25)))
    (l25 : K.lookup f25 = some ⟨oc25, od25, .func (PySem.W.fnOf "lasts" "lasts" (defArgs sLasts) (defBody sLasts) (defScope sLasts) .none kV25 dc25 pm25 an25 cd25 ct25), sl25⟩) (c25 : PySem.W.codeIn K cd25 "lasts" = true) (k25 : PySem.W.keepIn K (.ref f25) = true)
    (a26 : PySem.W.nsIn K mainGlobals "least" = some (some (.ref f26)))
    (l26 : K.lookup f26 = some ⟨oc26, od26, .func (PySem.W.fnOf "least" "least" (defArgs sLeast) (defBody sLeast) (defScope sLeast) .none kV26 dc26 pm26 an26 cd26 ct26), sl26⟩) (c26 : PySem.W.codeIn K cd26 "least" = true) (k26 : PySem.W.keepIn K (.ref f26) = true)
    (a27 : PySem.W.nsIn K mainGlobals "within_there" = some (some (.ref f27)))
    (l27 : K.lookup f27 = some ⟨oc27, od27, .func (PySem.W.fnOf "within_there" "within_there" (defArgs sWithinThere) (defBody sWithinThere) (defScope sWithinThere) .none kV27 dc27 pm27 an27 cd27 ct27), sl27⟩) (c27 : PySem.W.codeIn K cd27 "within_there" = true) (k27 : PySem.W.keepIn K (.ref f27) = true)
    (a28 : PySem.W.nsIn K mainGlobals "least_within" = some (some (.ref f28)))
    (l28 : K.lookup f28 = some ⟨oc28, od28, .func (PySem.W.fnOf "least_within" "least_within" (defArgs sLeastW) (defBody sLeastW) (defScope sLeastW) .none kV28 dc28 pm28 an28 cd28 ct28), sl28⟩) (c28 : PySem.W.codeIn K cd28 "least_within" = true) (k28 : PySem.W.keepIn K (.ref f28) = true)
    (a29 : PySem.W.nsIn K mainGlobals "above" = some (some (.ref f29)))
    (l29 : K.lookup f29 = some ⟨oc29, od29, .func (PySem.W.fnOf "above" "above" (defArgs sAbove) (defBody sAbove) (defScope sAbove) .none kV29 dc29 pm29 an29 cd29 ct29), sl29⟩) (c29 : PySem.W.codeIn K cd29 "above" = true) (k29 : PySem.W.keepIn K (.ref f29) = true)
    (a30 : PySem.W.nsIn K mainGlobals "covers" = some (some (.ref f30)))
    (l30 : K.lookup f30 = some ⟨oc30, od30, .func (PySem.W.fnOf "covers" "covers" (defArgs sCovers) (defBody sCovers) (defScope sCovers) .none kV30 dc30 pm30 an30 cd30 ct30), sl30⟩) (c30 : PySem.W.codeIn K cd30 "covers" = true) (k30 : PySem.W.keepIn K (.ref f30) = true)
    (a31 : PySem.W.nsIn K mainGlobals "life_there" = some (some (.ref f31)))
    (l31 : K.lookup f31 = some ⟨oc31, od31, .func (PySem.W.fnOf "life_there" "life_there" (defArgs sLifeThere) (defBody sLifeThere) (defScope sLifeThere) .none kV31 dc31 pm31 an31 cd31 ct31), sl31⟩) (c31 : PySem.W.codeIn K cd31 "life_there" = true) (k31 : PySem.W.keepIn K (.ref f31) = true)
    (a32 : PySem.W.nsIn K mainGlobals "life" = some (some (.ref f32)))
    (l32 : K.lookup f32 = some ⟨oc32, od32, .func (PySem.W.fnOf "life" "life" (defArgs sLife) (defBody sLife) (defScope sLife) .none kV32 dc32 pm32 an32 cd32 ct32), sl32⟩) (c32 : PySem.W.codeIn K cd32 "life" = true) (k32 : PySem.W.keepIn K (.ref f32) = true)
    (a33 : PySem.W.nsIn K mainGlobals "_law_open" = some (some (.ref f33)))
    (l33 : K.lookup f33 = some ⟨oc33, od33, .func (PySem.W.fnOf "_law_open" "_law_open" (defArgs sOpen) (defBody sOpen) (defScope sOpen) .none kV33 dc33 pm33 an33 cd33 ct33), sl33⟩) (c33 : PySem.W.codeIn K cd33 "_law_open" = true) (k33 : PySem.W.keepIn K (.ref f33) = true)
    (a34 : PySem.W.nsIn K mainGlobals "_law_spread" = some (some (.ref f34)))
    (l34 : K.lookup f34 = some ⟨oc34, od34, .func (PySem.W.fnOf "_law_spread" "_law_spread" (defArgs sSpread) (defBody sSpread) (defScope sSpread) .none kV34 dc34 pm34 an34 cd34 ct34), sl34⟩) (c34 : PySem.W.codeIn K cd34 "_law_spread" = true) (k34 : PySem.W.keepIn K (.ref f34) = true)
    (a35 : PySem.W.nsIn K mainGlobals "_law_take" = some (some (.ref f35)))
    (l35 : K.lookup f35 = some ⟨oc35, od35, .func (PySem.W.fnOf "_law_take" "_law_take" (defArgs sTake) (defBody sTake) (defScope sTake) .none kV35 dc35 pm35 an35 cd35 ct35), sl35⟩) (c35 : PySem.W.codeIn K cd35 "_law_take" = true) (k35 : PySem.W.keepIn K (.ref f35) = true)
    (a36 : PySem.W.nsIn K mainGlobals "_law_any_house" = some (some (.ref f36)))
    (l36 : K.lookup f36 = some ⟨oc36, od36, .func (PySem.W.fnOf "_law_any_house" "_law_any_house" (defArgs sHouseB) (defBody sHouseB) (defScope sHouseB) .none kV36 dc36 pm36 an36 cd36 ct36), sl36⟩) (c36 : PySem.W.codeIn K cd36 "_law_any_house" = true) (k36 : PySem.W.keepIn K (.ref f36) = true)
    (a37 : PySem.W.nsIn K mainGlobals "_law_traded" = some (some (.ref f37)))
    (l37 : K.lookup f37 = some ⟨oc37, od37, .func (PySem.W.fnOf "_law_traded" "_law_traded" (defArgs sTraded) (defBody sTraded) (defScope sTraded) .none kV37 dc37 pm37 an37 cd37 ct37), sl37⟩) (c37 : PySem.W.codeIn K cd37 "_law_traded" = true) (k37 : PySem.W.keepIn K (.ref f37) = true)
    (a38 : PySem.W.nsIn K mainGlobals "_law_any_store" = some (some (.ref f38)))
    (l38 : K.lookup f38 = some ⟨oc38, od38, .func (PySem.W.fnOf "_law_any_store" "_law_any_store" (defArgs sAnyStore) (defBody sAnyStore) (defScope sAnyStore) .none kV38 dc38 pm38 an38 cd38 ct38), sl38⟩) (c38 : PySem.W.codeIn K cd38 "_law_any_store" = true) (k38 : PySem.W.keepIn K (.ref f38) = true)
    (a39 : PySem.W.nsIn K mainGlobals "_law_covers" = some (some (.ref f39)))
    (l39 : K.lookup f39 = some ⟨oc39, od39, .func (PySem.W.fnOf "_law_covers" "_law_covers" (defArgs sCovLaw) (defBody sCovLaw) (defScope sCovLaw) .none kV39 dc39 pm39 an39 cd39 ct39), sl39⟩) (c39 : PySem.W.codeIn K cd39 "_law_covers" = true) (k39 : PySem.W.keepIn K (.ref f39) = true)
    (a40 : PySem.W.nsIn K mainGlobals "_law_covers_any" = some (some (.ref f40)))
    (l40 : K.lookup f40 = some ⟨oc40, od40, .func (PySem.W.fnOf "_law_covers_any" "_law_covers_any" (defArgs sCovAny) (defBody sCovAny) (defScope sCovAny) .none kV40 dc40 pm40 an40 cd40 ct40), sl40⟩) (c40 : PySem.W.codeIn K cd40 "_law_covers_any" = true) (k40 : PySem.W.keepIn K (.ref f40) = true)
    (a41 : PySem.W.nsIn K mainGlobals "_law_lowest" = some (some (.ref f41)))
    (l41 : K.lookup f41 = some ⟨oc41, od41, .func (PySem.W.fnOf "_law_lowest" "_law_lowest" (defArgs sLowest) (defBody sLowest) (defScope sLowest) .none kV41 dc41 pm41 an41 cd41 ct41), sl41⟩) (c41 : PySem.W.codeIn K cd41 "_law_lowest" = true) (k41 : PySem.W.keepIn K (.ref f41) = true)
    (a42 : PySem.W.nsIn K mainGlobals "_law_more" = some (some (.ref f42)))
    (l42 : K.lookup f42 = some ⟨oc42, od42, .func (PySem.W.fnOf "_law_more" "_law_more" (defArgs sMore) (defBody sMore) (defScope sMore) .none kV42 dc42 pm42 an42 cd42 ct42), sl42⟩) (c42 : PySem.W.codeIn K cd42 "_law_more" = true) (k42 : PySem.W.keepIn K (.ref f42) = true)
    (a43 : PySem.W.nsIn K mainGlobals "_law_table" = some (some (.ref f43)))
    (l43 : K.lookup f43 = some ⟨oc43, od43, .func (PySem.W.fnOf "_law_table" "_law_table" (defArgs sTable) (defBody sTable) (defScope sTable) .none kV43 dc43 pm43 an43 cd43 ct43), sl43⟩) (c43 : PySem.W.codeIn K cd43 "_law_table" = true) (k43 : PySem.W.keepIn K (.ref f43) = true)
    (a44 : PySem.W.nsIn K mainGlobals "_law_fate" = some (some (.ref f44)))
    (l44 : K.lookup f44 = some ⟨oc44, od44, .func (PySem.W.fnOf "_law_fate" "_law_fate" (defArgs sFateT) (defBody sFateT) (defScope sFateT) .none kV44 dc44 pm44 an44 cd44 ct44), sl44⟩) (c44 : PySem.W.codeIn K cd44 "_law_fate" = true) (k44 : PySem.W.keepIn K (.ref f44) = true)
    (a45 : PySem.W.nsIn K mainGlobals "_law_is_longer" = some (some (.ref f45)))
    (l45 : K.lookup f45 = some ⟨oc45, od45, .func (PySem.W.fnOf "_law_is_longer" "_law_is_longer" (defArgs sLonger) (defBody sLonger) (defScope sLonger) .none kV45 dc45 pm45 an45 cd45 ct45), sl45⟩) (c45 : PySem.W.codeIn K cd45 "_law_is_longer" = true) (k45 : PySem.W.keepIn K (.ref f45) = true)
    (a46 : PySem.W.nsIn K mainGlobals "_law_lows_right" = some (some (.ref f46)))
    (l46 : K.lookup f46 = some ⟨oc46, od46, .func (PySem.W.fnOf "_law_lows_right" "_law_lows_right" (defArgs sLowsR) (defBody sLowsR) (defScope sLowsR) .none kV46 dc46 pm46 an46 cd46 ct46), sl46⟩) (c46 : PySem.W.codeIn K cd46 "_law_lows_right" = true) (k46 : PySem.W.keepIn K (.ref f46) = true)
    (a47 : PySem.W.nsIn K mainGlobals "_law_boxes_right" = some (some (.ref f47)))
    (l47 : K.lookup f47 = some ⟨oc47, od47, .func (PySem.W.fnOf "_law_boxes_right" "_law_boxes_right" (defArgs sBoxesR) (defBody sBoxesR) (defScope sBoxesR) .none kV47 dc47 pm47 an47 cd47 ct47), sl47⟩) (c47 : PySem.W.codeIn K cd47 "_law_boxes_right" = true) (k47 : PySem.W.keepIn K (.ref f47) = true)
    (a48 : PySem.W.nsIn K mainGlobals "law" = some (some (.ref f48)))
    (l48 : K.lookup f48 = some ⟨oc48, od48, .func (PySem.W.fnOf "law" "law" (defArgs sLaw75) (defBody sLaw75) (defScope sLaw75) .none kV48 dc48 pm48 an48 cd48 ct48), sl48⟩) (c48 : PySem.W.codeIn K cd48 "law" = true) (k48 : PySem.W.keepIn K (.ref f48) = true)
    (a49 : PySem.W.findIn K (.ref C1) "__init__" = some (some (.ref f49))) (i49 : PySem.W.isFn K (.ref f49) = true)
    (l49 : K.lookup f49 = some ⟨oc49, od49, .func (PySem.W.fnOf "__init__" "Chart.__init__" (defArgs sChInit) (defBody sChInit) (defScope sChInit) .none kV49 dc49 pm49 an49 cd49 ct49), sl49⟩) (c49 : PySem.W.codeIn K cd49 "Chart.__init__" = true) (k49 : PySem.W.keepIn K (.ref f49) = true)
    (a50 : PySem.W.findIn K (.ref C1) "least" = some (some (.ref f50))) (i50 : PySem.W.isFn K (.ref f50) = true)
    (l50 : K.lookup f50 = some ⟨oc50, od50, .func (PySem.W.fnOf "least" "Chart.least" (defArgs sChLeast) (defBody sChLeast) (defScope sChLeast) .none kV50 dc50 pm50 an50 cd50 ct50), sl50⟩) (c50 : PySem.W.codeIn K cd50 "Chart.least" = true) (k50 : PySem.W.keepIn K (.ref f50) = true)
    (a51 : PySem.W.findIn K (.ref C1) "within" = some (some (.ref f51))) (i51 : PySem.W.isFn K (.ref f51) = true)
    (l51 : K.lookup f51 = some ⟨oc51, od51, .func (PySem.W.fnOf "within" "Chart.within" (defArgs sChWithin) (defBody sChWithin) (defScope sChWithin) .none kV51 dc51 pm51 an51 cd51 ct51), sl51⟩) (c51 : PySem.W.codeIn K cd51 "Chart.within" = true) (k51 : PySem.W.keepIn K (.ref f51) = true)
    (a52 : PySem.W.findIn K (.ref C1) "lasts_within" = some (some (.ref f52))) (i52 : PySem.W.isFn K (.ref f52) = true)
    (l52 : K.lookup f52 = some ⟨oc52, od52, .func (PySem.W.fnOf "lasts_within" "Chart.lasts_within" (defArgs sChLW) (defBody sChLW) (defScope sChLW) .none kV52 dc52 pm52 an52 cd52 ct52), sl52⟩) (c52 : PySem.W.codeIn K cd52 "Chart.lasts_within" = true) (k52 : PySem.W.keepIn K (.ref f52) = true)
    (a53 : PySem.W.findIn K (.ref C1) "_box" = some (some (.ref f53))) (i53 : PySem.W.isFn K (.ref f53) = true)
    (l53 : K.lookup f53 = some ⟨oc53, od53, .func (PySem.W.fnOf "_box" "Chart._box" (defArgs sChBoxM) (defBody sChBoxM) (defScope sChBoxM) .none kV53 dc53 pm53 an53 cd53 ct53), sl53⟩) (c53 : PySem.W.codeIn K cd53 "Chart._box" = true) (k53 : PySem.W.keepIn K (.ref f53) = true)
    (a54 : PySem.W.findIn K (.ref C1) "lasts" = some (some (.ref f54))) (i54 : PySem.W.isFn K (.ref f54) = true)
    (l54 : K.lookup f54 = some ⟨oc54, od54, .func (PySem.W.fnOf "lasts" "Chart.lasts" (defArgs sChLasts) (defBody sChLasts) (defScope sChLasts) .none kV54 dc54 pm54 an54 cd54 ct54), sl54⟩) (c54 : PySem.W.codeIn K cd54 "Chart.lasts" = true) (k54 : PySem.W.keepIn K (.ref f54) = true)
    (a55 : PySem.W.findIn K (.ref C1) "fate" = some (some (.ref f55))) (i55 : PySem.W.isFn K (.ref f55) = true)
    (l55 : K.lookup f55 = some ⟨oc55, od55, .func (PySem.W.fnOf "fate" "Chart.fate" (defArgs sChFate) (defBody sChFate) (defScope sChFate) .none kV55 dc55 pm55 an55 cd55 ct55), sl55⟩) (c55 : PySem.W.codeIn K cd55 "Chart.fate" = true) (k55 : PySem.W.keepIn K (.ref f55) = true)
    (a56 : PySem.W.findIn K (.ref C1) "life" = some (some (.ref f56))) (i56 : PySem.W.isFn K (.ref f56) = true)
    (l56 : K.lookup f56 = some ⟨oc56, od56, .func (PySem.W.fnOf "life" "Chart.life" (defArgs sChLife) (defBody sChLife) (defScope sChLife) .none kV56 dc56 pm56 an56 cd56 ct56), sl56⟩) (c56 : PySem.W.codeIn K cd56 "Chart.life" = true) (k56 : PySem.W.keepIn K (.ref f56) = true)
    (a57 : PySem.W.findIn K (.ref C1) "told" = some (some (.ref f57))) (i57 : PySem.W.isFn K (.ref f57) = true)
    (l57 : K.lookup f57 = some ⟨oc57, od57, .func (PySem.W.fnOf "told" "Chart.told" (defArgs sChTold) (defBody sChTold) (defScope sChTold) .none kV57 dc57 pm57 an57 cd57 ct57), sl57⟩) (c57 : PySem.W.codeIn K cd57 "Chart.told" = true) (k57 : PySem.W.keepIn K (.ref f57) = true)
    (a58 : PySem.W.findIn K (.ref C2) "__init__" = some (some (.ref f58))) (i58 : PySem.W.isFn K (.ref f58) = true)
    (l58 : K.lookup f58 = some ⟨oc58, od58, .func (PySem.W.fnOf "__init__" "Box.__init__" (defArgs sBxInit) (defBody sBxInit) (defScope sBxInit) .none kV58 dc58 pm58 an58 cd58 ct58), sl58⟩) (c58 : PySem.W.codeIn K cd58 "Box.__init__" = true) (k58 : PySem.W.keepIn K (.ref f58) = true)
    (a59 : PySem.W.findIn K (.ref C2) "go_on" = some (some (.ref f59))) (i59 : PySem.W.isFn K (.ref f59) = true)
    (l59 : K.lookup f59 = some ⟨oc59, od59, .func (PySem.W.fnOf "go_on" "Box.go_on" (defArgs sBxGo) (defBody sBxGo) (defScope sBxGo) .none kV59 dc59 pm59 an59 cd59 ct59), sl59⟩) (c59 : PySem.W.codeIn K cd59 "Box.go_on" = true) (k59 : PySem.W.keepIn K (.ref f59) = true)
    (z1 : PySem.W.nsIn K mainGlobals "max" = some none)
    (z2 : PySem.W.nsIn K mainGlobals "min" = some none)
    (z3 : PySem.W.nsIn K mainGlobals "len" = some none)
    (z4 : PySem.W.nsIn K mainGlobals "sorted" = some none)
    (z5 : PySem.W.nsIn K mainGlobals "set" = some none)
    (z6 : PySem.W.nsIn K mainGlobals "zip" = some none)
    (z7 : PySem.W.nsIn K mainGlobals "range" = some none)
    (z8 : PySem.W.nsIn K mainGlobals "tuple" = some none)
    (z9 : PySem.W.nsIn K mainGlobals "sum" = some none)
    (z10 : PySem.W.nsIn K mainGlobals "enumerate" = some none)
    (z11 : PySem.W.nsIn K mainGlobals "list" = some none)
    (z12 : PySem.W.nsIn K mainGlobals "all" = some none)
    {tF tN0 tN1 tN2 tN3 : Tok} {nq : Addr} {odN : Option Addr} {nN : Nat} {slN : Array (Option Value)} {tO tW tM tg1 tg2 tg3 tg4 tg5 tg6 tg7 tg8 : Tok} {gq : Addr} {odG : Option Addr} {nG : Nat} {slG : Array (Option Value)}
    (aF : PySem.W.nsIn K mainGlobals "FOUR" = some (some (.int 4 tF)))
    (aN : PySem.W.nsIn K mainGlobals "NOTHING" = some (some (.ref nq)))
    (lN : K.lookup nq = some ⟨.type "tuple", odN, .seq #[.int 0 tN0, .int 0 tN1, .int 0 tN2, .int 0 tN3] nN, slN⟩)
    (aO : PySem.W.nsIn K mainGlobals "NONE" = some (some (.int 1000000 tO)))
    (aW : PySem.W.nsIn K mainGlobals "NOWHERE" = some (some (.int (-1) tW)))
    (aM : PySem.W.nsIn K mainGlobals "MANY" = some (some (.int 60 tM)))
    (aG : PySem.W.nsIn K mainGlobals "GREAT_BOXES" = some (some (.ref gq)))
    (lG : K.lookup gq = some ⟨.type "tuple", odG, .seq #[.int 1 tg1, .int 2 tg2, .int 3 tg3, .int 4 tg4, .int 6 tg5, .int 8 tg6, .int 12 tg7, .int 16 tg8] nG, slG⟩)
    : ∃ fd : FuncData, (∀ (s : Shared) (v : Value), BindsTo s fd ⟨[v], []⟩ [("script", v)]) ∧ ∀ base : Heap, K.In base → base.Ns mainGlobals mg → FnOk l.prog w K mg base CX0 14 fa fd ["script"] (spLaw75 K) := by
  have e := hfa.symm.trans (PySem.W.mg_of X G a48)
  cases e
  have F1 := fun_mk (st := sInFour) l1 c1 k1
  have g1 := PySem.W.mg_of X G a1
  have b1 := F1.binds (ps := ["numbers"]) fun _ _ _ _ _ _ us hl => match us, hl with | [_], _ => rfl
  have F2 := fun_mk (st := sCovOne) l2 c2 k2
  have g2 := PySem.W.mg_of X G a2
  have b2 := F2.binds (ps := ["store", "stores"]) fun _ _ _ _ _ _ us hl => match us, hl with | [_, _], _ => rfl
  have F3 := fun_mk (st := sLeastOf) l3 c3 k3
  have g3 := PySem.W.mg_of X G a3
  have b3 := F3.binds (ps := ["stores"]) fun _ _ _ _ _ _ us hl => match us, hl with | [_], _ => rfl
  have F4 := fun_mk (st := sNeeded) l4 c4 k4
  have g4 := PySem.W.mg_of X G a4
  have b4 := F4.binds (ps := ["way", "stores"]) fun _ _ _ _ _ _ us hl => match us, hl with | [_, _], _ => rfl
  have F5 := fun_mk (st := sJoined) l5 c5 k5
  have g5 := PySem.W.mg_of X G a5
  have b5 := F5.binds (ps := ["store", "stores"]) fun _ _ _ _ _ _ us hl => match us, hl with | [_, _], _ => rfl
  have F6 := fun_mk (st := sBoth) l6 c6 k6
  have g6 := PySem.W.mg_of X G a6
  have b6 := F6.binds (ps := ["stores", "others"]) fun _ _ _ _ _ _ us hl => match us, hl with | [_, _], _ => rfl
  have F7 := fun_mk (st := sInAll) l7 c7 k7
  have g7 := PySem.W.mg_of X G a7
  have b7 := F7.binds (ps := ["before", "needs"]) fun _ _ _ _ _ _ us hl => match us, hl with | [_, _], _ => rfl
  have F8 := fun_mk (st := sOneMore) l8 c8 k8
  have g8 := PySem.W.mg_of X G a8
  have b8 := F8.binds (ps := ["rooms", "before", "b"]) fun _ _ _ _ _ _ us hl => match us, hl with | [_, _, _], _ => rfl
  have F9 := fun_mk (st := sForAsk) l9 c9 k9
  have g9 := PySem.W.mg_of X G a9
  have b9 := F9.binds (ps := ["ask", "before", "b"]) fun _ _ _ _ _ _ us hl => match us, hl with | [_, _, _], _ => rfl
  have F10 := fun_mk (st := sNoMore) l10 c10 k10
  have g10 := PySem.W.mg_of X G a10
  have b10 := F10.binds (ps := ["b", "stores"]) fun _ _ _ _ _ _ us hl => match us, hl with | [_, _], _ => rfl
  have F11 := fun_mk (st := sKindsOf) l11 c11 k11
  have g11 := PySem.W.mg_of X G a11
  have b11 := F11.binds (ps := ["house"]) fun _ _ _ _ _ _ us hl => match us, hl with | [_], _ => rfl
  have F12 := fun_mk (st := sPlanOf) l12 c12 k12
  have g12 := PySem.W.mg_of X G a12
  have b12 := F12.binds (ps := ["house"]) fun _ _ _ _ _ _ us hl => match us, hl with | [_], _ => rfl
  have F13 := fun_mk (st := sSides) l13 c13 k13
  have g13 := PySem.W.mg_of X G a13
  have b13 := F13.binds (ps := ["kinds", "b"]) fun _ _ _ _ _ _ us hl => match us, hl with | [_, _], _ => rfl
  have F14 := fun_mk (st := sColumns) l14 c14 k14
  have g14 := PySem.W.mg_of X G a14
  have b14 := F14.binds (ps := ["sides"]) fun _ _ _ _ _ _ us hl => match us, hl with | [_], _ => rfl
  have F15 := fun_mk (st := sHeights) l15 c15 k15
  have g15 := PySem.W.mg_of X G a15
  have b15 := F15.binds (ps := ["stores", "columns"]) fun _ _ _ _ _ _ us hl => match us, hl with | [_, _], _ => rfl
  have F16 := fun_mk (st := sSettled) l16 c16 k16
  have g16 := PySem.W.mg_of X G a16
  have b16 := F16.binds (ps := ["begun", "rooms", "kinds", "b"]) fun _ _ _ _ _ _ us hl => match us, hl with | [_, _, _, _], _ => rfl
  have F17 := fun_mk (st := sSettle) l17 c17 k17
  have g17 := PySem.W.mg_of X G a17
  have b17 := F17.binds (ps := ["heights", "rooms", "sides", "b"]) fun _ _ _ _ _ _ us hl => match us, hl with | [_, _, _, _], _ => rfl
  have F18 := fun_mk (st := sAsked) l18 c18 k18
  have g18 := PySem.W.mg_of X G a18
  have b18 := F18.binds (ps := ["rooms", "sides"]) fun _ _ _ _ _ _ us hl => match us, hl with | [_, _], _ => rfl
  have F19 := fun_mk (st := sLedTo) l19 c19 k19
  have g19 := PySem.W.mg_of X G a19
  have b19 := F19.binds (ps := ["way", "sides", "first"]) fun _ _ _ _ _ _ us hl => match us, hl with | [_, _, _], _ => rfl
  have F20 := fun_mk (st := sSupport) l20 c20 k20
  have g20 := PySem.W.mg_of X G a20
  have b20 := F20.binds (ps := ["ask", "at", "heights", "height"]) fun _ _ _ _ _ _ us hl => match us, hl with | [_, _, _, _], _ => rfl
  have F21 := fun_mk (st := sLNeed) l21 c21 k21
  have g21 := PySem.W.mg_of X G a21
  have b21 := F21.binds (ps := ["ask", "at", "heights"]) fun _ _ _ _ _ _ us hl => match us, hl with | [_, _, _], _ => rfl
  have F22 := fun_mk (st := sGreat) l22 c22 k22
  have g22 := PySem.W.mg_of X G a22
  have b22 := F22.binds (ps := ["b"]) fun _ _ _ _ _ _ us hl => match us, hl with | [_], _ => rfl
  have F23 := fun_mk (st := sLeastThere) l23 c23 k23
  have g23 := PySem.W.mg_of X G a23
  have b23 := F23.binds (ps := ["plan", "n"]) fun _ _ _ _ _ _ us hl => match us, hl with | [_, _], _ => rfl
  have F24 := fun_mk (st := sLastsThere) l24 c24 k24
  have g24 := PySem.W.mg_of X G a24
  have b24 := F24.binds (ps := ["plan", "stand", "n"]) fun _ _ _ _ _ _ us hl => match us, hl with | [_, _, _], _ => rfl
  have F25 := fun_mk (st := sLasts) l25 c25 k25
  have g25 := PySem.W.mg_of X G a25
  have b25 := F25.binds (ps := ["house", "store", "n"]) fun _ _ _ _ _ _ us hl => match us, hl with | [_, _, _], _ => rfl
  have F26 := fun_mk (st := sLeast) l26 c26 k26
  have g26 := PySem.W.mg_of X G a26
  have b26 := F26.binds (ps := ["house", "n"]) fun _ _ _ _ _ _ us hl => match us, hl with | [_, _], _ => rfl
  have F27 := fun_mk (st := sWithinThere) l27 c27 k27
  have g27 := PySem.W.mg_of X G a27
  have b27 := F27.binds (ps := ["plan", "b"]) fun _ _ _ _ _ _ us hl => match us, hl with | [_, _], _ => rfl
  have F28 := fun_mk (st := sLeastW) l28 c28 k28
  have g28 := PySem.W.mg_of X G a28
  have b28 := F28.binds (ps := ["house", "b"]) fun _ _ _ _ _ _ us hl => match us, hl with | [_, _], _ => rfl
  have F29 := fun_mk (st := sAbove) l29 c29 k29
  have g29 := PySem.W.mg_of X G a29
  have b29 := F29.binds (ps := ["house", "b", "store"]) fun _ _ _ _ _ _ us hl => match us, hl with | [_, _, _], _ => rfl
  have F30 := fun_mk (st := sCovers) l30 c30 k30
  have g30 := PySem.W.mg_of X G a30
  have b30 := F30.binds (ps := ["store", "other"]) fun _ _ _ _ _ _ us hl => match us, hl with | [_, _], _ => rfl
  have F31 := fun_mk (st := sLifeThere) l31 c31 k31
  have g31 := PySem.W.mg_of X G a31
  have b31 := F31.binds (ps := ["plan", "stand"]) fun _ _ _ _ _ _ us hl => match us, hl with | [_, _], _ => rfl
  have F32 := fun_mk (st := sLife) l32 c32 k32
  have g32 := PySem.W.mg_of X G a32
  have b32 := F32.binds (ps := ["house", "store"]) fun _ _ _ _ _ _ us hl => match us, hl with | [_, _], _ => rfl
  have F33 := fun_mk (st := sOpen) l33 c33 k33
  have g33 := PySem.W.mg_of X G a33
  have b33 := F33.binds (ps := ["script"]) fun _ _ _ _ _ _ us hl => match us, hl with | [_], _ => rfl
  have F34 := fun_mk (st := sSpread) l34 c34 k34
  have g34 := PySem.W.mg_of X G a34
  have b34 := F34.binds (ps := ["cell", "at"]) fun _ _ _ _ _ _ us hl => match us, hl with | [_, _], _ => rfl
  have F35 := fun_mk (st := sTake) l35 c35 k35
  have g35 := PySem.W.mg_of X G a35
  have b35 := F35.binds (ps := ["pen", "amount"]) fun _ _ _ _ _ _ us hl => match us, hl with | [_, _], _ => rfl
  have F36 := fun_mk (st := sHouseB) l36 c36 k36
  have g36 := PySem.W.mg_of X G a36
  have b36 := F36.binds (ps := ["pen", "kinds", "asks", "ways", "size"]) fun _ _ _ _ _ _ us hl => match us, hl with | [_, _, _, _, _], _ => rfl
  have F37 := fun_mk (st := sTraded) l37 c37 k37
  have g37 := PySem.W.mg_of X G a37
  have b37 := F37.binds (ps := ["pen", "way"]) fun _ _ _ _ _ _ us hl => match us, hl with | [_, _], _ => rfl
  have F38 := fun_mk (st := sAnyStore) l38 c38 k38
  have g38 := PySem.W.mg_of X G a38
  have b38 := F38.binds (ps := ["pen", "kinds", "most"]) fun _ _ _ _ _ _ us hl => match us, hl with | [_, _, _], _ => rfl
  have F39 := fun_mk (st := sCovLaw) l39 c39 k39
  have g39 := PySem.W.mg_of X G a39
  have b39 := F39.binds (ps := ["store", "other"]) fun _ _ _ _ _ _ us hl => match us, hl with | [_, _], _ => rfl
  have F40 := fun_mk (st := sCovAny) l40 c40 k40
  have g40 := PySem.W.mg_of X G a40
  have b40 := F40.binds (ps := ["store", "some"]) fun _ _ _ _ _ _ us hl => match us, hl with | [_, _], _ => rfl
  have F41 := fun_mk (st := sLowest) l41 c41 k41
  have g41 := PySem.W.mg_of X G a41
  have b41 := F41.binds (ps := ["some"]) fun _ _ _ _ _ _ us hl => match us, hl with | [_], _ => rfl
  have F42 := fun_mk (st := sMore) l42 c42 k42
  have g42 := PySem.W.mg_of X G a42
  have b42 := F42.binds (ps := ["house", "lows", "most"]) fun _ _ _ _ _ _ us hl => match us, hl with | [_, _, _], _ => rfl
  have F43 := fun_mk (st := sTable) l43 c43 k43
  have g43 := PySem.W.mg_of X G a43
  have b43 := F43.binds (ps := ["house", "most", "cap"]) fun _ _ _ _ _ _ us hl => match us, hl with | [_, _, _], _ => rfl
  have F44 := fun_mk (st := sFateT) l44 c44 k44
  have g44 := PySem.W.mg_of X G a44
  have b44 := F44.binds (ps := ["table", "store"]) fun _ _ _ _ _ _ us hl => match us, hl with | [_, _], _ => rfl
  have F45 := fun_mk (st := sLonger) l45 c45 k45
  have g45 := PySem.W.mg_of X G a45
  have b45 := F45.binds (ps := ["one", "other"]) fun _ _ _ _ _ _ us hl => match us, hl with | [_, _], _ => rfl
  have F46 := fun_mk (st := sLowsR) l46 c46 k46
  have g46 := PySem.W.mg_of X G a46
  have b46 := F46.binds (ps := ["house", "n"]) fun _ _ _ _ _ _ us hl => match us, hl with | [_, _], _ => rfl
  have F47 := fun_mk (st := sBoxesR) l47 c47 k47
  have g47 := PySem.W.mg_of X G a47
  have b47 := F47.binds (ps := ["house", "table", "b", "store"]) fun _ _ _ _ _ _ us hl => match us, hl with | [_, _, _, _], _ => rfl
  have F48 := fun_mk (st := sLaw75) l48 c48 k48
  have g48 := PySem.W.mg_of X G a48
  have F49 := fun_mk (st := sChInit) l49 c49 k49
  have M49 : Meth K C1 "__init__" f49 := ⟨a49, i49, k49⟩
  have b49 := F49.binds (ps := ["self", "plan"]) fun _ _ _ _ _ _ us hl => match us, hl with | [_, _], _ => rfl
  have F50 := fun_mk (st := sChLeast) l50 c50 k50
  have M50 : Meth K C1 "least" f50 := ⟨a50, i50, k50⟩
  have b50 := F50.binds (ps := ["self", "n"]) fun _ _ _ _ _ _ us hl => match us, hl with | [_, _], _ => rfl
  have F51 := fun_mk (st := sChWithin) l51 c51 k51
  have M51 : Meth K C1 "within" f51 := ⟨a51, i51, k51⟩
  have b51 := F51.binds (ps := ["self", "b"]) fun _ _ _ _ _ _ us hl => match us, hl with | [_, _], _ => rfl
  have F52 := fun_mk (st := sChLW) l52 c52 k52
  have M52 : Meth K C1 "lasts_within" f52 := ⟨a52, i52, k52⟩
  have b52 := F52.binds (ps := ["self", "stand", "b"]) fun _ _ _ _ _ _ us hl => match us, hl with | [_, _, _], _ => rfl
  have F53 := fun_mk (st := sChBoxM) l53 c53 k53
  have M53 : Meth K C1 "_box" f53 := ⟨a53, i53, k53⟩
  have b53 := F53.binds (ps := ["self", "b"]) fun _ _ _ _ _ _ us hl => match us, hl with | [_, _], _ => rfl
  have F54 := fun_mk (st := sChLasts) l54 c54 k54
  have M54 : Meth K C1 "lasts" f54 := ⟨a54, i54, k54⟩
  have b54 := F54.binds (ps := ["self", "stand", "n"]) fun _ _ _ _ _ _ us hl => match us, hl with | [_, _, _], _ => rfl
  have F55 := fun_mk (st := sChFate) l55 c55 k55
  have M55 : Meth K C1 "fate" f55 := ⟨a55, i55, k55⟩
  have b55 := F55.binds (ps := ["self", "stand"]) fun _ _ _ _ _ _ us hl => match us, hl with | [_, _], _ => rfl
  have F56 := fun_mk (st := sChLife) l56 c56 k56
  have M56 : Meth K C1 "life" f56 := ⟨a56, i56, k56⟩
  have b56 := F56.binds (ps := ["self", "stand"]) fun _ _ _ _ _ _ us hl => match us, hl with | [_, _], _ => rfl
  have F57 := fun_mk (st := sChTold) l57 c57 k57
  have M57 : Meth K C1 "told" f57 := ⟨a57, i57, k57⟩
  have b57 := F57.binds (ps := ["self", "lists"]) fun _ _ _ _ _ _ us hl => match us, hl with | [_, _], _ => rfl
  have F58 := fun_mk (st := sBxInit) l58 c58 k58
  have M58 : Meth K C2 "__init__" f58 := ⟨a58, i58, k58⟩
  have b58 := F58.binds (ps := ["self", "begun", "rooms", "kinds", "b"]) fun _ _ _ _ _ _ us hl => match us, hl with | [_, _, _, _, _], _ => rfl
  have F59 := fun_mk (st := sBxGo) l59 c59 k59
  have M59 : Meth K C2 "go_on" f59 := ⟨a59, i59, k59⟩
  have b59 := F59.binds (ps := ["self"]) fun _ _ _ _ _ _ us hl => match us, hl with | [_], _ => rfl
  have Cl1 : L2.Cls K C1 := ⟨pg1, hd1, po1, sa1⟩
  have Mk1 : Mk K C1 f49 := ⟨mk1, a49, i49, kc1⟩
  have gC1 := PySem.W.mg_of X G aC1
  have Cl2 : L2.Cls K C2 := ⟨pg2, hd2, po2, sa2⟩
  have Mk2 : Mk K C2 f58 := ⟨mk2, a58, i58, kc2⟩
  have gC2 := PySem.W.mg_of X G aC2
  have m_max := PySem.W.mg_none_of X G z1
  have m_min := PySem.W.mg_none_of X G z2
  have m_len := PySem.W.mg_none_of X G z3
  have m_sorted := PySem.W.mg_none_of X G z4
  have m_set := PySem.W.mg_none_of X G z5
  have m_zip := PySem.W.mg_none_of X G z6
  have m_range := PySem.W.mg_none_of X G z7
  have m_tuple := PySem.W.mg_none_of X G z8
  have m_sum := PySem.W.mg_none_of X G z9
  have m_enumerate := PySem.W.mg_none_of X G z10
  have m_list := PySem.W.mg_none_of X G z11
  have m_all := PySem.W.mg_none_of X G z12
  refine ⟨PySem.W.fnOf "law" "law" (defArgs sLaw75) (defBody sLaw75) (defScope sLaw75) .none kV48 dc48 pm48 an48 cd48 ct48, fun s v => .of_eq rfl, fun base _ _ => ?_⟩
  have gF := PySem.W.mg_of X G aF
  have gN := PySem.W.mg_of X G aN
  have gO := PySem.W.mg_of X G aO
  have gW := PySem.W.mg_of X G aW
  have gM := PySem.W.mg_of X G aM
  have gG := PySem.W.mg_of X G aG
  have hN : ∀ H : Hp, Dp K H (.ref nq) (wayD [0, 0, 0, 0]) := nothing_at (its := #[]) lN rfl rfl
  have hG : ∀ H : Hp, SqT K H gq (greats.map V.int) := fun H => .inr ⟨_, _, _, lG, rfl, rfl, by show 8 ≤ sizeLine; rw [sizeLine_eq]; omega, .cons ⟨_, rfl⟩ (.cons ⟨_, rfl⟩ (.cons ⟨_, rfl⟩ (.cons ⟨_, rfl⟩ (.cons ⟨_, rfl⟩ (.cons ⟨_, rfl⟩ (.cons ⟨_, rfl⟩ (.cons ⟨_, rfl⟩ .nil)))))))⟩
  have P1 := ok_inFour (P := l.prog) (w := w) (base := base) (k := 0) F1 gF m_len
  have P2a := ok_covOne (P := l.prog) (w := w) (mg := mg) (base := base) (k := 0) F2
  have P3 := ok_leastOf (k := 0) F3 P2a F2.kp b2 g2 m_sorted m_set
  have P4 := ok_needed (P := l.prog) (w := w) (base := base) (k := 0) F4 m_max
  have P5 := ok_joined (P := l.prog) (w := w) (mg := mg) (base := base) (k := 0) F5
  have P3U := ok_leastU (k := 0) F3 P2a F2.kp b2 g2 m_sorted m_set
  have P6 := ok_bothJ (k := 0) F6 (P2a.mono (by decide)) F2.kp b2 g2 (P5.mono (by decide)) F5.kp b5 g5 P3U F3.kp b3 g3
  have PA := ok_inAll (k := 0) F7 P6 F6.kp b6 g6 m_sorted m_len
  have PM := ok_noMore (P := l.prog) (w := w) (base := base) (k := 0) F10 m_max
  have PMB := ok_noMoreB (P := l.prog) (w := w) (base := base) (k := 0) F10 m_max
  have PK := ok_forAsk (k := 0) F9 (P4.mono (by decide)) F4.kp b4 g4 (PM.mono (by decide)) F10.kp b10 g10 P3 F3.kp b3 g3
  have PO := ok_oneMore (k := 0) F8 (PK.mono (by decide)) F9.kp b9 g9 PA F7.kp b7 g7 m_zip
  have TC : ChTxt K C1 := ⟨Cl1, na1_kinds, na1_rooms, na1_lists, na1_boxes⟩
  have TB : BxTxt K C2 := ⟨Cl2, na2_found, na2_settled, na2_rooms, na2_kinds, na2_b, na2_left⟩
  have P7 := ok_kindsOf (P := l.prog) (w := w) (base := base) (k := 0) F11 m_len
  have PP := ok_planOf (k := 0) F12 P7 F11.kp b11 g11 m_tuple
  have QI := ok_chInit (k := 0) F49 TC P1 F1.kp b1 g1 gN hN
  have QT := ok_chTold (P := l.prog) (w := w) (mg := mg) (base := base) (k := 0) F57 TC
  have B1 := ok_sides (P := l.prog) (w := w) (base := base) (k := 0) F13 gF m_range
  have B2 := ok_columns (P := l.prog) (w := w) (base := base) (k := 0) F14 m_range
  have B3 := ok_heights (P := l.prog) (w := w) (base := base) (k := 0) F15 gO m_min
  have B4 := ok_ledTo (P := l.prog) (w := w) (base := base) (k := 0) F19 gW m_zip m_range m_min
  have B5 := ok_support (P := l.prog) (w := w) (mg := mg) (base := base) (k := 0) F20
  have B6 := ok_lneed (P := l.prog) (w := w) (base := base) (k := 0) F21 m_min
  have B7 := ok_asked (k := 0) F18 B4 F19.kp b19 g19 m_range m_enumerate
  have B8 := ok_settle (k := 0) F17 B7 F18.kp b18 g18 (B5.mono (by decide)) F20.kp b20 g20 (B6.mono (by decide)) F21.kp b21 g21 gO gW
  have B9 := ok_settled (k := 0) F16 (B1.mono (by decide)) F13.kp b13 g13 (B2.mono (by decide)) F14.kp b14 g14 (B3.mono (by decide)) F15.kp b15 g15 B8 F17.kp b17 g17 (P3.mono (by decide)) F3.kp b3 g3 gO m_len m_range m_zip
  have BG := ok_great (P := l.prog) (w := w) (base := base) (k := 0) F22 gG hG m_min
  have BI := ok_bxInit (k := 0) F58 TB B1 F13.kp b13 g13 B2 F14.kp b14 g14 m_len
  have BO := ok_bxGo (k := 0) F59 TB PO F8.kp b8 g8 (B9.mono (by decide)) F16.kp b16 g16 gM m_len m_sum m_max
  have QB := ok_chBox (k := 0) F53 TC TB Mk2 gC2 BI b58 (BG.mono (by decide)) F22.kp b22 g22 (PMB.mono (by decide)) F10.kp b10 g10
  have QW := ok_chWithin (k := 0) F51 TC TB (QB.mono (by decide)) M53 b53 BO M59 b59
  have WF : WtFns l.prog w K mg base 0 C1 C2 f49 f51 f57 _ _ _ := ⟨TC, Mk1, gC1, QI, b49, QW, M51, b51, QT, M57, b57⟩
  have PWT := ok_withinThere F27 WF
  have PLW := ok_leastW (k := 0) F28 (PP.mono (by decide)) F12.kp b12 g12 PWT F27.kp b27 g27
  have PAB := ok_above (k := 0) F29 PLW F28.kp b28 g28 (P1.mono (by decide)) F1.kp b1 g1 (P3.mono (by decide)) F3.kp b3 g3 (P5.mono (by decide)) F5.kp b5 g5 (P7.mono (by decide)) F11.kp b11 g11
  have QL := ok_chLeast (k := 0) F50 TC PO F8.kp b8 g8 m_len
  have QS := ok_chLasts (k := 0) F54 TC QL M50 b50 (P1.mono (by decide)) F1.kp b1 g1 (P2a.mono (by decide)) F2.kp b2 g2 m_len m_range m_min
  have CF : ChFns l.prog w K mg base 0 C1 f49 f50 f54 f57 _ _ _ _ := ⟨TC, Mk1, gC1, QI, b49, QL, M50, b50, QS, M54, b54, QT, M57, b57⟩
  have PLT := ok_leastThere (k := 0) F23 CF
  have PST := ok_lastsThere (k := 0) F24 CF
  have P9 := ok_leastP (k := 0) F26 PP F12.kp b12 g12 PLT F23.kp b23 g23
  have P8 := ok_lastsP (k := 0) F25 PP F12.kp b12 g12 PST F24.kp b24 g24
  have QLW := ok_chLW (k := 0) F52 TC TB M52 b52 (QB.mono (by decide)) M53 b53 (BO.mono (by decide)) M59 b59 (P1.mono (by decide)) F1.kp b1 g1 (P2a.mono (by decide)) F2.kp b2 g2 (BG.mono (by decide)) F22.kp b22 g22 2
  have QF := ok_chFate (k := 0) F55 TC (QL.mono (by decide)) M50 b50 QLW M52 b52 (P1.mono (by decide)) F1.kp b1 g1 (P2a.mono (by decide)) F2.kp b2 g2
  have QV := ok_chLife (k := 0) F56 TC QF M55 b55
  have VF : FtFns l.prog w K mg base 0 C1 C2 f49 f55 f56 _ _ _ := ⟨TC, Mk1, gC1, QI, b49, QF, M55, b55, QV, M56, b56⟩
  have PVT := ok_lifeThere (k := 0) F31 VF
  have PV := ok_life (k := 0) F32 (PP.mono (by decide)) F12.kp b12 g12 PVT F31.kp b31 g31
  have PC := ok_covP (P := l.prog) (w := w) (base := base) (k := 0) F30 m_zip m_all
  have GO : FnOk l.prog w K mg base CX0 1 f33 _ ["script"] (spOpen K) := ok_open (k := 0) F33 m_list m_enumerate
  have GT : FnOk l.prog w K mg base CX0 2 f35 _ ["pen", "amount"] spTake := ok_take (k := 0) F35 F34 b34 g34 m_len
  have GD := ok_traded (k := 0) F37 GT F35.kp b35 g35 m_len m_sum m_max m_min
  have GH := ok_houseB (k := 0) F36 (GT.mono (by decide)) F35.kp b35 g35 GD F37.kp b37 g37 m_range m_tuple
  have GS := ok_anyStore (k := 0) F38 GT F35.kp b35 g35 m_range m_tuple
  have GC := ok_covLaw (P := l.prog) (w := w) (base := base) (k := 0) F39 m_zip
  have GA := ok_covAny (k := 0) F40 GC F39.kp b39 g39
  have GW := ok_lowest (k := 1) F41 GA F40.kp b40 g40 m_sorted m_set
  have GM := ok_more (k := 0) F42 GW F41.kp b41 g41 m_len m_max m_tuple m_zip
  have GB := ok_table (k := 0) F43 GM F42.kp b42 g42 m_len m_range
  have GF := ok_fateT (k := 0) F44 GA F40.kp b40 g40 m_len m_range
  have GQ := ok_longer (P := l.prog) (w := w) (mg := mg) (base := base) (K := K) (k := 0) F45
  have GL := ok_lowsR75 (k := 12) F46 (P9.mono (by decide)) F26.kp b26 g26 (P8.mono (by decide)) F25.kp b25 g25 (PC.mono (by decide)) F30.kp b30 g30 m_max m_enumerate
  have GX := ok_boxesR75 (k := 12) F47 ((PLW.mono (by decide)).imp lw_imp) F28.kp b28 g28 ((PAB.mono (by decide)).imp abv_imp) F29.kp b29 g29 (PC.mono (by decide)) F30.kp b30 g30 (GF.mono (by decide)) F44.kp b44 g44 (PV.mono (by decide)) F32.kp b32 g32 m_max
  exact ok_law75 F48 ⟨g33, g35, g36, g38, g43, g44, g32, g45, g46, g47, m_range, m_tuple, m_len⟩ (k := 13) ⟨(GO.mono (by decide)), F33.kp, b33, (GT.mono (by decide)), F35.kp, b35, (GH.mono (by decide)), F36.kp, b36, (GS.mono (by decide)), F38.kp, b38, (GB.mono (by decide)), F43.kp, b43, (GF.mono (by decide)), F44.kp, b44, (PV.mono (by decide)), F32.kp, b32, (GQ.mono (by decide)), F45.kp, b45, (GL.mono (by decide)), F46.kp, b46, (GX.mono (by decide)), F47.kp, b47⟩
end My
open PySem PySem.W PyProof.Rows
set_option maxRecDepth 100000 in
set_option maxHeartbeats 0 in
theorem PySem.Challenge.cw_everstock_k75_whole_more_is_never_worse_holds : PySem.Challenge.rw_everstock_k75_whole_more_is_never_worse.Holds := by
  w_on; o_law; k_head; (case hw => w_witness2)
  k_fill
  refine L2.walk_of (l := PySem.Challenge.rw_everstock_k75_whole_more_is_never_worse) (n := 63) (k := 14) (x := "script") (CX := fun _ => L2.CX0) (sp := fun w => My.spLaw75 _) rfl (by decide) rfl ⟨rfl, by decide, by decide⟩ (fun w h Y => PySem.W.kIn_of Y) ?F (fun _ _ a ns hl _ hS => ⟨a, ns, rfl, hS, hl, fun _ => rfl⟩) (fun _ _ _ _ _ h => h)
  case F =>
    intro w mg fa h KX G hmg
    refine' My.all_mk KX G hmg ?aC1 ?pg1 ?hd1 ?po1 ?sa1 ?mk1 ?kc1 ?na1_kinds ?na1_rooms ?na1_lists ?na1_boxes ?aC2 ?pg2 ?hd2 ?po2 ?sa2 ?mk2 ?kc2 ?na2_found ?na2_settled ?na2_rooms ?na2_kinds ?na2_b ?na2_left ?a1 ?l1 ?c1 ?k1 ?a2 ?l2 ?c2 ?k2 ?a3 ?l3 ?c3 ?k3 ?a4 ?l4 ?c4 ?k4 ?a5 ?l5 ?c5 ?k5 ?a6 ?l6 ?c6 ?k6 ?a7 ?l7 ?c7 ?k7 ?a8 ?l8 ?c8 ?k8 ?a9 ?l9 ?c9 ?k9 ?a10 ?l10 ?c10 ?k10 ?a11 ?l11 ?c11 ?k11 ?a12 ?l12 ?c12 ?k12 ?a13 ?l13 ?c13 ?k13 ?a14 ?l14 ?c14 ?k14 ?a15 ?l15 ?c15 ?k15 ?a16 ?l16 ?c16 ?k16 ?a17 ?l17 ?c17 ?k17 ?a18 ?l18 ?c18 ?k18 ?a19 ?l19 ?c19 ?k19 ?a20 ?l20 ?c20 ?k20 ?a21 ?l21 ?c21 ?k21 ?a22 ?l22 ?c22 ?k22 ?a23 ?l23 ?c23 ?k23 ?a24 ?l24 ?c24 ?k24 ?a25 ?l25 ?c25 ?k25 ?a26 ?l26 ?c26 ?k26 ?a27 ?l27 ?c27 ?k27 ?a28 ?l28 ?c28 ?k28 ?a29 ?l29 ?c29 ?k29 ?a30 ?l30 ?c30 ?k30 ?a31 ?l31 ?c31 ?k31 ?a32 ?l32 ?c32 ?k32 ?a33 ?l33 ?c33 ?k33 ?a34 ?l34 ?c34 ?k34 ?a35 ?l35 ?c35 ?k35 ?a36 ?l36 ?c36 ?k36 ?a37 ?l37 ?c37 ?k37 ?a38 ?l38 ?c38 ?k38 ?a39 ?l39 ?c39 ?k39 ?a40 ?l40 ?c40 ?k40 ?a41 ?l41 ?c41 ?k41 ?a42 ?l42 ?c42 ?k42 ?a43 ?l43 ?c43 ?k43 ?a44 ?l44 ?c44 ?k44 ?a45 ?l45 ?c45 ?k45 ?a46 ?l46 ?c46 ?k46 ?a47 ?l47 ?c47 ?k47 ?a48 ?l48 ?c48 ?k48 ?a49 ?i49 ?l49 ?c49 ?k49 ?a50 ?i50 ?l50 ?c50 ?k50 ?a51 ?i51 ?l51 ?c51 ?k51 ?a52 ?i52 ?l52 ?c52 ?k52 ?a53 ?i53 ?l53 ?c53 ?k53 ?a54 ?i54 ?l54 ?c54 ?k54 ?a55 ?i55 ?l55 ?c55 ?k55 ?a56 ?i56 ?l56 ?c56 ?k56 ?a57 ?i57 ?l57 ?c57 ?k57 ?a58 ?i58 ?l58 ?c58 ?k58 ?a59 ?i59 ?l59 ?c59 ?k59 ?z1 ?z2 ?z3 ?z4 ?z5 ?z6 ?z7 ?z8 ?z9 ?z10 ?z11 ?z12 ?aF ?aN ?lN ?aO ?aW ?aM ?aG ?lG
    (case aC1 => k_is); (case pg1 => k_is); (case hd1 => k_is); (case po1 => k_is); (case sa1 => k_is); (case mk1 => k_is); (case kc1 => k_is); (case na1_kinds => k_is); (case na1_rooms => k_is); (case na1_lists => k_is); (case na1_boxes => k_is); (case aC2 => k_is); (case pg2 => k_is); (case hd2 => k_is); (case po2 => k_is); (case sa2 => k_is); (case mk2 => k_is); (case kc2 => k_is); (case na2_found => k_is); (case na2_settled => k_is); (case na2_rooms => k_is); (case na2_kinds => k_is); (case na2_b => k_is); (case na2_left => k_is); (case a1 => k_is); (case l1 => k_is); (case c1 => k_is); (case k1 => k_is); (case a2 => k_is); (case l2 => k_is); (case c2 => k_is); (case k2 => k_is); (case a3 => k_is); (case l3 => k_is); (case c3 => k_is); (case k3 => k_is); (case a4 => k_is); (case l4 => k_is); (case c4 => k_is); (case k4 => k_is); (case a5 => k_is); (case l5 => k_is); (case c5 => k_is); (case k5 => k_is); (case a6 => k_is); (case l6 => k_is); (case c6 => k_is); (case k6 => k_is); (case a7 => k_is); (case l7 => k_is); (case c7 => k_is); (case k7 => k_is); (case a8 => k_is); (case l8 => k_is); (case c8 => k_is); (case k8 => k_is); (case a9 => k_is); (case l9 => k_is); (case c9 => k_is); (case k9 => k_is); (case a10 => k_is); (case l10 => k_is); (case c10 => k_is); (case k10 => k_is); (case a11 => k_is); (case l11 => k_is); (case c11 => k_is); (case k11 => k_is); (case a12 => k_is); (case l12 => k_is); (case c12 => k_is); (case k12 => k_is); (case a13 => k_is); (case l13 => k_is); (case c13 => k_is); (case k13 => k_is); (case a14 => k_is); (case l14 => k_is); (case c14 => k_is); (case k14 => k_is); (case a15 => k_is); (case l15 => k_is); (case c15 => k_is); (case k15 => k_is); (case a16 => k_is); (case l16 => k_is); (case c16 => k_is); (case k16 => k_is); (case a17 => k_is); (case l17 => k_is); (case c17 => k_is); (case k17 => k_is); (case a18 => k_is); (case l18 => k_is); (case c18 => k_is); (case k18 => k_is); (case a19 => k_is); (case l19 => k_is); (case c19 => k_is); (case k19 => k_is); (case a20 => k_is); (case l20 => k_is); (case c20 => k_is); (case k20 => k_is); (case a21 => k_is); (case l21 => k_is); (case c21 => k_is); (case k21 => k_is); (case a22 => k_is); (case l22 => k_is); (case c22 => k_is); (case k22 => k_is); (case a23 => k_is); (case l23 => k_is); (case c23 => k_is); (case k23 => k_is); (case a24 => k_is); (case l24 => k_is); (case c24 => k_is); (case k24 => k_is); (case a25 => k_is); (case l25 => k_is); (case c25 => k_is); (case k25 => k_is); (case a26 => k_is); (case l26 => k_is); (case c26 => k_is); (case k26 => k_is); (case a27 => k_is); (case l27 => k_is); (case c27 => k_is); (case k27 => k_is); (case a28 => k_is); (case l28 => k_is); (case c28 => k_is); (case k28 => k_is); (case a29 => k_is); (case l29 => k_is); (case c29 => k_is); (case k29 => k_is); (case a30 => k_is); (case l30 => k_is); (case c30 => k_is); (case k30 => k_is); (case a31 => k_is); (case l31 => k_is); (case c31 => k_is); (case k31 => k_is); (case a32 => k_is); (case l32 => k_is); (case c32 => k_is); (case k32 => k_is); (case a33 => k_is); (case l33 => k_is); (case c33 => k_is); (case k33 => k_is); (case a34 => k_is); (case l34 => k_is); (case c34 => k_is); (case k34 => k_is); (case a35 => k_is); (case l35 => k_is); (case c35 => k_is); (case k35 => k_is); (case a36 => k_is); (case l36 => k_is); (case c36 => k_is); (case k36 => k_is); (case a37 => k_is); (case l37 => k_is); (case c37 => k_is); (case k37 => k_is); (case a38 => k_is); (case l38 => k_is); (case c38 => k_is); (case k38 => k_is); (case a39 => k_is); (case l39 => k_is); (case c39 => k_is); (case k39 => k_is); (case a40 => k_is); (case l40 => k_is); (case c40 => k_is); (case k40 => k_is); (case a41 => k_is); (case l41 => k_is); (case c41 => k_is); (case k41 => k_is); (case a42 => k_is); (case l42 => k_is); (case c42 => k_is); (case k42 => k_is); (case a43 => k_is); (case l43 => k_is); (case c43 => k_is); (case k43 => k_is); (case a44 => k_is); (case l44 => k_is); (case c44 => k_is); (case k44 => k_is); (case a45 => k_is); (case l45 => k_is); (case c45 => k_is); (case k45 => k_is); (case a46 => k_is); (case l46 => k_is); (case c46 => k_is); (case k46 => k_is); (case a47 => k_is); (case l47 => k_is); (case c47 => k_is); (case k47 => k_is); (case a48 => k_is); (case l48 => k_is); (case c48 => k_is); (case k48 => k_is); (case a49 => k_is); (case i49 => k_is); (case l49 => k_is); (case c49 => k_is); (case k49 => k_is); (case a50 => k_is); (case i50 => k_is); (case l50 => k_is); (case c50 => k_is); (case k50 => k_is); (case a51 => k_is); (case i51 => k_is); (case l51 => k_is); (case c51 => k_is); (case k51 => k_is); (case a52 => k_is); (case i52 => k_is); (case l52 => k_is); (case c52 => k_is); (case k52 => k_is); (case a53 => k_is); (case i53 => k_is); (case l53 => k_is); (case c53 => k_is); (case k53 => k_is); (case a54 => k_is); (case i54 => k_is); (case l54 => k_is); (case c54 => k_is); (case k54 => k_is); (case a55 => k_is); (case i55 => k_is); (case l55 => k_is); (case c55 => k_is); (case k55 => k_is); (case a56 => k_is); (case i56 => k_is); (case l56 => k_is); (case c56 => k_is); (case k56 => k_is); (case a57 => k_is); (case i57 => k_is); (case l57 => k_is); (case c57 => k_is); (case k57 => k_is); (case a58 => k_is); (case i58 => k_is); (case l58 => k_is); (case c58 => k_is); (case k58 => k_is); (case a59 => k_is); (case i59 => k_is); (case l59 => k_is); (case c59 => k_is); (case k59 => k_is); (case z1 => k_is); (case z2 => k_is); (case z3 => k_is); (case z4 => k_is); (case z5 => k_is); (case z6 => k_is); (case z7 => k_is); (case z8 => k_is); (case z9 => k_is); (case z10 => k_is); (case z11 => k_is); (case z12 => k_is); (case aF => k_is); (case aN => k_is); (case lN => k_is); (case aO => k_is); (case aW => k_is); (case aM => k_is); (case aG => k_is); (case lG => k_is)
#print axioms PySem.Challenge.cw_everstock_k75_whole_more_is_never_worse_holds
