import PyProof.Rows.All
import Wide.All
import OpenK.AllK
import Wide.FinOn
import HandS.ForMost
import HandS.Codes
import HandS.IsInst
import HandS.Walk
import HandS.Zip
import HandS.TupSets
import HandS.SortOrd
import HandS.NamedTupSort
import HandS.TupMul
import HandS.TupAny
import HandS.Flt
import HandS.Style
import KE.DataMinMax
import HandS.Zip0
import HandS.Conv
import PySem.Challenge.RW_everstock_k04_whole_what_lasts
set_option Elab.async false
set_option linter.all false
set_option maxRecDepth 100000
set_option maxHeartbeats 4000000
namespace My
open PySem PySem.Spec PyProof.Rows L2
/-! ### the tables of sets of tuples, up to 4914 of them -/
/-- each slot begins a run early enough -/
structure MOk (m : Nat) : Prop where
  full : ∀ (h : Int) (j : Nat), j ≤ m → ∃ n, n ≤ m + 12 ∧ runI m (SetTable.bits h) n = j
  odd : m % 2 = 1
  few : m ≤ 9000
theorem mok_of {m : Nat} (q : MaskOk m) : MOk m := ⟨fun h _ hj => run_meets q h hj, mask_odd q, by rcases q with rfl | rfl | rfl <;> decide⟩
/-- the slots that are met, as bits -/
def orb (m : Nat) : Nat → Nat → Nat → Nat
  | 0, _, acc => acc
  | n + 1, x, acc => orb m n ((x * 5 + 1) % (m + 1)) (acc ||| 2 ^ x)
theorem lcgI_front (m : Nat) : ∀ k x, lcgI m x (k + 1) = lcgI m ((x * 5 + 1) % (m + 1)) k
  | 0, _ => rfl
  | k + 1, x => by
    show (lcgI m x (k + 1) * 5 + 1) % (m + 1) = (lcgI m ((x * 5 + 1) % (m + 1)) k * 5 + 1) % (m + 1)
    rw [lcgI_front m k x]
theorem orb_bit (m : Nat) : ∀ n x acc j, (orb m n x acc).testBit j = true → acc.testBit j = true ∨ ∃ k, k < n ∧ lcgI m x k = j
  | 0, _, _, _, h => .inl h
  | n + 1, x, acc, j, h => by
    rcases orb_bit m n _ _ j h with z | ⟨k, hk, e⟩
    · rw [Nat.testBit_or, Bool.or_eq_true, Nat.testBit_two_pow, decide_eq_true_eq] at z
      rcases z with z | z
      · exact .inl z
      · exact .inr ⟨0, Nat.succ_pos n, z⟩
    · exact .inr ⟨k + 1, Nat.succ_lt_succ hk, (lcgI_front m k x).trans e⟩
theorem lcgI_plus (m x a : Nat) : ∀ k, lcgI m (lcgI m x a) k = lcgI m x (a + k)
  | 0 => rfl
  | k + 1 => by
    show (lcgI m (lcgI m x a) k * 5 + 1) % (m + 1) = (lcgI m x (a + k) * 5 + 1) % (m + 1)
    rw [lcgI_plus m x a k]
theorem mok_by {m : Nat} (c : orb m (m + 1) 0 0 = 2 ^ (m + 1) - 1) (r : lcgI m 0 (m + 1) = 0) (o : m % 2 = 1) (f : m ≤ 9000) : MOk m := by
  have hit : ∀ j, j ≤ m → ∃ b, b ≤ m ∧ lcgI m 0 b = j := fun j hj => by
    have z : (orb m (m + 1) 0 0).testBit j = true := by
      rw [c, Nat.testBit_two_pow_sub_one, decide_eq_true_eq]
      omega
    rcases orb_bit m _ _ _ j z with z | ⟨k, hk, e⟩
    · rw [Nat.zero_testBit] at z
      cases z
    · exact ⟨k, by omega, e⟩
  have again : ∀ k, lcgI m 0 (m + 1 + k) = lcgI m 0 k := fun k => by rw [← lcgI_plus, r]
  refine ⟨fun h j hj => ?_, o, f⟩
  obtain ⟨a, ha, ea⟩ := hit _ (runI_le m (SetTable.bits h) 12)
  obtain ⟨b, hb, eb⟩ := hit j hj
  have reach : ∃ k, k ≤ m ∧ lcgI m (runI m (SetTable.bits h) 12) k = j := by
    rw [← ea]
    by_cases lt : b < a
    · refine ⟨b + (m + 1) - a, by omega, ?_⟩
      rw [lcgI_plus, show a + (b + (m + 1) - a) = m + 1 + b by omega, again, eb]
    · exact ⟨b - a, by omega, by rw [lcgI_plus, show a + (b - a) = b by omega, eb]⟩
  obtain ⟨k, hk, e⟩ := reach
  exact ⟨12 + k, by omega, (runI_tail (bits_lt h) k).trans e⟩
theorem mok_2047 : MOk 2047 := mok_by (by decide +kernel) (by decide +kernel) rfl (by decide)
theorem mok_8191 : MOk 8191 := mok_by (by decide +kernel) (by decide +kernel) rfl (by decide)
theorem mok_511 : MOk 511 := mok_by (by decide +kernel) (by decide +kernel) rfl (by decide)
theorem way_in {m : Nat} (h : Int) (k : Nat) : way m h k ≤ m := by
  have hi : SetTable.bits h % (m + 1) ≤ m := by have := Nat.mod_lt (SetTable.bits h) (show 0 < m + 1 by omega); omega
  have hr := runEnd_bd hi
  have z := nth_in k (runAt m (SetTable.bits h % (m + 1)) (SetTable.bits h)) (show SetTable.bits h % (m + 1) + (SetTable.runEnd m (SetTable.bits h % (m + 1)) - SetTable.bits h % (m + 1)) ≤ m by omega)
  exact Nat.le_trans (Nat.le_add_right _ _) z
theorem MOk.meets {m : Nat} (q : MOk m) (h : Int) {j : Nat} (hj : j ≤ m) : ∃ k, k < 10 * SetTable.turns m ∧ way m h k = j := by
  obtain ⟨n, hn, e⟩ := q.full h j hj
  obtain ⟨k, hk, z⟩ := run_nth m (SetTable.bits h) n
  exact ⟨k, by unfold SetTable.turns; omega, (congrArg SetTable.Probe.j z).trans e⟩

/-! ### a table that is found through -/
structure TabG (t : SetTable) (hs : List Int) : Prop where
  up : Ris t.place.toList
  nod : t.dummies = #[]
  cnt : t.place.size = hs.length
  mok : MOk t.mask
  le : ∀ x ∈ t.place.toList, x ≤ t.mask
  met : ∀ (i : Nat) (h : Int) (j : Nat), hs[i]? = some h → t.place.toList[i]? = some j → ∃ k, way t.mask h k = j ∧ ∀ c, c < k → way t.mask h c ∈ t.place.toList
theorem TabG.first {t : SetTable} {hs : List Int} (T : TabG t hs) (hl : hs.length ≤ t.mask) (h : Int) : ∃ K, K < 10 * SetTable.turns t.mask ∧ way t.mask h K ∉ t.place.toList ∧ ∀ c, c < K → way t.mask h c ∈ t.place.toList := by
  obtain ⟨j, hj, hn⟩ := st_missing t.place.toList (t.mask + 1) (by rw [Array.length_toList, T.cnt]; omega)
  obtain ⟨k, hk, e⟩ := T.mok.meets h (j := j) (by omega)
  subst e
  obtain ⟨K, h1, h2, h3⟩ := st_least (p := fun c => way t.mask h c ∉ t.place.toList) k hn
  exact ⟨K, by omega, h2, fun c hc => Classical.byContradiction fun z => h3 c hc z⟩
theorem TabG.ahead {t : SetTable} {hs : List Int} (T : TabG t hs) {h : Int} {K i j : Nat} (hK : way t.mask h K ∉ t.place.toList) (hi : hs[i]? = some h) (hj : t.place.toList[i]? = some j) : ∃ k, k < K ∧ way t.mask h k = j := by
  obtain ⟨k, e, hb⟩ := T.met i h j hi hj
  refine ⟨k, Nat.lt_of_not_le fun c => ?_, e⟩
  rcases Nat.lt_or_eq_of_le c with c | c
  · exact hK (hb K c)
  · rw [c, e] at hK
    exact hK (List.mem_of_getElem? hj)
theorem TabG.put {t : SetTable} {hs : List Int} (T : TabG t hs) {h : Int} {K : Nat} (hK : way t.mask h K ∉ t.place.toList) (hb : ∀ c, c < K → way t.mask h c ∈ t.place.toList) {p : Nat} (hp : p = SetTable.below t.place (way t.mask h K)) :
    (t.put (way t.mask h K)).2 = p ∧ p ≤ hs.length ∧ TabG (t.put (way t.mask h K)).1 (hs.take p ++ h :: hs.drop p) ∧ (t.put (way t.mask h K)).1.fill = hs.length + 1 := by
  subst hp
  have wl := way_in (m := t.mask) h K
  obtain ⟨cut, _, _⟩ := below_cut T.up (way t.mask h K)
  have l1 : SetTable.below t.place (way t.mask h K) ≤ t.place.toList.length := by rw [Array.length_toList]; exact cut
  have l2 : SetTable.below t.place (way t.mask h K) ≤ hs.length := by rw [← T.cnt]; exact cut
  have l3 : t.place.toList.length = hs.length := by rw [Array.length_toList, T.cnt]
  have pl := put_place t (way t.mask h K)
  have sz : (t.put (way t.mask h K)).1.place.size = hs.length + 1 := by rw [← Array.length_toList, pl, len_ins _ l1, l3]
  have more : ∀ {x : Nat}, x ∈ t.place.toList → x ∈ (t.put (way t.mask h K)).1.place.toList := fun m => by rw [pl]; exact mem_ins.2 (.inr m)
  have fr : t.place[SetTable.below t.place (way t.mask h K)]? ≠ some (way t.mask h K) := fun e => hK (List.mem_of_getElem? (by rw [Array.getElem?_toList]; exact e))
  refine ⟨rfl, l2, ⟨ris_insert T.up fr, put_dm T.nod _, by rw [len_ins _ l2]; exact sz, T.mok, fun x hx => ?_, fun i g j a b => ?_⟩, ?_⟩
  · rw [pl] at hx
    rcases mem_ins.1 hx with rfl | z
    · exact wl
    · exact T.le x z
  · rw [pl, tins_get _ l1] at b
    rw [tins_get hs l2] at a
    show ∃ k, way t.mask g k = j ∧ ∀ c, c < k → way t.mask g c ∈ (t.put (way t.mask h K)).1.place.toList
    rcases Nat.lt_trichotomy i (SetTable.below t.place (way t.mask h K)) with c | c | c
    · rw [if_pos c] at a b
      obtain ⟨k, e, z⟩ := T.met i g j a b
      exact ⟨k, e, fun c hc => more (z c hc)⟩
    · rw [if_neg (by omega), if_pos c] at a b
      cases a
      cases b
      exact ⟨K, rfl, fun c hc => more (hb c hc)⟩
    · rw [if_neg (by omega), if_neg (by omega)] at a b
      obtain ⟨k, e, z⟩ := T.met _ g j a b
      exact ⟨k, e, fun c hc => more (z c hc)⟩
  · unfold SetTable.fill
    rw [sz, put_dm T.nod]
    rfl

/-! ### laid anew -/
theorem free_at {m : Nat} (q : MOk m) (owner : Array (Option Nat)) (h : Int) {j : Nat} (hj : j ≤ m) (hf : oAt owner j = none) :
    ∃ K, SetTable.layClean.free m owner (SetTable.turns m) (SetTable.bits h % (m + 1)) (SetTable.bits h) = some (way m h K) ∧ oAt owner (way m h K) = none ∧ ∀ c, c < K → oAt owner (way m h c) ≠ none := by
  obtain ⟨n, hn, e⟩ := q.full h j hj
  have hw : way m h (off m (SetTable.bits h % (m + 1)) (SetTable.bits h) n) = j := by
    unfold way
    rw [nth_off, itL_run]
    exact e
  obtain ⟨K, k1, k2, k3⟩ := st_least (p := fun c => oAt owner (way m h c) = none) (off m (SetTable.bits h % (m + 1)) (SetTable.bits h) n) (hw.symm ▸ hf)
  refine ⟨K, free_spec m owner _ n _ _ K (by unfold SetTable.turns; omega) k1 (fun c hc => ?_) (Option.isNone_iff_eq_none.mpr k2), k2, k3⟩
  cases z : oAt owner (way m h c) with
  | none => exact absurd z (k3 c hc)
  | some v => rfl
theorem own_more {m : Nat} (q : MOk m) {done : List Int} {owner : Array (Option Nat)} (W : Own m done owner) (hl : done.length ≤ m) (h : Int) :
    ∃ j, SetTable.layClean.free m owner (SetTable.turns m) (SetTable.bits h % (m + 1)) (SetTable.bits h) = some j ∧ Own m (done ++ [h]) (owner.setIfInBounds j (some done.length)) := by
  obtain ⟨ps, hps, hin⟩ := W.ps
  obtain ⟨j0, h0, hn0⟩ := st_missing ps (m + 1) (by omega)
  have hj0 : oAt owner j0 = none := Classical.byContradiction fun z => hn0 (hin j0 (by omega) z)
  obtain ⟨K, e1, e2, e3⟩ := free_at q owner h (by omega) hj0
  have wl := way_in (m := m) h K
  have at0 := oAt_set_self (owner := owner) (some done.length) (show way m h K < owner.size by rw [W.sz]; omega)
  have oth : ∀ {i}, i ≠ way m h K → oAt (owner.setIfInBounds (way m h K) (some done.length)) i = oAt owner i := fun c => oAt_set_ne _ c
  have stays : ∀ {i : Nat}, oAt owner i ≠ none → oAt (owner.setIfInBounds (way m h K) (some done.length)) i ≠ none := fun {i} hi => by
    by_cases c : i = way m h K
    · rw [c, at0]
      simp
    · rw [oth c]
      exact hi
  refine ⟨_, e1, by rw [Array.size_setIfInBounds, W.sz], fun j k hj e => ?_, fun k hk => ?_, way m h K :: ps, by simp [hps], fun j hj e => ?_⟩
  · by_cases c : j = way m h K
    · rw [c, at0] at e
      cases e
      exact ⟨h, K, by simp, c.symm, fun c hc => stays (e3 c hc)⟩
    · rw [oth c] at e
      obtain ⟨g, G, a1, a2, a3⟩ := W.at_ j k hj e
      exact ⟨g, G, by rw [List.getElem?_append_left (List.getElem?_eq_some_iff.mp a1).1, a1], a2, fun c hc => stays (a3 c hc)⟩
  · rcases Nat.lt_or_eq_of_le (show k ≤ done.length by simp at hk; omega) with c | rfl
    · obtain ⟨j, hj, e⟩ := W.all k c
      exact ⟨j, hj, by rw [oth fun z => by rw [z, e2] at e; cases e]; exact e⟩
    · exact ⟨_, wl, at0⟩
  · by_cases c : j = way m h K
    · simp [c]
    · rw [oth c] at e
      exact List.mem_cons_of_mem _ (hin j hj e)
theorem own_all {m : Nat} (q : MOk m) : ∀ (rest done : List Int) (owner : Array (Option Nat)), Own m done owner → done.length + rest.length ≤ m →
    ∃ o', rest.foldl (stepF m) (some (owner, done.length)) = some (o', (done ++ rest).length) ∧ Own m (done ++ rest) o'
  | [], done, owner, W, _ => ⟨owner, by simp, by simpa using W⟩
  | h :: rest, done, owner, W, hl => by
    simp only [List.length_cons] at hl
    obtain ⟨j, e, W'⟩ := own_more q W (by omega) h
    obtain ⟨o', f, W2⟩ := own_all q rest (done ++ [h]) _ W' (by simp; omega)
    refine ⟨o', ?_, by simpa using W2⟩
    rw [List.foldl_cons, stepF_some e]
    simpa using f
theorem laid_all {m : Nat} (q : MOk m) {hs : Array Int} (hn : hs.size ≤ m) : ∃ owner, SetTable.layClean m hs = some owner ∧ Own m hs.toList owner := by
  obtain ⟨o', f, W⟩ := own_all q hs.toList [] _ (Own.init m) (by simpa using hn)
  exact ⟨o', by rw [layClean_eq, show (0 : Nat) = ([] : List Int).length from rfl, f]; rfl, by simpa using W⟩
theorem relaid_all (t : SetTable) {hs : Array Int} {wanted M : Nat} (hw : SetTable.sizeAbove wanted - 1 = M) (q : MOk M) (hn : hs.size ≤ M) :
    ∃ t' order, t.relaid hs wanted = some (t', order) ∧ order.toList.Perm (List.range hs.size) ∧ TabG t' (order.toList.map fun i => hs.getD i 0) ∧ t'.mask = M ∧ t'.led = t.led ∧ t'.plain = t.plain ∧ t'.dummies = #[] := by
  obtain ⟨owner, e, W⟩ := laid_all q hn
  have ris := ris_live (fun j => owner.getD j none) (List.range (M + 1)) (by unfold Ris; exact List.pairwise_lt_range)
  have r1 : Ris ((liveOf M owner).map (·.1)) := ris.1
  have nd : ((liveOf M owner).map (·.1)).Nodup := r1.imp Nat.ne_of_lt
  have cnt : (liveOf M owner).length = hs.size := by
    obtain ⟨ps, p1, p2⟩ := W.ps
    refine Nat.le_antisymm ?_ ?_
    · have z := nat_nodup_len ((liveOf M owner).map (·.1)) ps nd fun x hx => by
        obtain ⟨⟨y, k⟩, hq, rfl⟩ := List.mem_map.mp hx
        obtain ⟨b1, b2⟩ := (mem_live W.sz).1 hq
        exact p2 y b1 (by rw [b2]; simp)
      rwa [List.length_map, p1, Array.length_toList] at z
    · have z := nat_nodup_len (List.range hs.size) ((liveOf M owner).map (·.2)) List.nodup_range fun k hk => by
        obtain ⟨j, b1, b2⟩ := W.all k (by simpa using hk)
        exact List.mem_map.mpr ⟨(j, k), (mem_live W.sz).2 ⟨b1, b2⟩, rfl⟩
      rwa [List.length_map, List.length_range] at z
  refine ⟨tabOf t M owner, ((liveOf M owner).map (·.2)).toArray, by rw [relaid_eq, hw, e]; rfl, ?_, ⟨r1, rfl, ?_, q, fun x hx => ?_, fun i g j a b => ?_⟩, rfl, rfl, rfl, rfl⟩
  · refine perm_range _ _ (by show ((liveOf M owner).map (·.2)).length = _; rw [List.length_map, cnt]) fun k hk => ?_
    obtain ⟨j, b1, b2⟩ := W.all k (by simpa using hk)
    exact List.mem_map.mpr ⟨(j, k), (mem_live W.sz).2 ⟨b1, b2⟩, rfl⟩
  · show ((liveOf M owner).map (·.1)).toArray.size = (((liveOf M owner).map (·.2)).map fun i => hs.getD i 0).length
    simp
  · obtain ⟨⟨y, k⟩, hq, rfl⟩ := List.mem_map.mp (show x ∈ (liveOf M owner).map (·.1) from hx)
    exact ((mem_live W.sz).1 hq).1
  · have a' : (((liveOf M owner).map (·.2)).map fun i => hs.getD i 0)[i]? = some g := a
    have b' : ((liveOf M owner).map (·.1))[i]? = some j := b
    simp only [List.getElem?_map, Option.map_map, Option.map_eq_some_iff] at a' b'
    obtain ⟨⟨y, k⟩, hq, ea⟩ := a'
    obtain ⟨z, hz, eb⟩ := b'
    rw [hq] at hz
    cases hz
    subst eb
    obtain ⟨b1, b2⟩ := (mem_live W.sz).1 (List.mem_of_getElem? hq)
    obtain ⟨h0, K, a1, a2, a3⟩ := W.at_ y k b1 b2
    have e0 : hs.getD k 0 = h0 := by
      rw [Array.getD_eq_getD_getElem?, ← Array.getElem?_toList, a1]
      rfl
    obtain rfl : h0 = g := e0.symm.trans ea
    refine ⟨K, a2, fun c hc => ?_⟩
    show way M h0 c ∈ (liveOf M owner).map (·.1)
    cases z : oAt owner (way M h0 c) with
    | none => exact absurd z (a3 c hc)
    | some k2 => exact List.mem_map.mpr ⟨(way M h0 c, k2), (mem_live W.sz).2 ⟨way_in h0 c, z⟩, rfl⟩
theorem grow_307 : SetTable.sizeAbove (SetTable.grown 307) = 2048 := by decide +kernel
theorem grow_1229 : SetTable.sizeAbove (SetTable.grown 1229) = 8192 := by decide +kernel
theorem grow_77 : SetTable.sizeAbove (SetTable.grown 77) = 512 := by decide +kernel
/-! ### a set of tuples of ints, in such a table -/
def Mk6 (m : Nat) : Prop := m = 7 ∨ m = 31 ∨ m = 127 ∨ m = 511 ∨ m = 2047 ∨ m = 8191
theorem Mk6.mok {m : Nat} (q : Mk6 m) : MOk m := by
  rcases q with h | h | h | h | h | h
  · exact mok_of (.inl h)
  · exact mok_of (.inr (.inl h))
  · exact mok_of (.inr (.inr h))
  · rw [h]; exact mok_511
  · rw [h]; exact mok_2047
  · rw [h]; exact mok_8191
theorem grow_next {m n : Nat} (q : Mk6 m) (room : n * 5 < m * 3) (full : (n + 1) * 5 ≥ m * 3) (few : n + 1 < 4915) :
    ∃ M, SetTable.sizeAbove (SetTable.grown (n + 1)) - 1 = M ∧ Mk6 M ∧ SetTable.sizeAbove (SetTable.grown (n + 1)) ≤ 8192 ∧ (n + 1) * 5 < M * 3 ∧ n + 1 ≤ m := by
  rcases q with h | h | h | h | h | h <;> subst h
  · obtain rfl : n = 4 := by omega
    exact ⟨31, by rw [size_20], .inr (.inl rfl), by rw [size_20]; decide, by decide, by decide⟩
  · obtain rfl : n = 18 := by omega
    exact ⟨127, by rw [size_76], .inr (.inr (.inl rfl)), by rw [size_76]; decide, by decide, by decide⟩
  · obtain rfl : n = 76 := by omega
    exact ⟨511, by rw [grow_77], .inr (.inr (.inr (.inl rfl))), by rw [grow_77]; decide, by decide, by decide⟩
  · obtain rfl : n = 306 := by omega
    exact ⟨2047, by rw [grow_307], .inr (.inr (.inr (.inr (.inl rfl)))), by rw [grow_307]; decide, by decide, by decide⟩
  · obtain rfl : n = 1228 := by omega
    exact ⟨8191, by rw [grow_1229], .inr (.inr (.inr (.inr (.inr rfl)))), by rw [grow_1229]; decide, by decide, by decide⟩
  · omega
structure SetG (P : Program) (w : World) (h : Heap) (a : Addr) (L : List (Addr × List Int)) (es : Array (Int × Value)) (ep : Nat) (t : SetTable) : Prop where
  obj : ∃ u, h.get? a = some u ∧ u.ExactSet ∧ u.data = .set es ep t
  rws : es.toList = rowsOf P w L
  tb : TabG t (L.map fun p => thash P w p.2)
  once : (L.map (·.2)).Nodup
  tups : ∀ p ∈ L, IsT P w h p.2 p.1
  pla : t.plain = true
  ledd : w.params.followText "set-order" = true ∨ t.led = true
  rm : L.length * 5 < t.mask * 3
  few : L.length < 4915
  m6 : Mk6 t.mask
section
variable {P : Program} {w : World} {A : Around} {E : Value → Shared → Prop} {s : Shared} {a : Addr} {L : List (Addr × List Int)} {es : Array (Int × Value)} {ep : Nat} {t : SetTable}
theorem rows_size (h : es.toList = rowsOf P w L) : es.size = L.length := by
  rw [← Array.length_toList, h]
  simp [rowsOf]
theorem SetG.size {h : Heap} (R : SetG P w h a L es ep t) : es.size = L.length := rows_size R.rws
theorem SetG.cnt {h : Heap} (R : SetG P w h a L es ep t) : t.place.toList.length = L.length := by rw [Array.length_toList, R.tb.cnt, List.length_map]
theorem fits_by (h1 : t.place.size = es.size) (h2 : t.dummies = #[]) (h3 : es.size ≤ t.mask) : t.fits es.size = true := by
  unfold SetTable.fits SetTable.fill
  simp [h1, h2, h3]
theorem SetG.fits {h : Heap} (R : SetG P w h a L es ep t) : t.fits es.size = true := by
  have e := R.size
  have c := R.rm
  exact fits_by (by rw [R.tb.cnt, List.length_map, e]) R.tb.nod (by omega)
theorem SetG.row {h : Heap} (R : SetG P w h a L es ep t) {i : Nat} {p : Addr × List Int} (hp : L[i]? = some p) : es[i]? = some (thash P w p.2, Value.ref p.1) := by
  rw [← Array.getElem?_toList, R.rws]
  unfold rowsOf
  simp [hp]
theorem SetG.keeps {h : Heap} (R : SetG P w h a L es ep t) : ¬ t.gaveWay = true := by
  unfold SetTable.gaveWay
  rw [R.m6.mok.odd]
  decide
theorem nth_nod (m : Nat) : ∀ (n : Nat) (p : SetTable.Probe), p.dummy = none → (nth m p n).dummy = none
  | 0, _, h => h
  | n + 1, p, h => nth_nod m n (adv m p) (by unfold adv; split <;> exact h)
/-- the search, from the c-th slot of the way on -/
theorem find_from (R : SetG P w s.heap a L es ep t) {x : Addr} {k : List Int} (hx : IsT P w s.heap k x) (hu : A.units < cLine) {K : Nat} (hKf : K < 10 * SetTable.turns t.mask)
    (hK : way t.mask (thash P w k) K ∉ t.place.toList) (hKb : ∀ c, c < K → way t.mask (thash P w k) c ∈ t.place.toList) {Q : SetFound → Shared → Prop}
    (yes : k ∈ L.map (·.2) → Q (.there none) s) (no : k ∉ L.map (·.2) → Q (.free (way t.mask (thash P w k) K) false) s) :
    ∀ (f c : Nat) (stand : Option SetTable.Probe), stand.getD (t.probeStart (thash P w k)) = nth t.mask (t.probeStart (thash P w k)) c → c ≤ K → K - c < f →
      (∀ (i : Nat) p, L[i]? = some p → p.2 = k → ∃ b, c ≤ b ∧ b < K ∧ t.place.toList[i]? = some (way t.mask (thash P w k) b)) →
      wpAny (model P w) A (setSearchFrom a (.ref x) (thash P w k) true f stand) Q E s
  | 0, _, _, _, _, z, _ => absurd z (Nat.not_lt_zero _)
  | f + 1, c, stand, hst, hc, hf, hre => by
    obtain ⟨u, hu1, hu2, hu3⟩ := R.obj
    have at_ : ∀ q, nth t.mask (nth t.mask (t.probeStart (thash P w k)) c) q = nth t.mask (t.probeStart (thash P w k)) (c + q) := fun q => (nth_add t.mask c _ q).symm
    have jt : ∀ q, (nth t.mask (nth t.mask (t.probeStart (thash P w k)) c) q).j = way t.mask (thash P w k) (c + q) := fun q => by rw [at_]; rfl
    have cK : c + (K - c) = K := by omega
    have spec := go_spec t R.tb.up R.tb.nod (fun i => (es[i]?.map (·.1)).getD 0) (thash P w k) (10 * SetTable.turns t.mask) (K - c) (nth t.mask (t.probeStart (thash P w k)) c) (nth_nod _ c _ rfl) (by omega)
      (fun q hq => by rw [jt]; exact hKb _ (by omega)) (by rw [jt, cK]; exact hK)
    have hashOf : ∀ (i : Nat) p, L[i]? = some p → (es[i]?.map (·.1)).getD 0 = thash P w p.2 := fun i p hp => by rw [R.row hp]; rfl
    rw [setSearchFrom_succ]
    refine wpAny_bind (wpAny_setState_of hu1 hu3 R.fits ?_)
    dsimp only
    refine wp_if_neg R.keeps ?_
    try refine wpAny_bind (wpAny_pure ?_)
    rw [hst]
    rcases spec with ⟨q, i, hq, hi, hh, hno, hpr⟩ | ⟨hno, hpr⟩
    · rw [show t.probe (fun i => (es[i]?.map (·.1)).getD 0) (thash P w k) (nth t.mask (t.probeStart (thash P w k)) c) = _ from hpr]
      dsimp only
      rw [jt] at hi ⊢
      rw [at_]
      obtain ⟨p, hp⟩ : ∃ p, L[i]? = some p := ⟨_, List.getElem?_eq_getElem (by rw [← R.cnt]; exact (List.getElem?_eq_some_iff.mp hi).1)⟩
      have pm := List.mem_of_getElem? hp
      have sl : t.slot (way t.mask (thash P w k) (c + q)) = .live i := slot_live R.tb.up hi
      have go : wpAny (model P w) A (searchRest a (.ref x) (thash P w k) true f es t (way t.mask (thash P w k) (c + q)) i (nth t.mask (t.probeStart (thash P w k)) (c + (q + 1)))) Q E s := by
        unfold searchRest
        rw [R.row hp]
        dsimp only
        refine wpAny_bind (wpAny_holding (wpAny_eqBool_tuple hu (R.tups p pm) hx ?_))
        refine wpAny_bind (wpAny_setState_of hu1 hu3 R.fits ?_)
        dsimp only
        by_cases same : p.2 = k
        · exact wp_if_pos (by simp [same]) (wpAny_pure (yes (List.mem_map.mpr ⟨p, pm, same⟩)))
        · refine wp_if_neg (by simp [same]) ?_
          try refine wpAny_bind (wpAny_pure ?_)
          rw [sameMem]
          simp only [if_true, sl, R.row hp]
          refine wpAny_bind (wpAny_isSame_ref_self (wpAny_bind (wpAny_pure ?_)))
          simp only [if_true]
          refine wp_if_neg (by simp [same]) (find_from R hx hu hKf hK hKb yes no f (c + (q + 1)) _ rfl (by omega) (by omega) fun i0 p0 h0 hk0 => ?_)
          obtain ⟨b, b1, b2, b3⟩ := hre i0 p0 h0 hk0
          refine ⟨b, ?_, b2, b3⟩
          rcases Nat.lt_trichotomy b (c + q) with z | z | z
          · refine absurd ((hashOf i0 p0 h0).trans (congrArg (thash P w) hk0)) (hno (b - c) i0 (by omega) ?_)
            rw [jt, show c + (b - c) = b by omega]
            exact b3
          · rw [z] at b3
            have e := slot_live R.tb.up b3
            rw [sl] at e
            cases e
            rw [hp] at h0
            cases h0
            exact absurd hk0 same
          · omega
      by_cases ld : t.led = true
      · refine wp_if_neg (by simp [ld]) ?_
        try refine wpAny_bind (wpAny_pure ?_)
        exact go
      · refine wp_if_pos (by simp [ld]) (wpAny_bind (seen_tup hx (fun y hy => ?_) ?_))
        · obtain ⟨r, hr, rfl⟩ := List.mem_map.mp hy
          have hr2 : r ∈ es.toList := by
            have := (Array.mem_filter.mp (Array.mem_toList_iff.mp hr)).1
            exact Array.mem_toList_iff.mpr this
          rw [R.rws] at hr2
          obtain ⟨p2, hp2, rfl⟩ := List.mem_map.mp hr2
          exact ⟨p2.2, p2.1, rfl, R.tups p2 hp2⟩
        · refine wp_if_neg (by decide) ?_
          try refine wpAny_bind (wpAny_pure ?_)
          exact go
    · rw [show t.probe (fun i => (es[i]?.map (·.1)).getD 0) (thash P w k) (nth t.mask (t.probeStart (thash P w k)) c) = _ from hpr]
      dsimp only
      rw [jt, cK]
      refine wpAny_pure (no fun hm => ?_)
      obtain ⟨p0, h0, hk0⟩ := List.mem_map.mp hm
      obtain ⟨i0, h00⟩ := List.mem_iff_getElem?.mp h0
      obtain ⟨b, b1, b2, b3⟩ := hre i0 p0 h00 hk0
      refine hno (b - c) i0 (by omega) ?_ ((hashOf i0 p0 h00).trans (congrArg (thash P w) hk0))
      rw [jt, show c + (b - c) = b by omega]
      exact b3
theorem find_at (R : SetG P w s.heap a L es ep t) {x : Addr} {k : List Int} (hx : IsT P w s.heap k x) (hu : A.units < cLine) {Q : SetFound → Shared → Prop}
    (yes : k ∈ L.map (·.2) → Q (.there none) s)
    (no : ∀ K, k ∉ L.map (·.2) → way t.mask (thash P w k) K ∉ t.place.toList → (∀ c, c < K → way t.mask (thash P w k) c ∈ t.place.toList) → Q (.free (way t.mask (thash P w k) K) false) s) :
    wpAny (model P w) A (setSearch a (.ref x) (thash P w k) true) Q E s := by
  have c := R.rm
  have few := R.m6.mok.few
  obtain ⟨K, hKf, hK, hKb⟩ := R.tb.first (by rw [List.length_map]; omega) (thash P w k)
  have big : K < 100000 := by
    unfold SetTable.turns at hKf
    omega
  refine find_from R hx hu hKf hK hKb yes (fun n => no K n hK hKb) 100000 0 none rfl (Nat.zero_le _) (by omega) fun i p hp e => ?_
  obtain ⟨j, hj⟩ : ∃ j, t.place.toList[i]? = some j := ⟨_, List.getElem?_eq_getElem (by rw [R.cnt]; exact (List.getElem?_eq_some_iff.mp hp).1)⟩
  obtain ⟨b, hb, eb⟩ := R.tb.ahead hK (h := thash P w k) (i := i) (by rw [List.getElem?_map, hp, ← e]; rfl) hj
  exact ⟨b, Nat.zero_le _, hb, by rw [hj, eb]⟩
theorem relay_all {o : Obj} (ho : s.heap.get? a = some o) (hex : o.ExactSet) (hd : o.data = .set es ep t) (hr : es.toList = rowsOf P w L) (hsz : t.place.size = es.size) (hdm : t.dummies = #[]) (hfl : es.size ≤ t.mask)
    (nd : (L.map (·.2)).Nodup) (tp : ∀ p ∈ L, IsT P w s.heap p.2 p.1) (pl : t.plain = true) (ld : w.params.followText "set-order" = true ∨ t.led = true) (few : L.length < 4915) {wanted M : Nat}
    (hw : SetTable.sizeAbove wanted - 1 = M) (hM : Mk6 M) (hw2 : SetTable.sizeAbove wanted ≤ 8192) (hn : L.length * 5 < M * 3) {Q : Unit → Shared → Prop}
    (hQ : ∀ h' L' es' ep' t', Heap.SameBut a s.heap h' → SetG P w h' a L' es' ep' t' → L'.Perm L → Q () { s with heap := h' }) : wpAny (model P w) A (setRelay a wanted) Q E s := by
  have sl := rows_size hr
  obtain ⟨t', order, e, hp, T, em, el, epl, ed⟩ := relaid_all t (hs := es.map (·.1)) hw hM.mok (by rw [Array.size_map, sl]; omega)
  rw [Array.size_map, sl] at hp
  obtain ⟨L2, r1, r2, r3⟩ := order_rows L es order hr hp
  rw [← r3] at T
  have s2 : (order.filterMap (es[·]?)).size = es.size := (rows_size r1).trans (r2.length_eq.trans sl.symm)
  rw [setRelay_eq]
  refine wpAny_bind (wpAny_setState_of ho hd (fits_by hsz hdm hfl) ?_)
  dsimp only
  refine wp_if_neg (by rw [sizeLine_eq]; omega) ?_
  try refine wpAny_bind (wpAny_pure ?_)
  rw [e]
  refine wpAny_bind (wp_if_neg (by rw [s2]; simp) ?_)
  try refine wpAny_bind (wpAny_pure ?_)
  refine wpAny_pure (wpAny_storeSet_of ho hd ?_ (by rw [s2, sl, sizeLine_eq]; omega))
  have sb : Heap.SameBut a s.heap (s.heap.update a (Obj.putSet (order.filterMap (es[·]?)) t')) := Heap.SameBut.update ..
  exact hQ _ L2 _ (ep + 1) t' sb ⟨⟨_, store_at ho hd, ⟨hex.1, hex.2.1, hex.2.2⟩, rfl⟩, r1, T, (r2.map (·.2)).nodup_iff.mpr nd, fun p pm => isT_same (tp p (r2.mem_iff.mp pm)) ho hd sb, by rw [epl]; exact pl, by rw [el]; exact ld,
    by rw [r2.length_eq, em]; exact hn, by rw [r2.length_eq]; exact few, by rw [em]; exact hM⟩ r2
/-- a tuple is added -/
theorem add_one (R : SetG P w s.heap a L es ep t) {x : Addr} {k : List Int} (hx : IsT P w s.heap k x) (hu : A.units < cLine) (fw : k ∉ L.map (·.2) → L.length + 1 < 4915) {Q : Bool → Shared → Prop}
    (hQ : ∀ b h' L' es' ep' t', Heap.SameBut a s.heap h' → SetG P w h' a L' es' ep' t' → (k ∈ L.map (·.2) → L' = L) → (k ∉ L.map (·.2) → L'.Perm ((x, k) :: L)) → Q b { s with heap := h' }) :
    wpAny (model P w) A (setAddHashed a (.ref x) (thash P w k)) Q E s := by
  obtain ⟨o, ho, hex, hd⟩ := R.obj
  have sl := R.size
  have rm := R.rm
  unfold setAddHashed
  refine wpAny_holding ?_
  rw [show (100000 : Nat) = 99999 + 1 from rfl, setAddHashedIn_succ]
  refine wpAny_bind (wpAny_setState_of ho hd R.fits ?_)
  dsimp only
  refine wp_if_neg (by simp [byScan, Value.scannable]) ?_
  try refine wpAny_bind (wpAny_pure ?_)
  refine wpAny_bind (find_at R hx hu (fun hm => wpAny_pure (hQ false s.heap L es ep t (Heap.SameBut.refl a s.heap) R (fun _ => rfl) fun z => absurd hm z)) fun K hm hK hb => ?_)
  have fw := fw hm
  dsimp only
  refine wpAny_bind (wpAny_setState_of ho hd R.fits ?_)
  dsimp only
  obtain ⟨q1, q2, q3, q9⟩ := R.tb.put hK hb rfl
  have q4 : (t.put (way t.mask (thash P w k) K)).1.mask = t.mask := rfl
  have q5 : (t.put (way t.mask (thash P w k) K)).1.led = t.led := rfl
  have q6 : (t.put (way t.mask (thash P w k) K)).1.plain = true := R.pla
  generalize hpt : t.put (way t.mask (thash P w k) K) = pt at q1 q3 q4 q5 q6 q9 ⊢
  generalize SetTable.below t.place (way t.mask (thash P w k) K) = p at q1 q2 q3
  obtain ⟨t1, p'⟩ := pt
  dsimp only at q1 q3 q4 q5 q6 q9 ⊢
  subst q1
  first
    | refine wpAny_bind (wp_if_pos q6 (hashBy_tup hx ?_))
    | refine wp_if_pos q6 (wpAny_bind (hashBy_tup hx ?_))
  simp only [if_true]
  have hin : (SetTable.insertAt es p' (thash P w k, Value.ref x)).toList = rowsOf P w (L.take p' ++ (x, k) :: L.drop p') := by rw [SetTable.toList_insertAt, rows_put, R.rws]
  have pm := put_perm L p' (x, k)
  have ln : (L.take p' ++ (x, k) :: L.drop p').length = L.length + 1 := pm.length_eq
  have q3' : TabG t1 ((L.take p' ++ (x, k) :: L.drop p').map fun p => thash P w p.2) := by
    rw [List.map_append, List.map_cons, List.map_take, List.map_drop]
    exact q3
  have nd1 : ((L.take p' ++ (x, k) :: L.drop p').map (·.2)).Nodup := (pm.map (·.2)).nodup_iff.mpr (by rw [List.map_cons]; exact List.nodup_cons.mpr ⟨hm, R.once⟩)
  have es1s : (SetTable.insertAt es p' (thash P w k, Value.ref x)).size = L.length + 1 := (rows_size hin).trans ln
  generalize SetTable.insertAt es p' (thash P w k, Value.ref x) = es1 at hin es1s ⊢
  generalize L.take p' ++ (x, k) :: L.drop p' = L1 at pm ln q3' nd1 hin
  refine wpAny_bind (wpAny_storeSet_of ho hd ?_ (by rw [es1s, sizeLine_eq]; omega))
  have sb : Heap.SameBut a s.heap (s.heap.update a (Obj.putSet es1 t1)) := Heap.SameBut.update ..
  have ho1 := store_at (es' := es1) (t' := t1) ho hd
  generalize s.heap.update a (Obj.putSet es1 t1) = h1 at sb ho1 ⊢
  have tp1 : ∀ p ∈ L1, IsT P w h1 p.2 p.1 := fun p hp => by
    rcases List.mem_cons.mp (pm.mem_iff.mp hp) with rfl | hp
    · exact isT_same hx ho hd sb
    · exact isT_same (R.tups p hp) ho hd sb
  have ld1 : w.params.followText "set-order" = true ∨ t1.led = true := by rw [q5]; exact R.ledd
  have m61 : Mk6 t1.mask := by rw [q4]; exact R.m6
  rw [List.length_map] at q9
  by_cases hf : t1.tooFull = true
  · have full : (L.length + 1) * 5 ≥ t.mask * 3 := by
      unfold SetTable.tooFull at hf
      rw [decide_eq_true_eq, q9, q4] at hf
      exact hf
    obtain ⟨M, g1, g2, g3, g4, g5⟩ := grow_next R.m6 rm full fw
    rw [sl]
    have pl1 : t1.place.size = es1.size := by rw [q3'.cnt, List.length_map, ln, es1s]
    have go : wpAny (model P w) A (setRelay a (SetTable.grown (L.length + 1))) (fun _ s' => wpAny (model P w) A (pure true) Q E s') E { s with heap := h1 } :=
      relay_all (s := { s with heap := h1 }) ho1 ⟨hex.1, hex.2.1, hex.2.2⟩ rfl hin pl1 q3'.nod (by rw [es1s, q4]; exact g5) nd1 tp1 q6 ld1 (by rw [ln]; exact fw) g1 g2 g3 (by rw [ln]; exact g4)
        fun h2 L2 es2 ep2 t2 sb2 R2 pm2 => wpAny_pure (hQ true h2 L2 es2 ep2 t2 (sb.trans sb2) R2 (fun z => absurd z hm) fun _ => pm2.trans pm)
    first
      | exact wpAny_bind (wp_if_pos (by simp [hf]) go)
      | exact wp_if_pos (by simp [hf]) (wpAny_bind go)
  · have rm1 : L1.length * 5 < t1.mask * 3 := by
      unfold SetTable.tooFull at hf
      rw [decide_eq_true_eq, q9] at hf
      rw [ln]
      omega
    have done : wpAny (model P w) A (pure true) Q E { s with heap := h1 } :=
      wpAny_pure (hQ true h1 L1 es1 (ep + 1) t1 sb ⟨⟨_, ho1, ⟨hex.1, hex.2.1, hex.2.2⟩, rfl⟩, hin, q3', nd1, tp1, q6, ld1, rm1, by rw [ln]; exact fw, m61⟩ (fun z => absurd z hm) fun _ => pm)
    first
      | exact wp_if_neg (by simp [hf]) done
      | exact wpAny_bind (wp_if_neg (by simp [hf]) (wpAny_pure done))
end
/-! ### set(xs), xs a list of tuples of ints of any length; U: keys that they are among -/
theorem len_among {α : Type} [DecidableEq α] : ∀ (l D : List α), l.Nodup → (∀ x ∈ l, x ∈ D) → l.length ≤ D.length
  | [], _, _, _ => Nat.zero_le _
  | x :: l, D, nd, h => by
    obtain ⟨hx, nd'⟩ := List.nodup_cons.mp nd
    have hD := h x List.mem_cons_self
    have z := len_among l (D.erase x) nd' fun y hy => (List.mem_erase_of_ne (fun e => hx (by rw [← e]; exact hy))).2 (h y (List.mem_cons_of_mem _ hy))
    rw [List.length_erase_of_mem hD] at z
    have := List.length_pos_of_mem hD
    rw [List.length_cons]
    omega
abbrev newSetO (w : World) : Obj := { cls := .type "set", dict := none, data := .set #[] 0 (.fresh 0 0 (!w.params.followText "set-order")) }
section
variable {P : Program} {w : World} {A : Around} {E : Value → Shared → Prop} {s : Shared}
theorem SetG.moved {h h' : Heap} {a : Addr} {L : List (Addr × List Int)} {es : Array (Int × Value)} {ep : Nat} {t : SetTable} (R : SetG P w h a L es ep t) (ha : ∀ o, h.get? a = some o → h'.get? a = some o) (ht : ∀ p ∈ L, IsT P w h' p.2 p.1) : SetG P w h' a L es ep t :=
  { R with
    obj := let ⟨u, hu, r⟩ := R.obj
      ⟨u, ha u hu, r⟩
    tups := ht }
theorem setG_new {h : Heap} {a : Addr} (ho : h.get? a = some (newSetO w)) : SetG P w h a [] #[] 0 (.fresh 0 0 (!w.params.followText "set-order")) where
  obj := ⟨_, ho, ⟨rfl, rfl, rfl⟩, rfl⟩
  rws := rfl
  tb := ⟨List.Pairwise.nil, rfl, rfl, mok_of (.inl rfl), fun x hx => (nomatch hx), fun i h j hi => (nomatch hi)⟩
  once := List.nodup_nil
  tups := fun p hp => nomatch hp
  pla := rfl
  ledd := by
    cases e : w.params.followText "set-order"
    · exact .inr rfl
    · exact .inl rfl
  rm := by show 0 < 21; decide
  few := by show 0 < 4915; decide
  m6 := .inl rfl
theorem update_all {I : Addr} {fp wr : List Addr} {G : Array GenState → Array GenState → Prop} {n : Nat} {Pv : Nat → Value → Prop} {St : Nat → Shared → Prop} {R : Result → Shared → Prop}
    (W : WalksS P w A.in1 I fp wr G n Pv St) (S : Addr) (hSf : S ∉ fp) (ks : List (Addr × List Int)) (U : List (List Int)) (hn : n = ks.length) (hU : U.length < 4915) (inU : ∀ p ∈ ks, p.2 ∈ U) (hval : ∀ i v, Pv i v → ∃ p, ks[i]? = some p ∧ v = .ref p.1)
    (b0 : Heap) (hk : ∀ p ∈ ks, IsT P w b0 p.2 p.1) (hS0 : b0.get? S = none) (hw0 : ∀ b ∈ wr, b0.get? b = none) (hu : A.in1.units < cLine) :
    ∀ (k i : Nat) (s : Shared), n - i = k → i ≤ n → St i s → (∀ b o, b0.get? b = some o → s.heap.get? b = some o) → (∃ L es ep t, SetG P w s.heap S L es ep t ∧ Got ks i L) →
      (∀ s' L es ep t, Moved (S :: wr) G s s' → SetG P w s'.heap S L es ep t → Got ks n L → (∀ b o, b0.get? b = some o → s'.heap.get? b = some o) → R (.ok (.ret .none)) s') →
      codeAny (model P w) A (.builtin "set.update.loop" ⟨[.ref S, .ref I], []⟩) R s := by
  have apart : S ∉ wr := fun h => hSf (W.sub _ h)
  have wide : ∀ b ∈ wr, b ∈ S :: wr := fun b hb => List.mem_cons_of_mem _ hb
  have stay : ∀ {s s' : Shared}, Moved wr G s s' → (∀ b o, b0.get? b = some o → s.heap.get? b = some o) → ∀ b o, b0.get? b = some o → s'.heap.get? b = some o := fun mv kp b o e =>
    mv.heap b o (fun hb => by rw [hw0 b hb] at e; cases e) (kp b o e)
  have amongL : ∀ {i L}, Got ks i L → ∀ p ∈ L, p ∈ ks := fun g p hp => List.mem_of_mem_take (g.sub p hp)
  intro k
  induction k with
  | zero =>
    intro i s hi0 hi hst kp ⟨L, es, ep, t, hS, g⟩ hR
    obtain rfl : i = n := by omega
    refine codeAny_builtin F.entry_set_update_loop ?_
    rw [Around.under_plainId F.plain_set_update_loop _]
    refine wpAny_bind (W.done s _ _ hst fun s' mv => ?_)
    have kp' := stay mv kp
    exact wpAny_pure (hR s' L es ep t (mv.mono wide) (hS.moved (fun o e => mv.heap S o apart e) fun p hp => isT_keep (hk p (amongL g p hp)) kp') g kp')
  | succ k ih =>
    intro i s hi0 hi hst kp ⟨L, es, ep, t, hS, g⟩ hR
    have lt : i < n := by omega
    refine codeAny_builtin F.entry_set_update_loop ?_
    rw [Around.under_plainId F.plain_set_update_loop _]
    refine wpAny_bind (W.item i s _ _ lt hst fun v s' hP hst' mv => ?_)
    obtain ⟨p, hp, rfl⟩ := hval i v hP
    have pk := List.mem_of_getElem? hp
    have kp' := stay mv kp
    have hS' : SetG P w s'.heap S L es ep t := hS.moved (fun o e => mv.heap S o apart e) fun q hq => isT_keep (hk q (amongL g q hq)) kp'
    have hx : IsT P w s'.heap p.2 p.1 := isT_keep (hk p pk) kp'
    have room : p.2 ∉ L.map (·.2) → L.length + 1 < 4915 := fun nm => by
      have z := len_among (p.2 :: L.map (·.2)) U (List.nodup_cons.mpr ⟨nm, hS.once⟩) fun y hy => by
        rcases List.mem_cons.mp hy with rfl | hy
        · exact inU p pk
        · obtain ⟨r, hr, rfl⟩ := List.mem_map.mp hy
          exact inU r (amongL g r hr)
      rw [List.length_cons, List.length_map] at z
      omega
    show wpAny _ A.in1 (holding [Value.ref p.1] (setAdd S (.ref p.1)) >>= _) _ _ s'
    refine wpAny_bind (wpAny_holding ?_)
    unfold setAdd
    refine wpAny_holding (wpAny_bind (wpAny_pyHash_tuple hu hx ?_))
    refine add_one (s := { s' with toks := s'.toks + (p.2.length + 1) }) hS' hx hu room fun b h' L' es' ep' t' sb hS2 c1 c2 => ?_
    have g' : Got ks (i + 1) L' := by
      by_cases c : p.2 ∈ L.map (·.2)
      · rw [c1 c]
        exact g.same hp c
      · exact g.more hp (c2 c)
    have kp2 : ∀ b o, b0.get? b = some o → h'.get? b = some o := fun b o e => (sb.2 b (fun z => by rw [z, hS0] at e; cases e)).trans (kp' b o e)
    refine wpAny_pure ⟨plainId_quiet F.plain_set_update_loop _, ih (i + 1) _ (by omega) lt (W.frame _ s' _ _ hst' (Nat.le_add_right _ _) fun b hb o e => ?_) kp2 ⟨L', es', ep', t', hS2, g'⟩ fun s2 L2 es2 ep2 t2 mv2 hS3 g3 kp3 => ?_⟩
    · exact (sb.2 b (fun z : b = S => hSf (z ▸ hb))).trans e
    · exact hR s2 L2 es2 ep2 t2 (Moved.trans W.gtrans ((mv.mono wide).then_heap (Nat.le_add_right _ _) fun b o hb e => (sb.2 b (fun z : b = S => hb (z ▸ List.mem_cons_self))).trans e) mv2) hS3 g3 kp3
set_option maxHeartbeats 8000000 in
theorem call_setG {l : Addr} {items : Array Value} (ks : List (Addr × List Int)) (U : List (List Int)) {Q : Value → Shared → Prop} (hh : A.handled = none) (hl : s.heap.IsList l items) (hit : items.toList = ks.map fun p => Value.ref p.1)
    (hk : ∀ p ∈ ks, IsT P w s.heap p.2 p.1) (hU : U.length < 4915) (inU : ∀ p ∈ ks, p.2 ∈ U) (hu : A.units + 3 < cLine)
    (h : ∀ (h' : Heap) (tk : Nat) L es ep t, SetG P w h' s.heap.objs.size L es ep t → Got ks ks.length L → (∀ b o, s.heap.get? b = some o → h'.get? b = some o) → Q (.ref s.heap.objs.size) { s with heap := h', toks := tk }) :
    wpAny (model P w) A (call (.type "set") [.ref l]) Q E s := by
  have isz : items.size = ks.length := by rw [← Array.length_toList, hit, List.length_map]
  obtain ⟨c, tl, hmro⟩ := F.called_set.mro
  have hmade := F.called_set.made
  have hsub := F.called_set.sub
  have t1 := F.called_set.notType
  have t2 := F.called_set.canCreate
  have t3 := F.typeCall_set_1 (.ref l)
  refine wpAny_call (codeAny_of_tree (show wpAny _ _ (callAny (.type "set") _) _ _ _ from wpAny_pure ⟨Code.quiet_builtin _ (by decide +kernel), codeAny_builtin F.entry_type_call ?_⟩))
  rw [Around.under_plain (weight_type_call_type "set" [.ref l] []) rfl]
  repeat (any_goals (first | assumption | wp_step))
  refine codeAny_mono (code_set_led1 (.ref l) (E := E) (Q₁ := fun obj s₁ => obj = .ref s.heap.objs.size ∧ s₁ = { s with heap := s.heap.push (newSetO w) }) ⟨rfl, rfl⟩) fun r s₁ hr => ?_
  match r, hr with
  | .error e, hr => exact hr
  | .ok .next, hr => exact hr.elim
  | .ok .brk, hr => exact hr.elim
  | .ok .cont, hr => exact hr.elim
  | .ok (.ret obj), hr =>
    obtain ⟨rfl, rfl⟩ := hr
    have hS : (s.heap.push (newSetO w)).get? s.heap.objs.size = some (newSetO w) := Heap.get?_push_size _ rfl
    have hT : Shared.TypeIs { s with heap := s.heap.push (newSetO w) } (.ref s.heap.objs.size) "set" := ⟨_, hS, rfl⟩
    have i1 := F.called_set.init.lookup
    have i2 := F.called_set.init.bind (.ref s.heap.objs.size)
    repeat (any_goals (first | assumption | wp_step))
    refine codeAny_mono (codeAny_call_builtin (R := wants (fun r s₂ => r = .none ∧ ∃ h' tk L es ep t, s₂ = { s with heap := h', toks := tk } ∧ SetG P w h' s.heap.objs.size L es ep t ∧ Got ks ks.length L ∧
        (∀ b o, s.heap.get? b = some o → h'.get? b = some o)) E) F.called_set.init.plain F.entry_set_init (check_set_init_1 hT ?_)) fun r₂ s₂ hr₂ => ?_
    · obtain ⟨⟨ocls, odict, odata, oslots⟩, hol, hcl, nl, hdl⟩ := hl
      simp only at hcl hdl
      subst hcl hdl
      have hol' : (s.heap.push (newSetO w)).get? l = some { cls := .type "list", dict := odict, data := .seq items nl, slots := oslots } := Heap.get?_push_of_some _ hol
      have u1 := F.sub_list_set
      have u2 := F.sub_list_frozenset
      have u3 : (Value.type "list" == Value.type "dict") = false := by decide
      have isL : (s.heap.push (newSetO w)).IsList l items := ⟨_, hol', rfl, nl, rfl⟩
      unfold Builtin.«set.__init__» noKeywords Builtin.Frozenset.updateFrom
      generalize hPI : pyIter = PI
      wp_walk
      subst hPI
      refine wpAny_pyIter_list isL (wpAny_bind (wpAny_runValue ?_))
      have ll : l < s.heap.objs.size := Heap.lt_size hol
      have sz1 : (s.heap.push (newSetO w)).objs.size = s.heap.objs.size + 1 := Heap.size_push ..
      have unborn : ∀ b, s.heap.objs.size ≤ b → s.heap.get? b = none := fun b hb => by
        cases q : s.heap.get? b with
        | none => rfl
        | some o => exact absurd (Nat.lt_of_lt_of_le (Heap.lt_size q) hb) (Nat.lt_irrefl _)
      refine update_all ((Walks.list (show A.in1.in1.in1.handled = none by simp [hh]) _ l (by rw [sz1]; exact Nat.ne_of_lt (Nat.lt_succ_of_lt ll)) items).toS) s.heap.objs.size
        (by rw [sz1]; simp only [List.mem_cons, List.not_mem_nil, or_false, not_or]; exact ⟨Nat.ne_of_lt (Nat.lt_succ_self _), Nat.ne_of_gt ll⟩) ks U isz hU inU (fun i v hv => ?_) s.heap hk (unborn _ (Nat.le_refl _)) (fun b hb => unborn b (by rw [List.mem_singleton.mp hb, sz1]; exact Nat.le_succ _)) hu (items.size - 0) 0 _ (by omega) (Nat.zero_le _)
        ⟨⟨_, Heap.get?_push_size _ rfl, rfl, rfl⟩, (isL.push _)⟩ (fun b o e => Heap.get?_push_of_some _ (Heap.get?_push_of_some _ e)) ⟨[], #[], 0, _, setG_new (Heap.get?_push_of_some _ hS), Got.zero ks⟩ fun s' L es ep t mv hS' g' kp => ?_
      · have q : items.toList[i]? = some v := by rw [Array.getElem?_toList]; exact hv
        rw [hit, List.getElem?_map] at q
        obtain ⟨p, hp, e⟩ := Option.map_eq_some_iff.mp q
        exact ⟨p, hp, e.symm⟩
      · obtain ⟨h', g2, d', tk', os'⟩ := s'
        obtain rfl : g2 = s.gens := mv.gens
        obtain rfl : d' = s.drawn := mv.drawn
        obtain rfl : os' = s.os := mv.os
        rw [isz] at g'
        exact wpAny_pure (wpAny_pure ⟨rfl, h', tk', L, es, ep, t, rfl, hS', g', kp⟩)
    · match r₂, hr₂ with
      | .error e, z => exact z
      | .ok .next, z => exact z.elim
      | .ok .brk, z => exact z.elim
      | .ok .cont, z => exact z.elim
      | .ok (.ret r), z =>
        obtain ⟨rfl, h', tk, L, es, ep, t, rfl, hS', g', kp⟩ := z
        repeat (any_goals (first | assumption | wp_step))
        exact h _ _ _ _ _ _ hS' g' kp
end
/-! ### sorted of such a set: the tuples of one length, by their order -/
open TS (TupInts oneLt_ints)
section
variable {P : Program} {w : World} {A : Around} {E : Value → Shared → Prop} {s : Shared}
theorem lex_all {Q : Bool → Shared → Prop} : ∀ {xs ys : List Value} {ns ms : List Int} (i : Nat), IntsAre xs ns → IntsAre ys ms → ns.length = ms.length → Q (HT.lexLt ns ms) s → PySem.W.KatLex P w A true false Q (xs.zip ys) i s
  | _, _, _, _, i, .nil, .nil, _, h => PySem.W.kat_nil h
  | _, _, _, _, i, .cons x t r, .cons y u r2, hl, h => by
    simp only [List.length_cons, Nat.add_right_cancel_iff] at hl
    rw [HT.lexLt_cons] at h
    refine PySem.W.kat_cons (SeqAt.EqAt.int_int x t y u P w _ _ (PySem.W.kat_go (fun e => PySem.W.kat_yes (lex_all (i + 1) r r2 hl ?_)) fun e => PySem.W.kat_no (oneLt_ints _ ?_)))
    · have e' : x = y := by simpa using e
      rw [if_pos e'] at h
      exact h
    · have e' : ¬ x = y := by simpa using e
      rw [if_neg e'] at h
      exact h
  | _, _, _, _, _, .nil, .cons _ _ _, hl, _ => by simp at hl
  | _, _, _, _, _, .cons _ _ _, .nil, hl, _ => by simp at hl
theorem ints_len : ∀ {xs : List Value} {ns : List Int}, IntsAre xs ns → xs.length = ns.length
  | _, _, .nil => rfl
  | _, _, .cons _ _ r => by rw [List.length_cons, List.length_cons, ints_len r]
theorem tups_cmp {vs : List Value} {k : Value → List Int} {d : Nat} (hv : ∀ v ∈ vs, TupInts s.heap v (k v) ∧ (k v).length = d) : SrtO.Cmp P w A s (tuples' true) (fun p => p.1 ∈ vs) (SrtO.lt2 fun v u => HT.lexLt (k v) (k u)) := by
  intro p q hp hq
  obtain ⟨⟨a, xs, ea, ⟨o, ho, hc, n, hd⟩, i1⟩, l1⟩ := hv p.1 hp
  obtain ⟨⟨b, ys, eb, ⟨o2, ho2, hc2, n2, hd2⟩, i2⟩, l2⟩ := hv q.1 hq
  show wpAny (model P w) A (keyLt' (tuples' true) p.1 q.1) (fun r s' => s' = s ∧ r = HT.lexLt (k p.1) (k q.1)) (fun _ _ => False) s
  generalize k p.1 = ns at i1 l1 ⊢
  generalize k q.1 = ms at i2 l2 ⊢
  rw [ea, eb]
  refine PySem.W.kat_lt ho hd ho2 hd2 ?_
  have sz : decide (xs.size < ys.size) = false := by
    have a1 := ints_len i1
    have a2 := ints_len i2
    rw [Array.length_toList] at a1 a2
    exact decide_eq_false (by omega)
  rw [sz]
  exact lex_all 0 i1 i2 (l1.trans l2.symm) ⟨rfl, rfl⟩
theorem heads_of {h : Heap} {k : Value → List Int} {d : Nat} (hd : 1 ≤ d) : ∀ {vs : List Value}, (∀ v ∈ vs, TupInts h v (k v) ∧ (k v).length = d) → ∃ fs : List Value, PySem.W.KatTups h vs fs ∧ fs.length = vs.length ∧ ∀ f ∈ fs, ∃ x t, f = Value.int x t
  | [], _ => ⟨[], PySem.W.KatTups.nil, rfl, fun _ hm => by simp at hm⟩
  | v :: vs, hv => by
    obtain ⟨fs, h1, h2, h3⟩ := heads_of hd fun u hu => hv u (List.mem_cons_of_mem _ hu)
    obtain ⟨⟨a, xs, rfl, ⟨o, ho, hc, n, hdt⟩, i1⟩, l1⟩ := hv v List.mem_cons_self
    generalize k (Value.ref a) = ns at i1 l1
    obtain ⟨xl⟩ := xs
    simp only at i1
    cases i1 with
    | nil => simp at l1; omega
    | cons x t r =>
      refine ⟨.int x t :: fs, PySem.W.KatTups.cons ho hc hdt rfl h1, by rw [List.length_cons, List.length_cons, h2], fun f hf => ?_⟩
      rcases List.mem_cons.mp hf with rfl | hf
      · exact ⟨x, t, rfl⟩
      · exact h3 f hf
theorem tups_sortable {a : Addr} {vs : List Value} {k : Value → List Int} {d : Nat} (hd : 1 ≤ d) (h0 : 0 < vs.length) (hv : ∀ v ∈ vs, TupInts s.heap v (k v) ∧ (k v).length = d) (ha : ∀ o, s.heap.get? a = some o → o.cls ≠ .type "tuple") :
    SrtO.SortableO P w A s a vs fun v u => HT.lexLt (k v) (k u) := by
  intro h' keep
  have hv' : ∀ v ∈ vs, TupInts h' v (k v) ∧ (k v).length = d := fun v hm => ⟨(hv v hm).1.keeps fun b o e c => keep b o (fun z => ha o (z ▸ e) c) e, (hv v hm).2⟩
  obtain ⟨fs, h1, h2, h3⟩ := heads_of hd hv'
  refine ⟨tuples' true, fun Q E hq => ?_, tups_cmp (s := { s with heap := h' }) hv'⟩
  refine PySem.W.kat_kind (T := .type "int") h1 (by omega) (fun f hm => ?_) (by rfl) ?_
  · obtain ⟨x, t, rfl⟩ := h3 f hm
    exact PySem.W.Looks.now
  · rw [show (Value.type "int" != Value.type "tuple") = true by decide +kernel]
    exact hq
/-- an address, read off a value -/
def adV : Value → Addr
  | .ref a => a
  | _ => 0
theorem refs_back : ∀ {vs : List Value} {L : List (Addr × List Int)}, (∀ v ∈ vs, ∃ q ∈ L, v = Value.ref q.1) → ∃ M : List (Addr × List Int), vs = M.map (fun q => Value.ref q.1) ∧ ∀ q ∈ M, q ∈ L
  | [], _, _ => ⟨[], rfl, fun _ hq => nomatch hq⟩
  | v :: vs, L, h => by
    obtain ⟨q, hq, rfl⟩ := h v List.mem_cons_self
    obtain ⟨M, e, hM⟩ := refs_back fun u hu => h u (List.mem_cons_of_mem _ hu)
    refine ⟨q :: M, by rw [List.map_cons, ← e], fun r hr => ?_⟩
    rcases List.mem_cons.mp hr with rfl | hr
    · exact hq
    · exact hM r hr
theorem sorted_setG {a : Addr} {L : List (Addr × List Int)} {es : Array (Int × Value)} {ep : Nat} {t : SetTable} {Q : Value → Shared → Prop} (R : SetG P w s.heap a L es ep t) (hh : A.handled = none) (few : L.length < 4096)
    {d : Nat} (hd1 : 1 ≤ d) (hd : ∀ p ∈ L, p.2.length = d)
    (hQ : ∀ s' p (out : List Value) (c : Nat) (M : List (Addr × List Int)), (∀ b o, s.heap.get? b = some o → s'.heap.get? b = some o) → s'.gens = s.gens → s'.os = s.os → s.heap.objs.size ≤ p →
      s'.heap.get? p = some (seqObj "list" out.toArray c) → out = M.map (fun q => Value.ref q.1) → M.Perm L → M.Pairwise (fun q r => HT.lexLt r.2 q.2 = false) → Q (.ref p) s') :
    wpAny (model P w) A (call (.builtin "sorted") [.ref a]) Q E s := by
  obtain ⟨o, ho, hex, hdt⟩ := R.obj
  have sz := R.size
  refine Calls.call_function_entry kind_sorted plain_sorted entry_sorted (args_sorted1 _) ?_
  unfold Builtin.«sorted»
  refine wpAny_bind (m := checkCount "sorted" 1 1 _) (wpAny_pure (wpAny_bind (collect_set (A := A.in1) hh ⟨o, ho, hex.1, hdt⟩ R.fits (by show es.size < 4096; omega) R.tb.up R.ledd fun s1 vs k1 hz g1 o1 pm => ?_)))
  rw [show es.toList.map (·.2) = L.map fun q => Value.ref q.1 by rw [R.rws]; unfold rowsOf; rw [List.map_map]; rfl] at pm
  have vl : vs.length = L.length := by rw [pm.length_eq, List.length_map]
  have one : ∀ q ∈ L, ∀ r ∈ L, q.1 = r.1 → q = r := fun q hq r hr e => by
    have a1 := R.tups q hq
    rw [e] at a1
    exact Prod.ext e (a1.inj (R.tups r hr))
  -- keys by addresses
  have key : ∃ kk : Addr → List Int, ∀ q ∈ L, kk q.1 = q.2 := by
    refine ⟨fun b => (TS.intsOf s.heap (.ref b)), fun q hq => (tupInts_of (R.tups q hq)).ints⟩
  obtain ⟨kk, hkk⟩ := key
  refine wpAny_bind (wpAny_newList ?_ (by rw [sizeLine_eq]; omega))
  have hoL : (s1.heap.push (seqObj "list" vs.toArray 0)).get? s1.heap.objs.size = some (seqObj "list" vs.toArray 0) := Heap.get?_push_size _ rfl
  have ti : ∀ v ∈ vs, TupInts (s1.heap.push (seqObj "list" vs.toArray 0)) v (kk (adV v)) ∧ (kk (adV v)).length = d := fun v hv => by
    obtain ⟨q, hq, rfl⟩ := List.mem_map.mp (pm.mem_iff.mp hv)
    show TupInts _ (Value.ref q.1) (kk q.1) ∧ (kk q.1).length = d
    rw [hkk q hq]
    exact ⟨tupInts_of (P := P) (w := w) (isT_keep (R.tups q hq) fun b u e => Heap.get?_push_of_some _ (k1 b u e)), hd q hq⟩
  refine wpAny_bind (wpAny_holding (wpAny_call_entry (s := { s1 with heap := s1.heap.push (seqObj "list" vs.toArray 0) }) slot_list_sort ⟨_, hoL, rfl⟩ entry_list_sort
    (SrtO.list_sort_ord (NtL.swo_lexL fun v => kk (adV v)) hoL (by rw [sizeLine_eq]; omega) (fun h2 => tups_sortable hd1 (by omega) ti fun u e => ?_) fun out h1 h2 => ⟨_, rfl, ?_⟩) (args_list_sort _)))
  · rw [hoL] at e
    cases e
    exact fun c => absurd (Value.type.inj c) (by decide)
  · obtain ⟨c, hc⟩ := sortedHeap_at (vs := vs) (out := out.toArray) hoL
    obtain ⟨M, eM, hM⟩ := refs_back (vs := out) (L := L) fun v hv => by
      obtain ⟨q, hq, e⟩ := List.mem_map.mp (pm.mem_iff.mp (h2.perm.mem_iff.mp hv))
      exact ⟨q, hq, e.symm⟩
    have nL : L.Nodup := nodup_of_map R.once
    have nref : (L.map fun q => Value.ref q.1).Nodup := List.pairwise_map.mpr (List.Pairwise.imp_of_mem (fun {q r} hq hr ne e => ne (one q hq r hr (Value.ref.inj e))) nL)
    have pM : (M.map fun q => Value.ref q.1).Perm (L.map fun q => Value.ref q.1) := by
      rw [← eM]
      exact h2.perm.trans pm
    have pL : M.Perm L := (List.perm_ext_iff_of_nodup (nodup_of_map (pM.nodup_iff.mpr nref)) nL).mpr fun q => ⟨hM q, fun hq => by
      obtain ⟨r, hr, e⟩ := List.mem_map.mp (pM.mem_iff.mpr (List.mem_map.mpr ⟨q, hq, rfl⟩))
      rw [← one r (hM r hr) q hq (Value.ref.inj e)]
      exact hr⟩
    refine wpAny_pure ⟨_, rfl, hQ _ s1.heap.objs.size out c M (fun b u e => ?_) g1 o1 hz hc eM pL ?_⟩
    · have q := k1 b u e
      have lt := Heap.lt_size q
      show (sortedHeap (s1.heap.push (seqObj "list" vs.toArray 0)) s1.heap.objs.size vs out.toArray).get? b = some u
      rw [sortedHeap_old (Nat.ne_of_lt lt) (by rw [size_push']; exact Nat.lt_succ_of_lt lt)]
      exact Heap.get?_push_of_some _ q
    · rw [eM] at h1
      refine List.Pairwise.imp_of_mem (fun {q r} hq hr z => ?_) (List.pairwise_map.mp h1)
      have z' : HT.lexLt (kk r.1) (kk q.1) = false := z
      rw [hkk q (hM q hq), hkk r (hM r hr)] at z'
      exact z'
end
/-! ### as words of a def -/
def SetG0 (P : Program) (w : World) (h : Heap) (a : Addr) (L : List (Addr × List Int)) : Prop := ∃ (es : Array (Int × Value)) (ep : Nat) (t : SetTable), (∃ u, h.get? a = some u ∧ u.ExactSet ∧ u.data = .set es ep t) ∧ es.toList = rowsOf P w L ∧
  TabG t (L.map fun p => thash P w p.2) ∧ (L.map (·.2)).Nodup ∧ t.plain = true ∧ (w.params.followText "set-order" = true ∨ t.led = true) ∧ L.length * 5 < t.mask * 3 ∧ L.length < 4915 ∧ Mk6 t.mask
def SetGO (P : Program) (w : World) (a : Addr) (L : List (Addr × List Int)) : HO := .ext fun h => SetG0 P w h a L
theorem setGO_new {P : Program} {w : World} {H : Hp} {h : Heap} {a : Addr} {L : List (Addr × List Int)} (R : SetG0 P w h a L) : ObjOk P w H h a (SetGO P w a L) := by
  refine ⟨R, let ⟨_, _, _, ⟨u, hu, _⟩, _⟩ := R; ⟨u, hu⟩, fun h1 h2 p k => ?_⟩
  have p' : SetG0 P w h1 a L := p
  obtain ⟨es, ep, t, ⟨u, hu, r⟩, q⟩ := p'
  exact ⟨es, ep, t, ⟨u, k u hu, r⟩, q⟩
section
variable {X : Cx}
/-- set(xs), xs a list of tuples of ints -/
def rSetG (K : PySem.W.Frag) (P : Program) (w : World) : List V → Hp → VK → Prop := fun xs H Q => ∃ (l : Addr) (ks : List (Addr × List Int)) (U : List (List Int)), xs = [V.ref l] ∧ SqL K H l (ks.map fun p => V.ref p.1) ∧ (∀ p ∈ ks, SqT K H p.1 (p.2.map V.int)) ∧ U.length < 4096 ∧ (∀ p ∈ ks, p.2 ∈ U) ∧
  ∀ a L, H a = none → (∀ p ∈ L, p ∈ ks) → (∀ p ∈ ks, p.2 ∈ L.map (·.2)) → L.length < 4096 → Q (.ref a) (upd H a (SetGO P w a L))
theorem cr_setG (hc : X.calm = true) (hu : X.A.units + 64 < cLine) : CallR X (.type "set") (rSetG X.K X.prog X.w) := by
  intro pins s σ H xs us Q I r h
  obtain ⟨l, ks, U, rfl, hl, hk, hU, inU, q⟩ := h
  rw [Vals.ref1 r]
  obtain ⟨its, rv, pl, hz⟩ := I.list hl
  have hn : H s.heap.objs.size = none := I.hok.fresh (Nat.le_refl _)
  refine call_setG (P := X.prog) (w := X.w) ks U (I.ok.hd hc) pl.isList (by simpa using refs_of_vals rv) (fun p hp => I.isT (hk p hp)) (by omega) inU (by omega) fun h' tk L es ep t R g k => ?_
  have sub : ∀ p ∈ L, p ∈ ks := fun p hp => List.mem_of_mem_take (g.sub p hp)
  have few : L.length < 4096 := by
    have z := len_among (L.map (·.2)) U R.once fun y hy => by
      obtain ⟨p, hp, rfl⟩ := List.mem_map.mp hy
      exact inU p (sub p hp)
    rw [List.length_map] at z
    omega
  exact ⟨.ref s.heap.objs.size, upd H s.heap.objs.size (SetGO X.prog X.w s.heap.objs.size L), I.laid (t' := tk) k (Nat.le_refl _) (setGO_new ⟨es, ep, t, R.obj, R.rws, R.tb, R.once, R.pla, R.ledd, R.rm, R.few, R.m6⟩), rfl,
    q _ L hn sub (fun p hp => g.all p (by rw [List.take_length]; exact hp)) few⟩
/-- sorted(set), the tuples of one length -/
def rSortedG (K : PySem.W.Frag) (P : Program) (w : World) : List V → Hp → VK → Prop := fun vs H Q => ∃ (a : Addr) (L : List (Addr × List Int)) (d : Nat), vs = [V.ref a] ∧ H a = some (SetGO P w a L) ∧ (∀ p ∈ L, SqT K H p.1 (p.2.map V.int)) ∧ L.length < 4096 ∧ 1 ≤ d ∧ (∀ p ∈ L, p.2.length = d) ∧
  ∀ (M : List (Addr × List Int)) (p : Addr), M.Perm L → (M.map (·.2)).Nodup → M.Pairwise (fun q r => HT.lexLt r.2 q.2 = false) → H p = none → Q (.ref p) (upd H p (.lst (M.map fun q => V.ref q.1)))
theorem cr_sortedG (hc : X.calm = true) : CallR X (.builtin "sorted") (rSortedG X.K X.prog X.w) := by
  intro pins s σ H vs us Q I r h
  obtain ⟨a, L, d, rfl, ha, hk, few, hd1, hd, q⟩ := h
  have R0 : SetG0 X.prog X.w s.heap a L := (I.hok a _ ha).1
  obtain ⟨es, ep, t, r1, r2, r3, r4, r5, r6, r7, r8, r9⟩ := R0
  have R : SetG X.prog X.w s.heap a L es ep t := ⟨r1, r2, r3, r4, fun p hp => I.isT (hk p hp), r5, r6, r7, r8, r9⟩
  rw [Vals.ref1 r]
  refine sorted_setG R (I.ok.hd hc) few hd1 hd fun s' p out c M k g o hp hg hout pm pw => ?_
  have len : (M.map fun q => V.ref q.1).length ≤ sizeLine := by rw [List.length_map, pm.length_eq, sizeLine_eq]; omega
  have hn : H p = none := I.hok.fresh hp
  have hv : Vals (M.map fun q => V.ref q.1) out := by rw [hout]; exact vals_of_refs M
  have J : L2.Inv X pins σ (upd H p (.lst (M.map fun q => V.ref q.1))) { s with heap := s'.heap, gens := s'.gens, drawn := s'.drawn, toks := s'.toks } :=
    I.call (ch := []) (Un.laid k hp hn) (I.hok.laid k hp ⟨len, out, c, hv, hg⟩) (by rw [g]; exact I.bare) (fun _ z => nomatch z)
  have e : s' = { s with heap := s'.heap, gens := s'.gens, drawn := s'.drawn, toks := s'.toks } := by
    cases s'
    cases s
    cases o
    rfl
  rw [e]
  exact ⟨.ref p, _, J, rfl, q M p pm ((pm.map (·.2)).nodup_iff.mpr r4) pw hn⟩
end
/-! ### sorted(xs, key=f), f telling a number of each item, changing nothing: some arrangement of xs -/
section
variable {P : Program} {w : World} {A : Around} {E : Value → Shared → Prop} {s : Shared}
theorem sort_by {a : Addr} {vs : List Value} {n : Nat} {kz : List Int} {f : Value} {R : PySem.Fin → Shared → Prop} (ho : s.heap.get? a = some (seqObj "list" vs.toArray n)) (hlen : kz.length = vs.length) (hz : vs.length ≤ 100000)
    (turn : ∀ (i : Nat) (v : Value) (k : Int), vs[i]? = some v → kz[i]? = some k → ∀ (g : Heap) (tk : Nat) (Q : Value → Shared → Prop), (∀ b o, b ≠ a → s.heap.get? b = some o → g.get? b = some o) →
      (∀ tk' t, Q (.int k t) { s with heap := g, toks := tk' }) → wpAny (model P w) A (call f [v]) Q (fun _ _ => False) { s with heap := g, toks := tk })
    (h : ∀ (g : Heap) (tk : Nat) (out : List Value) (c : Nat), out.Perm vs → (∀ b o, b ≠ a → s.heap.get? b = some o → g.get? b = some o) → g.get? a = some (seqObj "list" out.toArray c) → R (.done (.ret .none)) { s with heap := g, toks := tk }) :
    wpAny (model P w) A (ksk_tree a f false) R E s := by
  have la := Heap.lt_size ho
  obtain ⟨e1, ho1⟩ : ∃ e1, (s.heap.update a (Obj.mapSeq fun _ => (#[] : Array Value))).get? a = some (seqObj "list" #[] e1) := ⟨_, get?_update_seq ho fun _ => #[]⟩
  have hz1 : vs.length ≤ sizeLine := by rw [sizeLine_eq]; omega
  unfold ksk_tree
  refine wpAny_bind (listItems_at ho rfl (wpAny_bind (listUpdate_at ho rfl ?_ (by rw [List.size_toArray]; exact hz1) (Nat.zero_le _))))
  refine wpAny_bind (seqEpoch_at ho1 rfl (wpAny_bind (wpAny_newTuple ?_ (show vs.length ≤ _ from hz1))))
  refine wpAny_bind (wpAny_newList (wpAny_holding ?_) (Nat.zero_le _))
  obtain ⟨h1, eh1⟩ : ∃ h1, h1 = s.heap.update a (Obj.mapSeq fun _ => (#[] : Array Value)) := ⟨_, rfl⟩
  obtain ⟨kS, ekS⟩ : ∃ kS, kS = (h1.push (seqObj "tuple" vs.toArray 0)).objs.size := ⟨_, rfl⟩
  obtain ⟨h2, eh2⟩ : ∃ h2, h2 = (h1.push (seqObj "tuple" vs.toArray 0)).push (seqObj "list" #[] 0) := ⟨_, rfl⟩
  have sz : kS = s.heap.objs.size + 1 := by rw [ekS, eh1, size_push', Heap.size_update]
  have ka : kS ≠ a := by rw [sz]; exact Nat.ne_of_gt (Nat.lt_succ_of_lt la)
  have k2 : ∀ b o, b ≠ a → s.heap.get? b = some o → h2.get? b = some o := fun b o hb e => by
    rw [eh2, eh1]
    exact Heap.get?_push_of_some _ (Heap.get?_push_of_some _ ((Heap.get?_update_ne _ _ _ _ hb).trans e))
  have a2 : h2.get? a = some (seqObj "list" #[] e1) := by
    rw [eh2, eh1]
    exact Heap.get?_push_of_some _ (Heap.get?_push_of_some _ ho1)
  have s2 : h2.get? kS = some (seqObj "list" #[] 0) := by
    rw [eh2, ekS]
    exact Heap.get?_push_size _ rfl
  have old : ∀ b o, s.heap.get? b = some o → b ≠ kS := fun b o e => by
    rw [sz]
    exact Nat.ne_of_lt (Nat.lt_succ_of_lt (Heap.lt_size e))
  show wpAny (model P w) A (ksk_rest a f false vs.toArray _ (.ref _)) R E { s with heap := (_ : Heap).push _ }
  rw [← eh1, ← ekS, ← eh2]
  unfold ksk_rest
  refine wpAny_bind (wpAny_rule ?_)
  first
    | rw [List.forIn_toArray]
    | (rw [← Array.forIn_toList]; simp only [List.toList_toArray])
  refine wpAny_bind (ksk_fold (fun i s' => ∃ g tk kA e, s' = { s with heap := g, toks := tk } ∧ (∀ b o, b ≠ a → s.heap.get? b = some o → g.get? b = some o) ∧ g.get? kS = some (seqObj "list" kA e) ∧ g.get? a = some (seqObj "list" #[] e1) ∧ IntsAre kA.toList (kz.take i)) vs 0 _
    ⟨h2, s.toks, #[], 0, rfl, k2, s2, a2, by simpa using IntsAre.nil⟩ ?step ?done)
  case step =>
    rintro j x s' hx ⟨g, tk, kA, e, rfl, kp, gk, ga, hk⟩
    rw [Nat.zero_add] at hk ⊢
    obtain ⟨k, hkj⟩ : ∃ k, kz[j]? = some k := ⟨_, List.getElem?_eq_getElem (by have := (List.getElem?_eq_some_iff.mp hx).1; omega)⟩
    have lk : kA.size ≤ vs.length := by
      have z := hk.length
      rw [Array.length_toList, List.length_take] at z
      omega
    refine wpAny_bind (wpAny_attempt (wpAny_mono (turn j x k hx hkj g tk (fun v s'' => ∃ tk' t, v = .int k t ∧ s'' = { s with heap := g, toks := tk' }) kp fun tk' t => ⟨tk', t, rfl, rfl⟩) (fun v s'' z => ?_) fun _ _ z => z.elim))
    obtain ⟨tk', t, rfl, rfl⟩ := z
    obtain ⟨c2, hc2⟩ : ∃ c2, (g.update kS (Obj.mapSeq (·.push (.int k t)))).get? kS = some (seqObj "list" (kA.push (.int k t)) c2) := ⟨_, get?_update_seq gk (·.push (.int k t))⟩
    have ek : kz.take (j + 1) = kz.take j ++ [k] := by rw [List.take_add_one, hkj]; rfl
    refine wpAny_bind (listUpdate_at gk rfl ?_ (by rw [sizeLine_eq]; omega) (Nat.le_trans (Nat.le_of_eq (Array.size_push ..)) (by rw [sizeLine_eq]; omega)))
    refine wpAny_pure ⟨rfl, _, _, kA.push (.int k t), c2, rfl, fun b o hb eb => ?_, hc2, ?_, ?_⟩
    · rw [Heap.get?_update_ne _ _ _ _ (old b o eb)]
      exact kp b o hb eb
    · rw [Heap.get?_update_ne _ _ _ _ ka.symm]
      exact ga
    · rw [ek, Array.toList_push]
      exact ksk_snoc hk
  case done =>
    rintro s' ⟨g, tk, kA, e, rfl, kp, gk, ga, hk⟩
    rw [Nat.zero_add, List.take_of_length_le (by omega)] at hk
    have ksz : kA.size = vs.length := by
      have z := hk.length
      rw [Array.length_toList] at z
      omega
    refine wpAny_bind (listItems_at gk rfl ?_)
    -- the end, from a finished sort
    have fin : ∀ st : SortSt, (arrOf st).toList.Perm (kA.toList.zip vs) → failedOf st = none → wpAny (model P w) A (ksk_tail a false e1 (.ref kS) st) R E { s with heap := g, toks := tk } := fun st pm fl => by
      have osz : ((arrOf st).map (·.2)).size = vs.length := by
        have z := pm.length_eq
        rw [Array.length_toList, List.length_zip, Array.length_toList, ksz, Nat.min_self] at z
        rw [Array.size_map, z]
      unfold ksk_tail
      simp only [Bool.false_eq_true, if_false]
      refine wpAny_bind (listUpdate_at gk rfl ?_ (by rw [sizeLine_eq]; omega) (Nat.zero_le _))
      have ga1 : (g.update kS (Obj.mapSeq fun _ => (#[] : Array Value))).get? a = some (seqObj "list" #[] e1) := (Heap.get?_update_ne _ _ _ _ ka.symm).trans ga
      refine wpAny_bind (wpAny_letGo (wpAny_bind (seqEpoch_at ga1 rfl (wpAny_bind (listUpdate_at ga1 rfl ?_ (Nat.zero_le _) (by rw [osz, sizeLine_eq]; omega))))))
      rw [fl]
      simp only [bne_self_eq_false, Bool.false_eq_true, if_false]
      obtain ⟨c3, hc3⟩ : ∃ c3, ((g.update kS (Obj.mapSeq fun _ => (#[] : Array Value))).update a (Obj.mapSeq fun _ => (arrOf st).map (·.2))).get? a = some (seqObj "list" ((arrOf st).map (·.2)) c3) := ⟨_, get?_update_seq ga1 fun _ => (arrOf st).map (·.2)⟩
      refine wpAny_pure (h _ _ ((arrOf st).map (·.2)).toList c3 ?_ (fun b o hb eb => ?_) (by rw [Array.toArray_toList]; exact hc3))
      · have z := pm.map (·.2)
        rw [List.map_snd_zip (show vs.length ≤ kA.toList.length from by have q : kA.toList.length = kA.size := rfl; omega)] at z
        rw [Array.toList_map]
        exact z
      · rw [Heap.get?_update_ne _ _ _ _ hb, Heap.get?_update_ne _ _ _ _ (old b o eb)]
        exact kp b o hb eb
    unfold ksk_end
    simp only [Bool.false_eq_true, if_false]
    have zl : (kA.zip vs.toArray).toList = kA.toList.zip vs := ksk_zip kA vs
    by_cases small : vs.toArray.size < 2
    · rw [if_pos small, if_pos small]
      refine wpAny_bind (wpAny_pure ?_)
      rw [StateT.run_pure]
      refine wpAny_bind (wpAny_pure ?_)
      exact fin (SortSt.mk' general' (kA.zip vs.toArray) #[] 7 none) (by show (kA.zip vs.toArray).toList.Perm _; rw [zl]) rfl
    · rw [if_neg small, if_neg small]
      rw [List.size_toArray] at small
      rw [ksk_kind hk (by omega)]
      refine wpAny_bind (wpAny_pure ?_)
      have hall : SrtO.AllL (fun p : Keyed => p.1 ∈ kA.toList) (kA.zip vs.toArray).toList := fun p hp => by
        rw [zl] at hp
        exact (List.of_mem_zip hp).1
      refine wpAny_bind (wpAny_mono (SrtO.wpS_sortO (st0 := SortSt.mk' oneType' (kA.zip vs.toArray) #[] 7 none)
        (Q := fun _ st' => (arrOf st').toList.Perm (kA.toList.zip vs) ∧ failedOf st' = none) (SrtO.swo2 SrtO.swo_int) (SrtO.int_cmp hk) rfl hall rfl rfl fun st' a1 a2 a3 => ⟨by rw [← zl]; exact a2.perm, a3⟩) ?_ fun _ _ z => z)
      rintro ⟨⟨⟩, st'⟩ s' ⟨rfl, pm, fl⟩
      exact fin st' pm fl
end
/-! ### sorted(xs, key=len), xs a list of lists -/
section
variable {P : Program} {w : World} {A : Around} {E : Value → Shared → Prop} {s : Shared}
theorem sorted_by {l : Addr} {vs : List Value} {kz : List Int} {id : String} {Q : Value → Shared → Prop} (hl : s.heap.IsList l vs.toArray) (hlen : kz.length = vs.length) (hz : vs.length ≤ 100000)
    (turn : ∀ (i : Nat) (v : Value) (k : Int), vs[i]? = some v → kz[i]? = some k → ∀ (A' : Around) (g : Heap) (tk : Nat) (Q : Value → Shared → Prop), (∀ b o, s.heap.get? b = some o → g.get? b = some o) →
      (∀ tk' t, Q (.int k t) { s with heap := g, toks := tk' }) → wpAny (model P w) A' (call (.builtin id) [v]) Q (fun _ _ => False) { s with heap := g, toks := tk })
    (h : ∀ (g : Heap) (tk : Nat) (out : List Value) (p c : Nat), out.Perm vs → (∀ b o, s.heap.get? b = some o → g.get? b = some o) → s.heap.objs.size ≤ p → g.get? p = some (seqObj "list" out.toArray c) → Q (.ref p) { s with heap := g, toks := tk }) :
    wpAny (model P w) A (call (.builtin "sorted") [.ref l] [(Str.ofString "key", .builtin id)]) Q E s := by
  have hz1 : vs.length ≤ sizeLine := by rw [sizeLine_eq]; omega
  refine call_function_entry_kw kind_sorted plain_sorted entry_sorted (ksk_s1 _ _) ?_
  unfold Builtin.«sorted»
  refine wpAny_bind (m := checkCount "sorted" 1 1 _) (wpAny_pure (wpAny_bind (collect_list hl (wpAny_bind (wpAny_newList ?_ hz1)) hz1)))
  obtain ⟨g0, eg0⟩ : ∃ g0, g0 = (s.heap.push (seqObj "list" #[] 0)).update s.heap.objs.size (Obj.mapSeq (· ++ vs.toArray)) := ⟨_, rfl⟩
  have sz : g0.objs.size = s.heap.objs.size + 1 := by rw [eg0, Heap.size_update, size_push']
  have kp : ∀ b o, s.heap.get? b = some o → b ≠ g0.objs.size ∧ (g0.push (seqObj "list" vs.toArray 0)).get? b = some o := fun b o e => by
    have lt := Heap.lt_size e
    refine ⟨by rw [sz]; exact Nat.ne_of_lt (Nat.lt_succ_of_lt lt), Heap.get?_push_of_some _ ?_⟩
    rw [eg0, Heap.get?_update_ne _ _ _ _ (Nat.ne_of_lt lt)]
    exact Heap.get?_push_of_some _ e
  have hol : (g0.push (seqObj "list" vs.toArray 0)).get? g0.objs.size = some (seqObj "list" vs.toArray 0) := Heap.get?_push_size _ rfl
  rw [← eg0]
  refine wpAny_bind (wpAny_holding (wpAny_call_entry_kw (s := { s with heap := g0.push (seqObj "list" vs.toArray 0) }) slot_list_sort ⟨_, hol, rfl⟩ entry_list_sort ?body (ksk_l1 _ _)))
  case body =>
    show wpAny (model P w) A.in1.in1 (Builtin.«list.sort» ⟨[.ref g0.objs.size], [(Str.ofString "key", .builtin id)]⟩) _ _ _
    rw [ksk_t4]
    refine sort_by (s := { s with heap := g0.push (seqObj "list" vs.toArray 0) }) hol hlen hz (fun i v k hv hk g tk Q' gk q => turn i v k hv hk _ g tk Q' (fun b o e => gk b o (kp b o e).1 (kp b o e).2) q) fun g tk out c pm gk ga => ⟨_, rfl, wpAny_pure ⟨_, rfl, ?_⟩⟩
    exact h g tk out _ c pm (fun b o e => gk b o (kp b o e).1 (kp b o e).2) (by rw [sz]; exact Nat.le_succ _) ga
end
section
variable {X : Cx}
def tSortLen (K : PySem.W.Frag) (te : TE) : TE := fun σ H Q => te σ H fun x H1 => ∃ (a : Addr) (ls : List Addr), x = .ref a ∧ SqL K H1 a (ls.map V.ref) ∧ ls.length ≤ 100000 ∧ (∀ l ∈ ls, ∃ ys, H1 l = some (.lst ys)) ∧
  ∀ (ls' : List Addr) (p : Addr), ls'.Perm ls → H1 p = none → Q (.ref p) (upd H1 p (.lst (ls'.map V.ref)))
theorem refs_vals : ∀ {ls : List Addr} {us : List Value}, Vals (ls.map V.ref) us → us = ls.map Value.ref
  | [], _, .nil => rfl
  | _ :: _, _, .cons r t => by
    cases r
    rw [refs_vals t]
    rfl
theorem vals_refs : ∀ (ls : List Addr), Vals (ls.map V.ref) (ls.map Value.ref)
  | [] => .nil
  | _ :: ls => .cons rfl (vals_refs ls)
theorem refs_perm {ls : List Addr} {out : List Value} (pm : out.Perm (ls.map Value.ref)) : ∃ ls' : List Addr, out = ls'.map Value.ref ∧ ls'.Perm ls := by
  have un : ∀ {l : List Addr}, (l.map Value.ref).map adV = l := fun {l} => by
    rw [List.map_map]
    exact (List.map_congr_left fun _ _ => rfl).trans (List.map_id l)
  refine ⟨out.map adV, ?_, ?_⟩
  · rw [List.map_map]
    have e : ∀ v ∈ out, (Value.ref ∘ adV) v = v := fun v hv => by
      obtain ⟨a, _, rfl⟩ := List.mem_map.mp (pm.mem_iff.mp hv)
      rfl
    exact ((List.map_congr_left e).trans (List.map_id' out)).symm
  · have z := pm.map adV
    rw [un] at z
    exact z
theorem pe_sortLen {e : Expr} {te : TE} {p q1 kpos pos : Pos} (hg : Gl X "sorted") (hm : X.mg "sorted" = none) (hg2 : Gl X "len") (hm2 : X.mg "len" = none) (ha : PE X e te)
    (hs : starEach [e] X.env = [(false, eval e X.env)] := by rfl) :
    PE X (.Call (.Name "sorted" p) [e] [⟨some (Str.ofString "key"), .Name "len" q1, kpos⟩] pos) (tSortLen X.K te) := by
  refine ⟨fun pins s σ H Q I h => ?_⟩
  refine wpAny_Call_Name_kw (ld_blt I hg hm (by decide +kernel : bootBuiltins "sorted" = some (.builtin "sorted")) ?_ (by decide) (by decide))
  have one : PA X [e] (tCons te tNil) := pa_cons ha pa_nil (by rw [hs]; rfl)
  refine PyProof.Rows.callWith_kw (thn (one.run pos pins s σ H (fun xs H1 => match xs with
    | [x] => ∃ (a : Addr) (ls : List Addr), x = V.ref a ∧ SqL X.K H1 a (ls.map V.ref) ∧ ls.length ≤ 100000 ∧ (∀ l ∈ ls, ∃ ys, H1 l = some (.lst ys)) ∧
        ∀ (ls' : List Addr) (p : Addr), ls'.Perm ls → H1 p = none → Q (.ref p) (upd H1 p (.lst (ls'.map V.ref)))
    | _ => False) I h) fun us s1 ⟨vs, H1, I1, r1, hq⟩ => ?_) (by rw [hs]; rfl) (by rw [hs]; rfl) (by rfl) (by rfl)
  match vs, hq with
  | [], hq => exact hq.elim
  | _ :: _ :: _, hq => exact hq.elim
  | [x], ⟨a, ls, ex, hl, hz, hls, q⟩ =>
    subst ex
    rw [Vals.ref1 r1]
    refine wpAny_evalAll_cons ?_
    show wpAny _ _ (do let v ← eval (.Name "len" q1) X.env; standAt pos; pure v) _ _ s1
    refine wpAny_bind (ld_blt I1 hg2 hm2 PySem.boot_len (wpAny_bind (wpAny_standAt (wpAny_pure (wpAny_evalAll_nil ?_)))) (by decide) (by decide))
    show wpAny _ _ (call (.builtin "sorted") [.ref a] [(Str.ofString "key", .builtin "len")]) _ _ s1
    obtain ⟨its, rv, pl, _⟩ := I1.list hl
    obtain rfl := refs_vals rv
    have kk : ∃ kz : List Int, kz.length = (ls.map Value.ref).length ∧ ∀ (i : Nat) (v : Value) (k : Int), (ls.map Value.ref)[i]? = some v → kz[i]? = some k → ∃ l its, v = Value.ref l ∧ s1.heap.IsList l its ∧ k = its.size ∧ (its.size : Int) < 2 ^ 63 := by
      have sz : ∀ l ∈ ls, ∃ its : Array Value, s1.heap.IsList l its ∧ (its.size : Int) < 2 ^ 63 := fun l hm => by
        obtain ⟨ys, hy⟩ := hls l hm
        obtain ⟨its, r, pl2, hz2⟩ := I1.list (SqL.of (K := X.K) hy)
        refine ⟨its.toArray, pl2.isList, ?_⟩
        rw [r.length, sizeLine_eq] at hz2
        rw [List.size_toArray]
        omega
      have all : ∀ l : Addr, ∃ n : Int, l ∈ ls → ∃ its : Array Value, s1.heap.IsList l its ∧ n = its.size ∧ (its.size : Int) < 2 ^ 63 := fun l => by
        by_cases hm : l ∈ ls
        · obtain ⟨its, h1, h2⟩ := sz l hm
          exact ⟨its.size, fun _ => ⟨its, h1, rfl, h2⟩⟩
        · exact ⟨0, fun z => absurd z hm⟩
      refine ⟨ls.map fun l => Classical.choose (all l), by simp, fun i v k hv hk => ?_⟩
      rw [List.getElem?_map] at hv hk
      obtain ⟨l, h1, rfl⟩ := Option.map_eq_some_iff.mp hv
      rw [h1] at hk
      cases hk
      obtain ⟨its, a1, a2, a3⟩ := Classical.choose_spec (all l) (List.mem_of_getElem? h1)
      exact ⟨l, its, rfl, a1, a2, a3⟩
    obtain ⟨kz, lk, turn⟩ := kk
    refine sorted_by (P := X.prog) (w := X.w) (kz := kz) pl.isList lk (by rw [List.length_map]; exact hz) (fun i v k hv hk A' g tk Q' gk hq => ?_) fun g tk out p c pm gk hp gp => ?_
    · obtain ⟨l, its, rfl, ⟨o, ho, hr⟩, rfl, fit⟩ := turn i v k hv hk
      exact Calls.call_len_list (s := { s1 with heap := g, toks := tk }) ⟨o, gk l o ho, hr⟩ fit (hq _ _)
    · obtain ⟨ls', rfl, pl'⟩ := refs_perm pm
      have hn := I1.hok.fresh hp
      refine ⟨.ref p, upd H1 p (.lst (ls'.map V.ref)), I1.laid (t' := tk) gk hp ⟨by rw [List.length_map, pl'.length_eq, sizeLine_eq]; omega, _, c, vals_refs ls', gp⟩, rfl, q ls' p pl' hn⟩
end
/-! ### (x,) * k -/
theorem tup_mul0 (l : Addr) (v : Value) (n : Nat) (dd : Option Addr) (sl : Array (Option Value)) (u : Tok) :
    Meets (Builtin.«tuple.__mul__» ⟨[.ref l, .int 0 u], []⟩) (fun _ R s => s.heap.get? l = some { cls := .type "tuple", dict := dd, data := .seq #[v] n, slots := sl } ∧
      R (.ok (.ret (Value.ref s.heap.objs.size))) { s with heap := s.heap.push { cls := Value.type "tuple", data := Data.seq #[] }, toks := s.toks }) :=
  .of_wp fun prog w A R s h => by
    obtain ⟨hp, g, d, tk, os⟩ := s
    obtain ⟨hl, h⟩ := h
    have f1 := AutoSeq1.idx_int
    wp_walk using wpAny_loadPart' hl
    repeat (first
      | (refine wpAny_ite_false (by decide) ?_; wp_walk using wpAny_loadPart' hl)
      | (refine wpAny_ite_true (by decide) ?_; wp_walk using wpAny_loadPart' hl))
    exact ⟨_, rfl, h⟩
theorem tup_mul1 (l : Addr) (v : Value) (n : Nat) (dd : Option Addr) (sl : Array (Option Value)) (u : Tok) :
    Meets (Builtin.«tuple.__mul__» ⟨[.ref l, .int 1 u], []⟩) (fun _ R s => s.heap.get? l = some { cls := .type "tuple", dict := dd, data := .seq #[v] n, slots := sl } ∧ R (.ok (.ret (Value.ref l))) s) :=
  .of_wp fun prog w A R s h => by
    obtain ⟨hp, g, d, tk, os⟩ := s
    obtain ⟨hl, h⟩ := h
    have f1 := AutoSeq1.idx_int
    wp_walk using wpAny_loadPart' hl
    repeat (first
      | (refine wpAny_ite_false (by decide) ?_; wp_walk using wpAny_loadPart' hl)
      | (refine wpAny_ite_true (by decide) ?_; wp_walk using wpAny_loadPart' hl))
    exact ⟨_, rfl, h⟩
def rRep1 (K : PySem.W.Frag) : R2 := fun x y H Q => ∃ l k z, x = .ref l ∧ y = .int k ∧ SqT K H l [z] ∧ 0 ≤ k ∧ k ≤ 1000 ∧ (k = 1 → Q (.ref l) H) ∧ (k ≠ 1 → ∀ p, H p = none → Q (.ref p) (upd H p (.tup (List.replicate k.toNat z))))
theorem op_rep1 {X : Cx} : OpR X (binaryOp .Mult) (rRep1 X.K) := by
  intro pins s σ H x y v u Q I rx ry h
  obtain ⟨l, k, z, rfl, rfl, hT, h0, hk, q1, q2⟩ := h
  by_cases two : 2 ≤ k
  · refine op_repT pins s σ H _ _ v u Q I rx ry ⟨l, k, [z], rfl, rfl, hT, by simp, two, hk, by simp, fun p hp => ?_⟩
    have e : (List.replicate k.toNat [z]).flatten = List.replicate k.toNat z := by
      generalize k.toNat = m
      induction m with
      | zero => rfl
      | succ m ih => rw [List.replicate_succ, List.replicate_succ, List.flatten_cons, ih]; rfl
    rw [e]
    exact q2 (by omega) p hp
  · cases rx
    obtain ⟨t, rfl⟩ := ry
    obtain ⟨its, r, ⟨⟨cls, dd, data, sl⟩, ho, hc, n, hd⟩, hs⟩ := I.tuple hT
    simp only at hc hd
    subst hc hd
    cases r with
    | cons r rr =>
      cases rr
      rename_i v0
      have one : k = 0 ∨ k = 1 := by omega
      rcases one with rfl | rfl
      · refine wpAny_binaryOp_repeat_ref (T := "tuple") (U := "int") (by decide) ⟨_, ho, rfl⟩ (fun s' => typeIs_int s' 0 t) noFill_tuple_mul F.fills_int_mul F.slot_int_rmul repeat_tuple F.slot_int_index.lookup
          (call_meets F.slot_int_rmul (typeIs_int s 0 t) F.entry_int_rmul (F.args_int_rmul_2 _ _) (int_rmul_tuple 0 t l _ n dd sl)
            ⟨ho, rfl, ⟨_, ho, rfl⟩, call_meets F.slot_tuple_mul ⟨_, ho, rfl⟩ F.entry_tuple_mul (F.args_tuple_mul_2 _ _) (tup_mul0 l v0 n dd sl t) ⟨ho, ?_⟩⟩)
        have hn := I.hok.fresh (Nat.le_refl s.heap.objs.size)
        exact ⟨.ref s.heap.objs.size, _, I.laid (t' := s.toks) (o := .tup []) (fun b ob e => Heap.get?_push_of_some _ e) (Nat.le_refl _) ⟨Nat.zero_le _, [], .nil, IsTup.new _ _⟩, rfl, q2 (by decide) _ hn⟩
      · refine wpAny_binaryOp_repeat_ref (T := "tuple") (U := "int") (by decide) ⟨_, ho, rfl⟩ (fun s' => typeIs_int s' 1 t) noFill_tuple_mul F.fills_int_mul F.slot_int_rmul repeat_tuple F.slot_int_index.lookup
          (call_meets F.slot_int_rmul (typeIs_int s 1 t) F.entry_int_rmul (F.args_int_rmul_2 _ _) (int_rmul_tuple 1 t l _ n dd sl)
            ⟨ho, rfl, ⟨_, ho, rfl⟩, call_meets F.slot_tuple_mul ⟨_, ho, rfl⟩ F.entry_tuple_mul (F.args_tuple_mul_2 _ _) (tup_mul1 l v0 n dd sl t) ⟨ho, ?_⟩⟩)
        exact ⟨.ref l, H, I, rfl, q1 rfl⟩
/-! ### stores of four numbers: what is least of them (plain Lean) -/
def le4 : List Int → List Int → Bool
  | [a, b, c, d], [e, f, g, h] => decide (a ≤ e) && (decide (b ≤ f) && (decide (c ≤ g) && decide (d ≤ h)))
  | _, _ => false
def Ok4 (x : List Int) : Prop := ∃ a b c d : Int, x = [a, b, c, d] ∧ 0 ≤ a ∧ 0 ≤ b ∧ 0 ≤ c ∧ 0 ≤ d
theorem le4_iff {a b c d e f g h : Int} : le4 [a, b, c, d] [e, f, g, h] = true ↔ a ≤ e ∧ b ≤ f ∧ c ≤ g ∧ d ≤ h := by
  simp only [le4, Bool.and_eq_true, decide_eq_true_eq]
theorem le4_len {x y : List Int} (h : le4 x y = true) : ∃ a b c d e f g i : Int, x = [a, b, c, d] ∧ y = [e, f, g, i] ∧ a ≤ e ∧ b ≤ f ∧ c ≤ g ∧ d ≤ i := by
  match x, y, h with
  | [a, b, c, d], [e, f, g, i], h =>
    obtain ⟨h1, h2, h3, h4⟩ := le4_iff.mp h
    exact ⟨a, b, c, d, e, f, g, i, rfl, rfl, h1, h2, h3, h4⟩
theorem le4_refl {x : List Int} (h : Ok4 x) : le4 x x = true := by
  obtain ⟨a, b, c, d, rfl, _⟩ := h
  exact le4_iff.mpr ⟨Int.le_refl _, Int.le_refl _, Int.le_refl _, Int.le_refl _⟩
theorem le4_trans {x y z : List Int} (h1 : le4 x y = true) (h2 : le4 y z = true) : le4 x z = true := by
  obtain ⟨a, b, c, d, e, f, g, i, rfl, rfl, p⟩ := le4_len h1
  obtain ⟨_, _, _, _, j, k, l, m, e1, rfl, q⟩ := le4_len h2
  cases e1
  exact le4_iff.mpr ⟨by omega, by omega, by omega, by omega⟩
theorem le4_anti {x y : List Int} (h1 : le4 x y = true) (h2 : le4 y x = true) : x = y := by
  obtain ⟨a, b, c, d, e, f, g, i, rfl, rfl, p⟩ := le4_len h1
  have q := le4_iff.mp h2
  have e1 : a = e := by omega
  have e2 : b = f := by omega
  have e3 : c = g := by omega
  have e4 : d = i := by omega
  rw [e1, e2, e3, e4]
/-- what is covered stands ahead, or is the same -/
theorem le4_lex {x y : List Int} (h : le4 x y = true) : HT.lexLt y x = false := by
  obtain ⟨a, b, c, d, e, f, g, i, rfl, rfl, p⟩ := le4_len h
  simp only [HT.lexLt]
  split
  · split
    · split
      · split
        · rfl
        · exact decide_eq_false (by omega)
      · exact decide_eq_false (by omega)
    · exact decide_eq_false (by omega)
  · exact decide_eq_false (by omega)
theorem lex4_tot {x y : List Int} (hx : x.length = y.length) (h : HT.lexLt y x = false) : x = y ∨ HT.lexLt x y = true := by
  induction x generalizing y with
  | nil =>
    cases y with
    | nil => exact .inl rfl
    | cons b y => simp at hx
  | cons a x ih =>
    cases y with
    | nil => simp at hx
    | cons b y =>
      rw [HT.lexLt_cons] at h ⊢
      by_cases e : a = b
      · subst e
        rw [if_pos rfl] at h ⊢
        rcases ih (by simpa using hx) h with rfl | z
        · exact .inl rfl
        · exact .inr z
      · rw [if_neg (fun z => e z.symm)] at h
        rw [if_neg e]
        have := of_decide_eq_false h
        exact .inr (decide_eq_true (by omega))
theorem lex_irr (x : List Int) : HT.lexLt x x = false := by
  induction x with
  | nil => rfl
  | cons a x ih =>
    rw [HT.lexLt_cons, if_pos rfl]
    exact ih
def UpS (S : List (List Int)) (x : List Int) : Prop := ∃ y ∈ S, le4 y x = true
def anyLe (x : List Int) (S : List (List Int)) : Bool := S.any fun y => le4 y x
theorem anyLe_iff {x : List Int} {S : List (List Int)} : anyLe x S = true ↔ UpS S x := by
  unfold anyLe UpS
  rw [List.any_eq_true]
theorem UpS.mono {S : List (List Int)} {x y : List Int} (h : UpS S x) (l : le4 x y = true) : UpS S y :=
  let ⟨z, hz, e⟩ := h; ⟨z, hz, le4_trans e l⟩
/-- M: the least ones of U, sorted -/
structure Canon (M : List (List Int)) (U : List Int → Prop) : Prop where
  ok : ∀ x ∈ M, Ok4 x
  srt : M.Pairwise fun x y => HT.lexLt x y = true
  anti : ∀ x ∈ M, ∀ y ∈ M, le4 x y = true → x = y
  up : ∀ x, Ok4 x → (UpS M x ↔ U x)
theorem Canon.congr {M : List (List Int)} {U V : List Int → Prop} (c : Canon M U) (h : ∀ x, Ok4 x → (U x ↔ V x)) : Canon M V :=
  ⟨c.ok, c.srt, c.anti, fun x hx => (c.up x hx).trans (h x hx)⟩
theorem Canon.mem {M N : List (List Int)} {U : List Int → Prop} (c : Canon M U) (d : Canon N U) {x : List Int} (hx : x ∈ M) : x ∈ N := by
  have ox := c.ok x hx
  obtain ⟨y, hy, l1⟩ := (d.up x ox).mpr ((c.up x ox).mp ⟨x, hx, le4_refl ox⟩)
  have oy := d.ok y hy
  obtain ⟨z, hz, l2⟩ := (c.up y oy).mpr ((d.up y oy).mp ⟨y, hy, le4_refl oy⟩)
  have e := c.anti z hz x hx (le4_trans l2 l1)
  subst e
  rw [le4_anti l2 l1]
  exact hy
theorem srt_eq : ∀ {M N : List (List Int)}, (M.Pairwise fun x y => HT.lexLt x y = true) → (N.Pairwise fun x y => HT.lexLt x y = true) → (∀ x, x ∈ M ↔ x ∈ N) → M = N
  | [], [], _, _, _ => rfl
  | [], y :: N, _, _, h => absurd ((h y).mpr List.mem_cons_self) (by simp)
  | x :: M, [], _, _, h => absurd ((h x).mp List.mem_cons_self) (by simp)
  | x :: M, y :: N, hM, hN, h => by
    obtain ⟨m1, m2⟩ := List.pairwise_cons.mp hM
    obtain ⟨n1, n2⟩ := List.pairwise_cons.mp hN
    have e : x = y := by
      rcases List.mem_cons.mp ((h x).mp List.mem_cons_self) with e | e
      · exact e
      · rcases List.mem_cons.mp ((h y).mpr List.mem_cons_self) with e2 | e2
        · exact e2.symm
        · have a := n1 x e
          have b := m1 y e2
          rw [NtL.lex_asym _ _ a] at b
          cases b
    subst e
    refine congrArg (x :: ·) (srt_eq m2 n2 fun z => ⟨fun hz => ?_, fun hz => ?_⟩)
    · rcases List.mem_cons.mp ((h z).mp (List.mem_cons_of_mem _ hz)) with rfl | r
      · have a := m1 z hz
        rw [lex_irr] at a
        cases a
      · exact r
    · rcases List.mem_cons.mp ((h z).mpr (List.mem_cons_of_mem _ hz)) with rfl | r
      · have a := n1 z hz
        rw [lex_irr] at a
        cases a
      · exact r
theorem Canon.uniq {M N : List (List Int)} {U : List Int → Prop} (c : Canon M U) (d : Canon N U) : M = N := srt_eq c.srt d.srt fun _ => ⟨c.mem d, d.mem c⟩
/-- sorted ones gone through: each that covers no one found yet -/
def sieve : List (List Int) → List (List Int) → List (List Int)
  | found, [] => found
  | found, x :: r => if anyLe x found then sieve found r else sieve (found ++ [x]) r
theorem sieve_snoc : ∀ (T found : List (List Int)) (x : List Int), sieve found (T ++ [x]) = if anyLe x (sieve found T) then sieve found T else sieve found T ++ [x]
  | [], found, x => rfl
  | y :: T, found, x => by
    cases h : anyLe y found with
    | true =>
      have e1 : sieve found (y :: T ++ [x]) = sieve found (T ++ [x]) := if_pos h
      have e2 : sieve found (y :: T) = sieve found T := if_pos h
      rw [e1, e2]
      exact sieve_snoc T found x
    | false =>
      have e1 : sieve found (y :: T ++ [x]) = sieve (found ++ [y]) (T ++ [x]) := if_neg (by rw [h]; decide)
      have e2 : sieve found (y :: T) = sieve (found ++ [y]) T := if_neg (by rw [h]; decide)
      rw [e1, e2]
      exact sieve_snoc T _ x
theorem sieve_ok {T : List (List Int)} (ok : ∀ x ∈ T, Ok4 x) (srt : T.Pairwise fun x y => HT.lexLt x y = true) : ∀ n, n ≤ T.length →
    (∀ x ∈ sieve [] (T.take n), x ∈ T.take n) ∧ ((sieve [] (T.take n)).Pairwise fun x y => HT.lexLt x y = true) ∧ (∀ x ∈ sieve [] (T.take n), ∀ y ∈ sieve [] (T.take n), le4 x y = true → x = y) ∧ (∀ x, UpS (sieve [] (T.take n)) x ↔ UpS (T.take n) x)
  | 0, _ => by
    rw [List.take_zero]
    exact ⟨fun x h => h, List.Pairwise.nil, fun x h => (nomatch h), fun x => Iff.rfl⟩
  | n + 1, hn => by
    obtain ⟨i1, i2, i3, i4⟩ := sieve_ok ok srt n (by omega)
    obtain ⟨x, hx⟩ : ∃ x, T[n]? = some x := ⟨_, List.getElem?_eq_getElem hn⟩
    have et : T.take (n + 1) = T.take n ++ [x] := by rw [List.take_succ, hx]; rfl
    have before : ∀ y ∈ T.take n, HT.lexLt y x = true := fun y hy => by
      have s := srt.sublist (List.take_sublist (n + 1) T)
      rw [et] at s
      exact (List.pairwise_append.mp s).2.2 y hy x (List.mem_singleton.mpr rfl)
    rw [et, sieve_snoc]
    by_cases c : anyLe x (sieve [] (T.take n)) = true
    · rw [if_pos c]
      refine ⟨fun y hy => List.mem_append_left _ (i1 y hy), i2, i3, fun y => ⟨fun h => ?_, fun h => ?_⟩⟩
      · obtain ⟨z, hz, e⟩ := (i4 y).mp h
        exact ⟨z, List.mem_append_left _ hz, e⟩
      · obtain ⟨z, hz, e⟩ := h
        rcases List.mem_append.mp hz with hz | hz
        · exact (i4 y).mpr ⟨z, hz, e⟩
        · rw [List.mem_singleton.mp hz] at e
          exact (anyLe_iff.mp c).mono e
    · rw [if_neg c]
      have no : ∀ y ∈ sieve [] (T.take n), ¬ le4 y x = true := fun y hy e => c (anyLe_iff.mpr ⟨y, hy, e⟩)
      refine ⟨fun y hy => ?_, List.pairwise_append.mpr ⟨i2, List.pairwise_singleton _ _, fun y hy z hz => ?_⟩, fun y hy z hz e => ?_, fun y => ⟨fun h => ?_, fun h => ?_⟩⟩
      · rcases List.mem_append.mp hy with hy | hy
        · exact List.mem_append_left _ (i1 y hy)
        · exact List.mem_append_right _ hy
      · rw [List.mem_singleton.mp hz]
        exact before y (i1 y hy)
      · rcases List.mem_append.mp hy with hy | hy
        · rcases List.mem_append.mp hz with hz | hz
          · exact i3 y hy z hz e
          · rw [List.mem_singleton.mp hz] at e
            exact absurd e (no y hy)
        · rw [List.mem_singleton.mp hy] at e ⊢
          rcases List.mem_append.mp hz with hz | hz
          · have a := le4_lex e
            rw [before z (i1 z hz)] at a
            cases a
          · exact (List.mem_singleton.mp hz).symm
      · obtain ⟨z, hz, e⟩ := h
        rcases List.mem_append.mp hz with hz | hz
        · obtain ⟨u, hu, e2⟩ := (i4 y).mp ⟨z, hz, e⟩
          exact ⟨u, List.mem_append_left _ hu, e2⟩
        · exact ⟨z, List.mem_append_right _ hz, e⟩
      · obtain ⟨z, hz, e⟩ := h
        rcases List.mem_append.mp hz with hz | hz
        · obtain ⟨u, hu, e2⟩ := (i4 y).mpr ⟨z, hz, e⟩
          exact ⟨u, List.mem_append_left _ hu, e2⟩
        · exact ⟨z, List.mem_append_right _ hz, e⟩
theorem sieve_len : ∀ (T found : List (List Int)), (sieve found T).length ≤ found.length + T.length
  | [], _ => Nat.le_refl _
  | x :: T, found => by
    simp only [sieve]
    split
    · have := sieve_len T found
      rw [List.length_cons]
      omega
    · have := sieve_len T (found ++ [x])
      rw [List.length_append, List.length_singleton] at this
      rw [List.length_cons]
      omega
theorem sieve_canon {T : List (List Int)} (ok : ∀ x ∈ T, Ok4 x) (srt : T.Pairwise fun x y => HT.lexLt x y = true) : Canon (sieve [] T) (UpS T) := by
  obtain ⟨i1, i2, i3, i4⟩ := sieve_ok ok srt T.length (Nat.le_refl _)
  rw [List.take_length] at i1 i2 i3 i4
  exact ⟨fun x hx => ok x (i1 x hx), i2, i3, fun x _ => i4 x⟩
/-! ### what a way needs, what covers both -/
def need4 (w s : List Int) : List Int := List.zipWith (fun x y => max 0 (y - x)) w s
def join4 (x y : List Int) : List Int := List.zipWith max x y
def add4 (x w : List Int) : List Int := List.zipWith (· + ·) x w
theorem need4_ok {w s : List Int} (hw : w.length = 4) (hs : Ok4 s) : Ok4 (need4 w s) := by
  obtain ⟨a, b, c, d, rfl, _⟩ := hs
  match w, hw with
  | [e, f, g, h], _ => exact ⟨max 0 (a - e), max 0 (b - f), max 0 (c - g), max 0 (d - h), rfl, by omega, by omega, by omega, by omega⟩
theorem join4_ok {x y : List Int} (hx : Ok4 x) (hy : Ok4 y) : Ok4 (join4 x y) := by
  obtain ⟨a, b, c, d, rfl, _⟩ := hx
  obtain ⟨e, f, g, h, rfl, _⟩ := hy
  exact ⟨max a e, max b f, max c g, max d h, rfl, by omega, by omega, by omega, by omega⟩
theorem join4_le {x y z : List Int} (hx : Ok4 x) (hy : Ok4 y) (hz : Ok4 z) : le4 (join4 x y) z = true ↔ le4 x z = true ∧ le4 y z = true := by
  obtain ⟨a, b, c, d, rfl, _⟩ := hx
  obtain ⟨e, f, g, h, rfl, _⟩ := hy
  obtain ⟨i, j, k, l, rfl, _⟩ := hz
  show le4 [max a e, max b f, max c g, max d h] [i, j, k, l] = true ↔ _
  rw [le4_iff, le4_iff, le4_iff]
  omega
/-- x covers what the way w needs for s just where w leads from x to what covers s -/
theorem need4_le {w s x : List Int} (hw : w.length = 4) (hs : Ok4 s) (hx : Ok4 x) : le4 (need4 w s) x = true ↔ Ok4 (add4 x w) ∧ le4 s (add4 x w) = true := by
  obtain ⟨a, b, c, d, rfl, _⟩ := hs
  obtain ⟨i, j, k, l, rfl, _⟩ := hx
  match w, hw with
  | [e, f, g, h], _ =>
    show le4 [max 0 (a - e), max 0 (b - f), max 0 (c - g), max 0 (d - h)] [i, j, k, l] = true ↔ Ok4 [i + e, j + f, k + g, l + h] ∧ le4 [a, b, c, d] [i + e, j + f, k + g, l + h] = true
    rw [le4_iff, le4_iff]
    constructor
    · intro z
      exact ⟨⟨_, _, _, _, rfl, by omega, by omega, by omega, by omega⟩, by omega⟩
    · rintro ⟨_, z⟩
      omega
/-- the ones of A that cover one of B, and joined ones of the others -/
def bothL (A B : List (List Int)) : List (List Int) := A.flatMap fun s => if anyLe s B then [s] else B.map (join4 s)
theorem bothL_ok {A B : List (List Int)} (hA : ∀ x ∈ A, Ok4 x) (hB : ∀ x ∈ B, Ok4 x) : ∀ x ∈ bothL A B, Ok4 x := fun x hx => by
  obtain ⟨s, hs, h⟩ := List.mem_flatMap.mp hx
  split at h
  · rw [List.mem_singleton.mp h]
    exact hA s hs
  · obtain ⟨t, ht, rfl⟩ := List.mem_map.mp h
    exact join4_ok (hA s hs) (hB t ht)
theorem bothL_up {A B : List (List Int)} (hA : ∀ x ∈ A, Ok4 x) (hB : ∀ x ∈ B, Ok4 x) {x : List Int} (hx : Ok4 x) : UpS (bothL A B) x ↔ UpS A x ∧ UpS B x := by
  constructor
  · rintro ⟨y, hy, l⟩
    obtain ⟨s, hs, h⟩ := List.mem_flatMap.mp hy
    split at h
    · rename_i c
      rw [List.mem_singleton.mp h] at l
      exact ⟨⟨s, hs, l⟩, (anyLe_iff.mp c).mono l⟩
    · obtain ⟨t, ht, rfl⟩ := List.mem_map.mp h
      have z := (join4_le (hA s hs) (hB t ht) hx).mp l
      exact ⟨⟨s, hs, z.1⟩, ⟨t, ht, z.2⟩⟩
  · rintro ⟨⟨s, hs, l1⟩, ⟨t, ht, l2⟩⟩
    by_cases c : anyLe s B = true
    · exact ⟨s, List.mem_flatMap.mpr ⟨s, hs, by rw [if_pos c]; exact List.mem_singleton.mpr rfl⟩, l1⟩
    · exact ⟨join4 s t, List.mem_flatMap.mpr ⟨s, hs, by rw [if_neg c]; exact List.mem_map.mpr ⟨t, ht, rfl⟩⟩, (join4_le (hA s hs) (hB t ht) hx).mpr ⟨l1, l2⟩⟩
theorem bothL_len {A B : List (List Int)} : (bothL A B).length ≤ A.length * (B.length + 1) := by
  unfold bothL
  induction A with
  | nil => simp
  | cons s A ih =>
    rw [List.flatMap_cons, List.length_append, List.length_cons, Nat.succ_mul]
    have : (if anyLe s B then [s] else B.map (join4 s)).length ≤ B.length + 1 := by
      split
      · simp
      · simp
    omega
/-! ### how many asks a store lasts -/
abbrev Asks := List (List (List Int))
def LN (asks : Asks) : Nat → List Int → Prop
  | 0, _ => True
  | n + 1, x => ∀ a ∈ asks, ∃ w ∈ a, Ok4 (add4 x w) ∧ LN asks n (add4 x w)
def Nd (asks : Asks) (j : Nat) (a : List (List Int)) (x : List Int) : Prop := ∃ w ∈ a, Ok4 (add4 x w) ∧ LN asks j (add4 x w)
theorem LN.down {asks : Asks} : ∀ {n : Nat} {x : List Int}, LN asks (n + 1) x → LN asks n x
  | 0, _, _ => True.intro
  | _ + 1, _, h => fun a ha => let ⟨w, hw, o, z⟩ := h a ha; ⟨w, hw, o, LN.down z⟩
theorem LN.le {asks : Asks} {n m : Nat} {x : List Int} (h : LN asks m x) (l : n ≤ m) : LN asks n x := by
  induction l with
  | refl => exact h
  | step _ ih => exact ih h.down
/-- from where two are alike all are -/
theorem LN.rest {asks : Asks} {j : Nat} (e : ∀ x, Ok4 x → (LN asks j x ↔ LN asks (j + 1) x)) : ∀ (k : Nat) (x : List Int), Ok4 x → (LN asks j x ↔ LN asks (j + k) x)
  | 0, _, _ => Iff.rfl
  | k + 1, x, hx => by
    refine ((e x hx).trans ⟨fun h a ha => ?_, fun h a ha => ?_⟩)
    · obtain ⟨w, hw, o, z⟩ := h a ha
      exact ⟨w, hw, o, (LN.rest e k _ o).mp z⟩
    · obtain ⟨w, hw, o, z⟩ := h a ha
      exact ⟨w, hw, o, (LN.rest e k _ o).mpr z⟩
theorem ok_zero : Ok4 [0, 0, 0, 0] := ⟨0, 0, 0, 0, rfl, by decide, by decide, by decide, by decide⟩
theorem canon_zero (asks : Asks) : Canon [[0, 0, 0, 0]] (LN asks 0) := by
  refine ⟨fun x hx => by rw [List.mem_singleton.mp hx]; exact ok_zero, List.pairwise_singleton _ _, fun x hx y hy _ => by rw [List.mem_singleton.mp hx, List.mem_singleton.mp hy], fun x hx => ⟨fun _ => True.intro, fun _ => ?_⟩⟩
  obtain ⟨a, b, c, d, rfl, h⟩ := hx
  exact ⟨_, List.mem_singleton.mpr rfl, le4_iff.mpr h⟩
/-- the needs of an ask, from the least ones -/
theorem needs_up {asks : Asks} {j : Nat} {B : List (List Int)} (c : Canon B (LN asks j)) {a : List (List Int)} (hw : ∀ w ∈ a, w.length = 4) {x : List Int} (hx : Ok4 x) :
    UpS (a.flatMap fun w => B.map (need4 w)) x ↔ Nd asks j a x := by
  constructor
  · rintro ⟨y, hy, l⟩
    obtain ⟨w, ha, h⟩ := List.mem_flatMap.mp hy
    obtain ⟨s, hs, rfl⟩ := List.mem_map.mp h
    obtain ⟨o, z⟩ := (need4_le (hw w ha) (c.ok s hs) hx).mp l
    exact ⟨w, ha, o, (c.up _ o).mp ⟨s, hs, z⟩⟩
  · rintro ⟨w, ha, o, z⟩
    obtain ⟨s, hs, l⟩ := (c.up _ o).mpr z
    exact ⟨need4 w s, List.mem_flatMap.mpr ⟨w, ha, List.mem_map.mpr ⟨s, hs, rfl⟩⟩, (need4_le (hw w ha) (c.ok s hs) hx).mpr ⟨o, l⟩⟩
/-- few enough all the way -/
structure Few (asks : Asks) (n m : Nat) : Prop where
  sq : m * (m + 1) < 4096
  fv : m * 5 < 4096
  all : ∀ j, j < n → ∀ as : Asks, (∀ a ∈ as, a ∈ asks) → ∀ M, Canon M (fun x => LN asks j x ∧ ∀ a ∈ as, Nd asks j a x) → M.length ≤ m
  one : ∀ j, j < n → ∀ a ∈ asks, ∀ M, Canon M (Nd asks j a) → M.length ≤ m
/-! ### t[a:b], the whole of t too -/
open HT (sIx)
section
variable {P : Program} {w : World} {A : Around} {E : Value → Shared → Prop} {s : Shared}
theorem tup_whole {t sl : Addr} {items : Array Value} {vl vu : Value} {lo hi : Option Int} {Q : Value → Shared → Prop} (ht : IsTup s.heap t items) (hs : s.heap.IsSliceOf sl vl vu .none) (pl : IsPart vl lo) (pu : IsPart vu hi)
    (w1 : sIx items.size 0 lo = 0) (w2 : sIx items.size items.size hi = items.size) (h : Q (.ref t) s) : wpAny (model P w) A (getItem (.ref t) (.ref sl)) Q E s := by
  obtain ⟨os, hos, hcs, hds⟩ := id hs
  have hTs : s.TypeIs (.ref sl) "slice" := ⟨os, hos, hcs⟩
  unfold getItem
  try with_reducible refine wpAny_holding ?_
  first
    | refine wpAny_bind (wpAny_pure ?_)
    | skip
  refine wpAny_bind (wpAny_sequenceKey ht.typeIs (by decide) (wpAny_bind (wpAny_callSpecial?_slot (name := Str.ofString "__getitem__") ht.typeIs PyProof.Rows.slot_tuple_getitem
    (wpAny_call_entry PyProof.Rows.slot_tuple_getitem ht.typeIs PyProof.Rows.entry_tuple_getitem ?_ (PyProof.Rows.args_tuple_getitem _ _)))))
  show wpAny _ _ (Builtin.Tuple.tupleItemsOf (.ref t) >>= _) _ _ s
  refine wpAny_bind (PyProof.Rows.tupleItemsOf_ ht (wpAny_bind (wpAny_typeOf hTs ?_)))
  rw [if_pos (by decide)]
  refine wpAny_bind (HT.sliceApplied_gen hs pl pu ?_)
  rw [w1, w2]
  show wpAny _ _ (if (((0 : Nat) : Int) == 0 && (1 : Int) == 1 && (items.size - 0) == items.size) = true then _ else _) _ _ s
  rw [if_pos (by simp)]
  unfold Builtin.Tuple.tupleIsExact
  repeat (first
    | exact wpAny_pure ⟨_, rfl, wpAny_pure h⟩
    | (with_reducible refine wpAny_typeOf ht.typeIs ?_)
    | (with_reducible refine wpAny_rule ?_)
    | wp_step)
end
def rSlA (K : PySem.W.Frag) : V → Option Int → Option Int → Hp → VK → Prop := fun x lo hi H Q => ∃ a xs, x = .ref a ∧ SqT K H a xs ∧
  ((sIx xs.length 0 lo = 0 ∧ sIx xs.length xs.length hi = xs.length) → Q (.ref a) H) ∧ (¬ (sIx xs.length 0 lo = 0 ∧ sIx xs.length xs.length hi = xs.length) → ∀ p, H p = none → Q (.ref p) (upd H p (.tup (cutV xs lo hi))))
theorem sl_tupA {X : Cx} : SlR X (rSlA X.K) := by
  intro pins s σ H x v vl vu lo hi sl Q I rx hs pl pu h
  obtain ⟨a, xs, rfl, hx, q1, q2⟩ := h
  by_cases c : sIx xs.length 0 lo = 0 ∧ sIx xs.length xs.length hi = xs.length
  · cases rx
    obtain ⟨its, r, ht, hz⟩ := I.tuple hx
    have hl : its.toArray.size = xs.length := by rw [List.size_toArray]; exact r.length.symm
    exact ⟨"tuple", _, PyProof.Rows.slot_tuple_getitem.lookup, ht.typeIs, tup_whole ht hs pl pu (by rw [hl]; exact c.1) (by rw [hl]; exact c.2) ⟨.ref a, H, I, rfl, q1 c⟩⟩
  · exact sl_tup pins s σ H _ v vl vu lo hi sl Q I rx hs pl pu ⟨a, xs, rfl, hx, c, q2 c⟩
/-! ### what lasts lasts by what it has up to a bound (plain Lean) -/
def clip4 (t x : List Int) : List Int := List.zipWith min t x
theorem add4_le {x y w : List Int} (h : le4 x y = true) (o : Ok4 (add4 x w)) : Ok4 (add4 y w) ∧ le4 (add4 x w) (add4 y w) = true := by
  obtain ⟨a, b, c, d, e, f, g, i, rfl, rfl, p⟩ := le4_len h
  obtain ⟨p1, p2, p3, p4, q, o⟩ := o
  match w, q with
  | [], q => cases q
  | [_], q => cases q
  | [_, _], q => cases q
  | [_, _, _], q => cases q
  | w1 :: w2 :: w3 :: w4 :: r, q =>
    have q' : [a + w1, b + w2, c + w3, d + w4] = [p1, p2, p3, p4] := q
    obtain ⟨q1, q⟩ := List.cons.inj q'
    obtain ⟨q2, q⟩ := List.cons.inj q
    obtain ⟨q3, q⟩ := List.cons.inj q
    obtain ⟨q4, _⟩ := List.cons.inj q
    exact ⟨⟨e + w1, f + w2, g + w3, i + w4, rfl, by omega, by omega, by omega, by omega⟩, show le4 [a + w1, b + w2, c + w3, d + w4] [e + w1, f + w2, g + w3, i + w4] = true from le4_iff.mpr ⟨by omega, by omega, by omega, by omega⟩⟩
theorem LN.mono {asks : Asks} : ∀ {n : Nat} {x y : List Int}, LN asks n x → le4 x y = true → LN asks n y
  | 0, _, _, _, _ => True.intro
  | _ + 1, _, _, h, l => fun a ha => by
    obtain ⟨w, hw, o, z⟩ := h a ha
    obtain ⟨o2, l2⟩ := add4_le l o
    exact ⟨w, hw, o2, z.mono l2⟩
theorem Nd.mono {asks : Asks} {n : Nat} {a : List (List Int)} {x y : List Int} (h : Nd asks n a x) (l : le4 x y = true) : Nd asks n a y := by
  obtain ⟨w, hw, o, z⟩ := h
  obtain ⟨o2, l2⟩ := add4_le l o
  exact ⟨w, hw, o2, z.mono l2⟩
structure Ways4 (asks : Asks) (s1 s2 s3 s4 : Int) : Prop where
  p1 : 0 ≤ s1
  p2 : 0 ≤ s2
  p3 : 0 ≤ s3
  p4 : 0 ≤ s4
  all : ∀ a ∈ asks, ∀ w ∈ a, ∃ e f g h : Int, w = [e, f, g, h] ∧ (-s1 ≤ e ∧ e ≤ s1) ∧ (-s2 ≤ f ∧ f ≤ s2) ∧ (-s3 ≤ g ∧ g ≤ s3) ∧ (-s4 ≤ h ∧ h ≤ s4)
theorem mul_up (s : Int) (n : Nat) : s * ((n + 1 : Nat) : Int) = s * n + s := by rw [Int.natCast_succ, Int.mul_add, Int.mul_one]
theorem nd_clip {asks : Asks} {s1 s2 s3 s4 : Int} (W : Ways4 asks s1 s2 s3 s4) {n : Nat}
    (ih : ∀ {x : List Int} {t1 t2 t3 t4 : Int}, Ok4 x → s1 * n ≤ t1 → s2 * n ≤ t2 → s3 * n ≤ t3 → s4 * n ≤ t4 → LN asks n x → LN asks n (clip4 [t1, t2, t3, t4] x))
    {a : List (List Int)} (ha : a ∈ asks) {x : List Int} {t1 t2 t3 t4 : Int} (hx : Ok4 x) (h1 : s1 * ((n + 1 : Nat) : Int) ≤ t1) (h2 : s2 * ((n + 1 : Nat) : Int) ≤ t2) (h3 : s3 * ((n + 1 : Nat) : Int) ≤ t3) (h4 : s4 * ((n + 1 : Nat) : Int) ≤ t4)
    (h : Nd asks n a x) : Nd asks n a (clip4 [t1, t2, t3, t4] x) := by
  obtain ⟨w, hw, o, z⟩ := h
  obtain ⟨e, f, g, i, rfl, b1, b2, b3, b4⟩ := W.all a ha w hw
  obtain ⟨x1, x2, x3, x4, rfl, o1, o2, o3, o4⟩ := hx
  rw [mul_up] at h1 h2 h3 h4
  have z2 := ih (t1 := t1 - s1) (t2 := t2 - s2) (t3 := t3 - s3) (t4 := t4 - s4) o (by omega) (by omega) (by omega) (by omega) z
  obtain ⟨y1, y2, y3, y4, q, o⟩ := o
  have q' : [x1 + e, x2 + f, x3 + g, x4 + i] = [y1, y2, y3, y4] := q
  obtain ⟨q1, q⟩ := List.cons.inj q'
  obtain ⟨q2, q⟩ := List.cons.inj q
  obtain ⟨q3, q⟩ := List.cons.inj q
  obtain ⟨q4, _⟩ := List.cons.inj q
  have m1 : 0 ≤ s1 * (n : Int) := Int.mul_nonneg W.p1 (by omega)
  have m2 : 0 ≤ s2 * (n : Int) := Int.mul_nonneg W.p2 (by omega)
  have m3 : 0 ≤ s3 * (n : Int) := Int.mul_nonneg W.p3 (by omega)
  have m4 : 0 ≤ s4 * (n : Int) := Int.mul_nonneg W.p4 (by omega)
  refine ⟨_, hw, ⟨min t1 x1 + e, min t2 x2 + f, min t3 x3 + g, min t4 x4 + i, rfl, by omega, by omega, by omega, by omega⟩, z2.mono ?_⟩
  show le4 [min (t1 - s1) (x1 + e), min (t2 - s2) (x2 + f), min (t3 - s3) (x3 + g), min (t4 - s4) (x4 + i)] [min t1 x1 + e, min t2 x2 + f, min t3 x3 + g, min t4 x4 + i] = true
  rw [le4_iff]
  omega
theorem ln_clip {asks : Asks} {s1 s2 s3 s4 : Int} (W : Ways4 asks s1 s2 s3 s4) : ∀ (n : Nat) {x : List Int} {t1 t2 t3 t4 : Int}, Ok4 x → s1 * n ≤ t1 → s2 * n ≤ t2 → s3 * n ≤ t3 → s4 * n ≤ t4 → LN asks n x → LN asks n (clip4 [t1, t2, t3, t4] x)
  | 0, _, _, _, _, _, _, _, _, _, _, _ => True.intro
  | n + 1, _, _, _, _, _, hx, h1, h2, h3, h4, h => fun a ha => nd_clip W (ln_clip W n) ha hx h1 h2 h3 h4 (h a ha)
theorem clip_ok {x : List Int} {t1 t2 t3 t4 : Int} (hx : Ok4 x) (h1 : 0 ≤ t1) (h2 : 0 ≤ t2) (h3 : 0 ≤ t3) (h4 : 0 ≤ t4) : Ok4 (clip4 [t1, t2, t3, t4] x) ∧ le4 (clip4 [t1, t2, t3, t4] x) x = true := by
  obtain ⟨x1, x2, x3, x4, rfl, o1, o2, o3, o4⟩ := hx
  exact ⟨⟨min t1 x1, min t2 x2, min t3 x3, min t4 x4, rfl, by omega, by omega, by omega, by omega⟩, show le4 [min t1 x1, min t2 x2, min t3 x3, min t4 x4] [x1, x2, x3, x4] = true from le4_iff.mpr ⟨by omega, by omega, by omega, by omega⟩⟩
/-- the least ones lie within the bound -/
theorem canon_box {U : List Int → Prop} {M : List (List Int)} (c : Canon M U) {t1 t2 t3 t4 : Int} (h1 : 0 ≤ t1) (h2 : 0 ≤ t2) (h3 : 0 ≤ t3) (h4 : 0 ≤ t4) (cl : ∀ x, Ok4 x → U x → U (clip4 [t1, t2, t3, t4] x)) :
    ∀ x ∈ M, ∃ a b c d : Int, x = [a, b, c, d] ∧ (0 ≤ a ∧ a ≤ t1) ∧ (0 ≤ b ∧ b ≤ t2) ∧ (0 ≤ c ∧ c ≤ t3) ∧ (0 ≤ d ∧ d ≤ t4) := fun x hx => by
  have ox := c.ok x hx
  obtain ⟨ok, l⟩ := clip_ok ox h1 h2 h3 h4
  obtain ⟨y, hy, l2⟩ := (c.up _ ok).mpr (cl x ox ((c.up x ox).mp ⟨x, hx, le4_refl ox⟩))
  have e := c.anti y hy x hx (le4_trans l2 l)
  subst e
  obtain ⟨a, b, cc, d, rfl, o1, o2, o3, o4⟩ := ox
  have q := le4_iff.mp (show le4 [a, b, cc, d] [min t1 a, min t2 b, min t3 cc, min t4 d] = true from l2)
  exact ⟨a, b, cc, d, rfl, by omega, by omega, by omega, by omega⟩
theorem sub_len {α : Type} [BEq α] [LawfulBEq α] : ∀ {l m : List α}, l.Nodup → (∀ x ∈ l, x ∈ m) → l.length ≤ m.length
  | [], _, _, _ => Nat.zero_le _
  | x :: l, m, nd, h => by
    obtain ⟨n1, n2⟩ := List.nodup_cons.mp nd
    have hx := h x List.mem_cons_self
    have := sub_len (m := m.erase x) n2 fun y hy => (List.mem_erase_of_ne fun e => n1 (by rw [← e]; exact hy)).mpr (h y (List.mem_cons_of_mem _ hy))
    rw [List.length_erase_of_mem hx] at this
    have := List.length_pos_of_mem hx
    rw [List.length_cons]
    omega
theorem boxflat_len {α β : Type} {f : α → List β} {q : Nat} (h : ∀ x, (f x).length = q) : ∀ l : List α, (l.flatMap f).length = l.length * q
  | [] => by simp
  | x :: l => by
    rw [List.flatMap_cons, List.length_append, h, boxflat_len h l, List.length_cons, Nat.succ_mul]
    omega
def key2 : List Int → Nat × Nat
  | a :: b :: _ => (a.toNat, b.toNat)
  | _ => (0, 0)
theorem canon_len {U : List Int → Prop} {M : List (List Int)} (c : Canon M U) {t1 t2 t3 : Int} (h1 : 0 ≤ t1) (h2 : 0 ≤ t2) (h3 : 0 ≤ t3) (cl : ∀ x, Ok4 x → U x → U (clip4 [t1, t2, t3, 0] x)) : M.length ≤ (t1.toNat + 1) * (t2.toNat + 1) := by
  have box := canon_box c h1 h2 h3 (Int.le_refl 0) cl
  have nd : (M.map key2).Nodup := by
    have p : M.Pairwise fun x y => key2 x ≠ key2 y := by
      refine List.Pairwise.imp_of_mem (R := fun x y => HT.lexLt x y = true) (fun {x y} hx hy l e => ?_) c.srt
      obtain ⟨a, b, cc, d, rfl, p1, p2, p3, p4⟩ := box x hx
      obtain ⟨a', b', cc', d', rfl, q1, q2, q3, q4⟩ := box y hy
      obtain ⟨e1, e2⟩ := Prod.mk.inj (show (a.toNat, b.toNat) = (a'.toNat, b'.toNat) from e)
      have ea : a = a' := by omega
      have eb : b = b' := by omega
      have ed : d = d' := by omega
      subst ea
      subst eb
      subst ed
      have same : [a, b, cc, d] = [a, b, cc', d] := by
        by_cases z : cc ≤ cc'
        · exact c.anti _ hx _ hy (le4_iff.mpr ⟨Int.le_refl _, Int.le_refl _, z, Int.le_refl _⟩)
        · exact (c.anti _ hy _ hx (le4_iff.mpr ⟨Int.le_refl _, Int.le_refl _, by omega, Int.le_refl _⟩)).symm
      rw [same, lex_irr] at l
      cases l
    exact List.Pairwise.map _ (fun _ _ h => h) p
  have sub := sub_len (m := (List.range (t1.toNat + 1)).flatMap fun a => (List.range (t2.toNat + 1)).map fun b => (a, b)) nd fun k hk => by
    obtain ⟨x, hx, rfl⟩ := List.mem_map.mp hk
    obtain ⟨a, b, cc, d, rfl, p1, p2, p3, p4⟩ := box x hx
    exact List.mem_flatMap.mpr ⟨a.toNat, List.mem_range.mpr (by omega), List.mem_map.mpr ⟨b.toNat, List.mem_range.mpr (by omega), rfl⟩⟩
  rw [boxflat_len (q := t2.toNat + 1) (fun x => by rw [List.length_map, List.length_range]), List.length_map, List.length_range] at sub
  exact sub
theorem few_box {asks : Asks} {s1 s2 s3 t1 t2 t3 : Int} (W : Ways4 asks s1 s2 s3 0) {n m : Nat} (h1 : s1 * n ≤ t1) (h2 : s2 * n ≤ t2) (h3 : s3 * n ≤ t3) (hm : (t1.toNat + 1) * (t2.toNat + 1) ≤ m) (m1 : m * (m + 1) < 4096) (m2 : m * 5 < 4096) : Few asks n m := by
  have nn : ∀ {s : Int} {j : Nat}, 0 ≤ s → 0 ≤ s * (j : Int) := fun h => Int.mul_nonneg h (by omega)
  have up : ∀ {s : Int} {j : Nat}, 0 ≤ s → j < n → s * ((j + 1 : Nat) : Int) ≤ s * n := fun h hj => Int.mul_le_mul_of_nonneg_left (by omega) h
  have up0 : ∀ {s : Int} {j : Nat}, 0 ≤ s → j < n → s * (j : Int) ≤ s * n := fun h hj => Int.mul_le_mul_of_nonneg_left (by omega) h
  have z1 := nn (j := n) W.p1
  have z2 := nn (j := n) W.p2
  have z3 := nn (j := n) W.p3
  have ndc : ∀ j, j < n → ∀ a ∈ asks, ∀ x, Ok4 x → Nd asks j a x → Nd asks j a (clip4 [t1, t2, t3, 0] x) := fun j hj a ha x hx h => by
    have u1 := up W.p1 hj
    have u2 := up W.p2 hj
    have u3 := up W.p3 hj
    exact nd_clip W (ln_clip W j) ha hx (by omega) (by omega) (by omega) (by omega) h
  refine ⟨m1, m2, fun j hj as sub M c => Nat.le_trans (canon_len c (by omega) (by omega) (by omega) fun x hx h => ⟨?_, fun a ha => ndc j hj a (sub a ha) x hx (h.2 a ha)⟩) hm, fun j hj a ha M c => Nat.le_trans (canon_len c (by omega) (by omega) (by omega) (ndc j hj a ha)) hm⟩
  have u1 := up0 W.p1 hj
  have u2 := up0 W.p2 hj
  have u3 := up0 W.p3 hj
  exact ln_clip W j hx (by omega) (by omega) (by omega) (by omega) h.1
/-! ### orders turn nothing (plain Lean) -/
theorem lexLt_code {B : Int} : ∀ {n m : List Int}, n.length = m.length → TS.Bd B n → TS.Bd B m → HT.lexLt n m = true → TS.code B n < TS.code B m
  | [], [], _, _, _, h => by rw [lex_irr] at h; cases h
  | [], _ :: _, hl, _, _, _ => by simp at hl
  | _ :: _, [], hl, _, _, _ => by simp at hl
  | d :: r, e :: q, hl, hn, hm, h => by
    have hl' : r.length = q.length := by simpa using hl
    rw [HT.lexLt_cons] at h
    by_cases c : d = e
    · subst c
      rw [if_pos rfl] at h
      have := lexLt_code hl' hn.tail hm.tail h
      show d * B ^ r.length + TS.code B r < d * B ^ q.length + TS.code B q
      rw [hl']
      omega
    · rw [if_neg c] at h
      exact TS.code_lt hl' hn.tail hm.tail (of_decide_eq_true h)
theorem srt_of_code {B : Int} {d : Nat} {S : List (List Int)} (hd : ∀ x ∈ S, x.length = d ∧ TS.Bd B x) (nd : S.Nodup) (h : S.Pairwise fun x y => TS.code B x ≤ TS.code B y) : S.Pairwise fun x y => HT.lexLt x y = true := by
  refine List.Pairwise.imp_of_mem (R := fun x y => x ≠ y ∧ TS.code B x ≤ TS.code B y) (fun {x y} hx hy z => ?_) (List.pairwise_and_iff.mpr ⟨nd, h⟩)
  obtain ⟨l1, b1⟩ := hd x hx
  obtain ⟨l2, b2⟩ := hd y hy
  rcases lex4_tot (x := x) (y := y) (by rw [l1, l2]) (by
    cases c : HT.lexLt y x with
    | false => rfl
    | true =>
      have := lexLt_code (by rw [l1, l2]) b2 b1 c
      omega) with e | e
  · exact absurd e z.1
  · exact e
theorem nodup_of_srt {S : List (List Int)} (h : S.Pairwise fun x y => HT.lexLt x y = true) : S.Nodup := h.imp fun {x y} l e => by
  rw [e, lex_irr] at l
  cases l
theorem LN.sub {A B : Asks} (h : ∀ b ∈ B, ∃ a ∈ A, ∀ w ∈ a, w ∈ b) : ∀ {n : Nat} {x : List Int}, LN A n x → LN B n x
  | 0, _, _ => True.intro
  | _ + 1, _, z => fun b hb => by
    obtain ⟨a, ha, s⟩ := h b hb
    obtain ⟨w, hw, o, l⟩ := z a ha
    exact ⟨w, s w hw, o, LN.sub h l⟩
/-- in another order -/
def pm (o : List Nat) (x : List Int) : List Int := o.map fun k => x.getD k 0
theorem len4 {x : List Int} (h : x.length = 4) : ∃ a b c d : Int, x = [a, b, c, d] := by
  match x, h with
  | [a, b, c, d], _ => exact ⟨a, b, c, d, rfl⟩
theorem add4_pm (o : List Nat) {x w : List Int} (hx : x.length = 4) (hw : w.length = 4) : add4 (pm o x) (pm o w) = pm o (add4 x w) := by
  obtain ⟨a, b, c, d, rfl⟩ := len4 hx
  obtain ⟨e, f, g, h, rfl⟩ := len4 hw
  unfold add4 pm
  rw [List.zipWith_map_left, List.zipWith_map_right]
  induction o with
  | nil => rfl
  | cons k o ih =>
    rw [List.zipWith_cons_cons, List.map_cons, ih]
    congr 1
    match k with
    | 0 => rfl
    | 1 => rfl
    | 2 => rfl
    | 3 => rfl
    | k + 4 => rfl
structure Ord4 (o : List Nat) : Prop where
  perm : o.Perm (List.range 4)
theorem Ord4.four {o : List Nat} (h : Ord4 o) : ∃ i j k l : Nat, o = [i, j, k, l] ∧ (∀ m, m < 4 ↔ m = i ∨ m = j ∨ m = k ∨ m = l) ∧ i ≠ j ∧ i ≠ k ∧ i ≠ l ∧ j ≠ k ∧ j ≠ l ∧ k ≠ l := by
  have hl := h.perm.length_eq
  have nd := h.perm.nodup_iff.mpr List.nodup_range
  have mem : ∀ m, m < 4 ↔ m ∈ o := fun m => by rw [h.perm.mem_iff, List.mem_range]
  match o, hl, nd, mem with
  | [i, j, k, l], _, nd, mem =>
    refine ⟨i, j, k, l, rfl, fun m => ?_, ?_⟩
    · rw [mem m]
      simp only [List.mem_cons, List.not_mem_nil, or_false]
    · simp only [List.nodup_cons, List.mem_cons, List.not_mem_nil, or_false, not_or] at nd
      exact ⟨nd.1.1, nd.1.2.1, nd.1.2.2, nd.2.1.1, nd.2.1.2, nd.2.2.1⟩
theorem all4 {p : Nat → Prop} {o : List Nat} (h : Ord4 o) {i j k l : Nat} (e : o = [i, j, k, l]) : (p i ∧ p j ∧ p k ∧ p l) ↔ (p 0 ∧ p 1 ∧ p 2 ∧ p 3) := by
  have mem : ∀ m, m ∈ o ↔ m ∈ List.range 4 := fun m => h.perm.mem_iff
  subst e
  constructor
  · rintro ⟨p1, p2, p3, p4⟩
    have all : ∀ m, m ∈ List.range 4 → p m := fun m hm => by
      have := (mem m).mpr hm
      simp only [List.mem_cons, List.not_mem_nil, or_false] at this
      rcases this with rfl | rfl | rfl | rfl
      · exact p1
      · exact p2
      · exact p3
      · exact p4
    exact ⟨all 0 (by decide), all 1 (by decide), all 2 (by decide), all 3 (by decide)⟩
  · rintro ⟨p1, p2, p3, p4⟩
    have all : ∀ m, m ∈ [i, j, k, l] → p m := fun m hm => by
      have := List.mem_range.mp ((mem m).mp hm)
      have : m = 0 ∨ m = 1 ∨ m = 2 ∨ m = 3 := by omega
      rcases this with rfl | rfl | rfl | rfl
      · exact p1
      · exact p2
      · exact p3
      · exact p4
    exact ⟨all i (by simp), all j (by simp), all k (by simp), all l (by simp)⟩
theorem Ord4.ok {o : List Nat} (h : Ord4 o) {x : List Int} (hx : x.length = 4) : Ok4 (pm o x) ↔ Ok4 x := by
  obtain ⟨i, j, k, l, e, _⟩ := h.four
  have q := all4 (p := fun m => 0 ≤ x.getD m 0) h e
  obtain ⟨a, b, c, d, rfl⟩ := len4 hx
  subst e
  constructor
  · rintro ⟨y1, y2, y3, y4, z, o1, o2, o3, o4⟩
    have z' : [([a, b, c, d] : List Int).getD i 0, ([a, b, c, d] : List Int).getD j 0, ([a, b, c, d] : List Int).getD k 0, ([a, b, c, d] : List Int).getD l 0] = [y1, y2, y3, y4] := z
    obtain ⟨q1, z'⟩ := List.cons.inj z'
    obtain ⟨q2, z'⟩ := List.cons.inj z'
    obtain ⟨q3, z'⟩ := List.cons.inj z'
    obtain ⟨q4, _⟩ := List.cons.inj z'
    have r := q.mp ⟨by rw [q1]; exact o1, by rw [q2]; exact o2, by rw [q3]; exact o3, by rw [q4]; exact o4⟩
    exact ⟨a, b, c, d, rfl, r.1, r.2.1, r.2.2.1, r.2.2.2⟩
  · rintro ⟨y1, y2, y3, y4, z, o1, o2, o3, o4⟩
    obtain ⟨q1, z'⟩ := List.cons.inj z
    obtain ⟨q2, z'⟩ := List.cons.inj z'
    obtain ⟨q3, z'⟩ := List.cons.inj z'
    obtain ⟨q4, _⟩ := List.cons.inj z'
    subst q1
    subst q2
    subst q3
    subst q4
    have r := q.mpr ⟨o1, o2, o3, o4⟩
    exact ⟨_, _, _, _, rfl, r.1, r.2.1, r.2.2.1, r.2.2.2⟩
theorem Ord4.le {o : List Nat} (h : Ord4 o) {x y : List Int} (hx : x.length = 4) (hy : y.length = 4) : le4 (pm o x) (pm o y) = true ↔ le4 x y = true := by
  obtain ⟨i, j, k, l, e, _⟩ := h.four
  have q := all4 (p := fun m => x.getD m 0 ≤ y.getD m 0) h e
  obtain ⟨a, b, c, d, rfl⟩ := len4 hx
  obtain ⟨a', b', c', d', rfl⟩ := len4 hy
  subst e
  rw [le4_iff]
  refine Iff.trans ?_ q
  exact le4_iff
theorem pm_len (o : List Nat) (x : List Int) : (pm o x).length = o.length := by
  unfold pm
  rw [List.length_map]
theorem Ord4.len {o : List Nat} (h : Ord4 o) : o.length = 4 := by rw [h.perm.length_eq, List.length_range]
theorem Ord4.onto {o : List Nat} (h : Ord4 o) {x : List Int} (hx : x.length = 4) : ∃ y : List Int, y.length = 4 ∧ pm o y = x := by
  obtain ⟨i, j, k, l, e, m, n1, n2, n3, n4, n5, n6⟩ := h.four
  obtain ⟨a, b, c, d, rfl⟩ := len4 hx
  subst e
  have hi := (m i).mpr (.inl rfl)
  have hj := (m j).mpr (.inr (.inl rfl))
  have hk := (m k).mpr (.inr (.inr (.inl rfl)))
  have hl := (m l).mpr (.inr (.inr (.inr rfl)))
  let f : Nat → Int := fun q => if q = i then a else if q = j then b else if q = k then c else d
  have g : ∀ q, q < 4 → ([f 0, f 1, f 2, f 3] : List Int).getD q 0 = f q := fun q hq => by
    have : q = 0 ∨ q = 1 ∨ q = 2 ∨ q = 3 := by omega
    rcases this with rfl | rfl | rfl | rfl <;> rfl
  refine ⟨[f 0, f 1, f 2, f 3], rfl, ?_⟩
  show [([f 0, f 1, f 2, f 3] : List Int).getD i 0, ([f 0, f 1, f 2, f 3] : List Int).getD j 0, ([f 0, f 1, f 2, f 3] : List Int).getD k 0, ([f 0, f 1, f 2, f 3] : List Int).getD l 0] = [a, b, c, d]
  rw [g i hi, g j hj, g k hk, g l hl]
  have e1 : f i = a := if_pos rfl
  have e2 : f j = b := by show (if j = i then a else if j = j then b else _) = b; rw [if_neg (fun z => n1 z.symm), if_pos rfl]
  have e3 : f k = c := by show (if k = i then a else if k = j then b else if k = k then c else d) = c; rw [if_neg (fun z => n2 z.symm), if_neg (fun z => n4 z.symm), if_pos rfl]
  have e4 : f l = d := by show (if l = i then a else if l = j then b else if l = k then c else d) = d; rw [if_neg (fun z => n3 z.symm), if_neg (fun z => n5 z.symm), if_neg (fun z => n6 z.symm)]
  rw [e1, e2, e3, e4]
theorem ln_pm {o : List Nat} (h : Ord4 o) {A : Asks} (hA : ∀ a ∈ A, ∀ w ∈ a, w.length = 4) : ∀ (n : Nat) {x : List Int}, x.length = 4 → (LN (A.map fun a => a.map (pm o)) n (pm o x) ↔ LN A n x)
  | 0, _, _ => Iff.rfl
  | n + 1, x, hx => by
    have al : ∀ {w : List Int}, w.length = 4 → (add4 x w).length = 4 := fun {w} hw => by
      unfold add4
      rw [List.length_zipWith, hx, hw]
      rfl
    constructor
    · intro z a ha
      obtain ⟨w', hw', ok, l⟩ := z _ (List.mem_map.mpr ⟨a, ha, rfl⟩)
      obtain ⟨w, hw, rfl⟩ := List.mem_map.mp hw'
      have w4 := hA a ha w hw
      rw [add4_pm o hx w4] at ok l
      exact ⟨w, hw, (h.ok (al w4)).mp ok, (ln_pm h hA n (al w4)).mp l⟩
    · intro z a' ha'
      obtain ⟨a, ha, rfl⟩ := List.mem_map.mp ha'
      obtain ⟨w, hw, ok, l⟩ := z a ha
      have w4 := hA a ha w hw
      refine ⟨pm o w, List.mem_map.mpr ⟨w, hw, rfl⟩, ?_⟩
      rw [add4_pm o hx w4]
      exact ⟨(h.ok (al w4)).mpr ok, (ln_pm h hA n (al w4)).mpr l⟩
theorem ok_len {x : List Int} (h : Ok4 x) : x.length = 4 := by
  obtain ⟨a, b, c, d, rfl, _⟩ := h
  rfl
theorem canon_pm {o : List Nat} (h : Ord4 o) {A : Asks} (hA : ∀ a ∈ A, ∀ w ∈ a, w.length = 4) {n : Nat} {M S : List (List Int)} (c : Canon M (LN A n)) (hS : S.Perm (M.map (pm o))) (srt : S.Pairwise fun x y => HT.lexLt x y = true) :
    Canon S (LN (A.map fun a => a.map (pm o)) n) := by
  have mem : ∀ {x}, x ∈ S → ∃ y ∈ M, pm o y = x := fun {x} hx => List.mem_map.mp (hS.mem_iff.mp hx)
  refine ⟨fun x hx => ?_, srt, fun x hx y hy l => ?_, fun x hx => ?_⟩
  · obtain ⟨y, hy, rfl⟩ := mem hx
    exact (h.ok (ok_len (c.ok y hy))).mpr (c.ok y hy)
  · obtain ⟨x', hx', rfl⟩ := mem hx
    obtain ⟨y', hy', rfl⟩ := mem hy
    rw [c.anti x' hx' y' hy' ((h.le (ok_len (c.ok x' hx')) (ok_len (c.ok y' hy'))).mp l)]
  · obtain ⟨y, y4, rfl⟩ := h.onto (ok_len hx)
    have oy := (h.ok y4).mp hx
    rw [ln_pm h hA n y4, ← c.up y oy]
    constructor
    · rintro ⟨z, hz, l⟩
      obtain ⟨z', hz', rfl⟩ := mem hz
      exact ⟨z', hz', (h.le (ok_len (c.ok z' hz')) y4).mp l⟩
    · rintro ⟨z, hz, l⟩
      exact ⟨pm o z, hS.mem_iff.mpr (List.mem_map.mpr ⟨z, hz, rfl⟩), (h.le (ok_len (c.ok z hz)) y4).mpr l⟩
/-! ### t + u and t[a:b] of tuples, told by what stands behind -/
theorem same_new {H : Hp} {p : Addr} {o : HO} (h : H p = none) : Same H (upd H p o) := fun b x e => by
  rw [upd_ne (ne_of_none e h)]
  exact e
def rCatN (K : PySem.W.Frag) : R2 := fun x y H Q => ∃ a b xs ys, x = .ref a ∧ y = .ref b ∧ SqT K H a xs ∧ SqT K H b ys ∧ xs.length + ys.length ≤ sizeLine ∧ ∀ c H', Same H H' → SqT K H' c (xs ++ ys) → Q (.ref c) H'
theorem op_catN {X : Cx} : OpR X (binaryOp .Add) (rCatN X.K) := by
  intro pins s σ H x y v u Q I rx ry h
  obtain ⟨a, b, xs, ys, rfl, rfl, ha, hb, hz, q⟩ := h
  refine L2.op_catA pins s σ H _ _ v u Q I rx ry ⟨a, b, xs, ys, rfl, rfl, ha, hb, hz, fun e => ?_, fun _ e => ?_, fun _ _ p np => ?_⟩
  · subst e
    exact q b H (Same.refl H) hb
  · subst e
    exact q a H (Same.refl H) (by rw [List.append_nil]; exact ha)
  · exact q p _ (same_new np) (SqT.of upd_same)
def rSlN (K : PySem.W.Frag) : V → Option Int → Option Int → Hp → VK → Prop := fun x lo hi H Q => ∃ a xs, x = .ref a ∧ SqT K H a xs ∧ ∀ c H', Same H H' → SqT K H' c (cutV xs lo hi) → Q (.ref c) H'
theorem sl_tupN {X : Cx} : SlR X (rSlN X.K) := by
  intro pins s σ H x v vl vu lo hi sl Q I rx hs pl pu h
  obtain ⟨a, xs, rfl, hx, q⟩ := h
  refine My.sl_tupA pins s σ H _ v vl vu lo hi sl Q I rx hs pl pu ⟨a, xs, rfl, hx, fun c => q a H (Same.refl H) ?_, fun c p np => q p _ (same_new np) (SqT.of upd_same)⟩
  unfold cutV
  rw [c.1, c.2, List.drop_zero, Nat.sub_zero, List.take_length]
  exact hx
theorem cut_from {l : List Int} {k : Nat} (h : k ≤ l.length) : cutV (l.map V.int) (some (k : Int)) none = (l.drop k).map V.int := by
  unfold cutV
  rw [show HT.sIx (l.map V.int).length 0 (some (k : Int)) = min k (l.map V.int).length from HT.sIx_nat _ _ k, HT.sIx_none, List.length_map, Nat.min_eq_left h, ← List.map_drop, ← List.map_take, List.take_of_length_le (by rw [List.length_drop]; omega)]
theorem cut_to {l : List Int} {k : Nat} (h : k ≤ l.length) : cutV (l.map V.int) none (some (k : Int)) = (l.take k).map V.int := by
  unfold cutV
  rw [show HT.sIx (l.map V.int).length (l.map V.int).length (some (k : Int)) = min k (l.map V.int).length from HT.sIx_nat _ _ k, HT.sIx_none, List.map_take, List.drop_zero, Nat.sub_zero, Nat.min_eq_left (by rw [List.length_map]; exact h)]
end My
namespace My
open PySem PySem.Spec PyProof.Rows L2
open C8 (pss_cut)
open RZ (pi_zipA for_zipL for_zipT)
def topS (i : Nat) : Stmt := PySem.Challenge.pw_everstock_k04_whole_what_lasts.main.body.getD i (.Pass ⟨0, 0, 0, 0⟩)
/-! ### the pen: what the drawing defs keep -/
def sOpen : Stmt := topS 29
def sSpread : Stmt := topS 30
def sTake : Stmt := topS 31
/-- all that was there but the one at p is as it was -/
def Kp (p : Addr) (H H' : Hp) : Prop := ∀ b o, H b = some o → b ≠ p → H' b = some o
theorem Kp.refl (p : Addr) (H : Hp) : Kp p H H := fun _ _ e _ => e
theorem Kp.trans {p : Addr} {H H1 H2 : Hp} (a : Kp p H H1) (b : Kp p H1 H2) : Kp p H H2 := fun c o e n => b c o (a c o e n) n
theorem Kp.same {p : Addr} {H H1 H2 : Hp} (a : Kp p H H1) (b : Same H1 H2) : Kp p H H2 := fun c o e n => b c o (a c o e n)
theorem _root_.L2.Same.kp {p : Addr} {H H1 : Hp} (a : Same H H1) : Kp p H H1 := fun c o e _ => a c o e
theorem same_upd {H : Hp} {p : Addr} {o : HO} (h : H p = none) : Same H (upd H p o) := fun b x e => by
  rw [upd_ne (ne_of_none e h)]
  exact e
theorem kp_upd (p : Addr) (H : Hp) (o : HO) : Kp p H (upd H p o) := fun b x e n => by
  rw [upd_ne n]
  exact e
/-- the pen at p: its cells' list at c, at most n cells taken -/
structure Pen (H : Hp) (p c : Addr) (ns : List Int) (n : Nat) : Prop where
  pe : ∃ at_ left : Int, H p = some (.lst [.ref c, .int at_, .int left]) ∧ 0 ≤ at_ ∧ at_ ≤ (n : Int) ∧ 0 ≤ left
  ce : H c = some (.lst (ns.map V.int))
theorem Pen.ne {H : Hp} {p c : Addr} {ns : List Int} {n : Nat} (h : Pen H p c ns n) : c ≠ p := by
  obtain ⟨⟨a, l, h1, _⟩, h2⟩ := h
  intro e
  subst e
  rw [h1] at h2
  cases ns with
  | nil => cases h2
  | cons x r => cases h2
theorem Pen.same {H H' : Hp} {p c : Addr} {ns : List Int} {n : Nat} (h : Pen H p c ns n) (s : Same H H') : Pen H' p c ns n := by
  obtain ⟨⟨a, l, h1, h3⟩, h2⟩ := h
  exact ⟨⟨a, l, s _ _ h1, h3⟩, s _ _ h2⟩
theorem Pen.mono {H : Hp} {p c : Addr} {ns : List Int} {n m : Nat} (h : Pen H p c ns n) (hn : n ≤ m) : Pen H p c ns m := by
  obtain ⟨⟨a, l, h1, h3, h4, h5⟩, h2⟩ := h
  exact ⟨⟨a, l, h1, h3, by omega, h5⟩, h2⟩
/-- at most so many cells are taken in all -/
def penMost : Nat := 1000000
def spOpen (K : PySem.W.Frag) : Sp := fun vs H Q _ => ∃ (a : Addr) (ns : List Int), vs = [.ref a] ∧ SqL K H a (ns.map V.int) ∧ ns.length ≤ 63 ∧
  ∀ H' p c ms, Same H H' → Pen H' p c ms 0 → H p = none → Q (.ref p) H'
def spSpread : Sp := fun vs H Q _ => ∃ (cell at_ : Int), vs = [.int cell, .int at_] ∧ 0 ≤ at_ ∧ at_ ≤ 1000000 ∧ ∀ r H', 0 ≤ r → Same H H' → Q (.int r) H'
def spTake : Sp := fun vs H Q _ => ∃ (p c : Addr) (ns : List Int) (n : Nat) (m : Int), vs = [.ref p, .int m] ∧ Pen H p c ns n ∧ n < penMost ∧ 1 ≤ m ∧ m < 1000000000 ∧
  ∀ r H', 0 ≤ r → r < m → Kp p H H' → Pen H' p c ns (n + 1) → Q (.int r) H'
theorem at_ints {ns : List Int} {k : Int} (h0 : 0 ≤ k) (h1 : k < ns.length) : ∃ z, atI (ns.map V.int) k = some (.int z) := by
  obtain ⟨j, rfl⟩ : ∃ j : Nat, k = (j : Int) := ⟨k.toNat, by omega⟩
  have hj : j < ns.length := by omega
  exact ⟨ns[j], atI_nat (by rw [List.getElem?_map, List.getElem?_eq_getElem hj] <;> rfl)⟩
theorem ixN_of {n : Nat} {k : Int} (h0 : 0 ≤ k) (h1 : k < n) : ixN n k = some k.toNat := by
  unfold ixN
  rw [if_pos h0, if_pos h1]
theorem ints_get {ns : List Int} {i : Nat} {v : V} (h : (ns.map V.int)[i]? = some v) : ∃ z, ns[i]? = some z ∧ v = .int z := by
  rw [List.getElem?_map] at h
  cases e : ns[i]? with
  | none =>
    rw [e] at h
    cases h
  | some z =>
    rw [e] at h
    exact ⟨z, rfl, (Option.some.inj h).symm⟩
theorem cut_ints (ns : List Int) (lo hi : Option Int) : ∃ ms : List Int, cutV (ns.map V.int) lo hi = ms.map V.int ∧ ms.length ≤ ns.length := by
  unfold cutV
  refine ⟨(ns.drop (HT.sIx (ns.map V.int).length 0 lo)).take (HT.sIx (ns.map V.int).length (ns.map V.int).length hi - HT.sIx (ns.map V.int).length 0 lo), ?_, ?_⟩
  · rw [List.map_take, List.map_drop]
  · rw [List.length_take, List.length_drop]
    omega
theorem cut12 (ns : List Int) : cutV (ns.map V.int) none (some 12) = (ns.take 12).map V.int := by
  unfold cutV
  rw [show HT.sIx (ns.map V.int).length (ns.map V.int).length (some 12) = min 12 (ns.map V.int).length from HT.sIx_nat _ _ 12, HT.sIx_none, List.map_take, List.drop_zero, Nat.sub_zero]
  by_cases h : 12 ≤ (ns.map V.int).length
  · rw [Nat.min_eq_left h]
  · rw [Nat.min_eq_right (by omega), List.take_length, List.take_of_length_le (by omega)]
theorem cut1263 (ns : List Int) (h : ns.length ≤ 12) : cutV (ns.map V.int) (some 12) (some 63) = [] := by
  unfold cutV
  rw [show HT.sIx (ns.map V.int).length 0 (some 12) = min 12 (ns.map V.int).length from HT.sIx_nat _ _ 12, Nat.min_eq_right (by rw [List.length_map]; exact h), List.drop_length, List.take_nil]
/-- the divisors of the spreading -/
def prL : List V := [V.int 2147483629, V.int 2147483587, V.int 2147483579, V.int 2147483563, V.int 2147483549, V.int 2147483543, V.int 2147483497, V.int 2147483489] ++
  [V.int 2147483477, V.int 2147483423, V.int 2147483399, V.int 2147483353, V.int 2147483323]
theorem pr_at : ∀ j : Nat, j < 13 → ∃ q : Int, prL[j]? = some (.int q) ∧ 0 < q ∧ q < 2147483648
  | 0, _ => ⟨_, rfl, by decide, by decide⟩ | 1, _ => ⟨_, rfl, by decide, by decide⟩ | 2, _ => ⟨_, rfl, by decide, by decide⟩ | 3, _ => ⟨_, rfl, by decide, by decide⟩
  | 4, _ => ⟨_, rfl, by decide, by decide⟩ | 5, _ => ⟨_, rfl, by decide, by decide⟩ | 6, _ => ⟨_, rfl, by decide, by decide⟩ | 7, _ => ⟨_, rfl, by decide, by decide⟩
  | 8, _ => ⟨_, rfl, by decide, by decide⟩ | 9, _ => ⟨_, rfl, by decide, by decide⟩ | 10, _ => ⟨_, rfl, by decide, by decide⟩ | 11, _ => ⟨_, rfl, by decide, by decide⟩
  | 12, _ => ⟨_, rfl, by decide, by decide⟩ | n + 13, h => absurd h (by omega)
theorem pr_mod (k : Int) : ∃ q : Int, atI prL (k % 13) = some (.int q) ∧ 0 < q ∧ q < 2147483648 := by
  have h0 := Int.emod_nonneg k (by decide : (13 : Int) ≠ 0)
  have h1 := Int.emod_lt_of_pos k (by decide : (0 : Int) < 13)
  obtain ⟨q, e, a, b⟩ := pr_at (k % 13).toNat (by omega)
  have e2 : k % 13 = ((k % 13).toNat : Int) := by omega
  rw [e2]
  exact ⟨q, atI_nat e, a, b⟩
theorem abs64 {x : Int} (h0 : 0 ≤ x) (h : x < 18446744073709551616) : x.natAbs < 2 ^ 64 := by
  have : (2 : Nat) ^ 64 = 18446744073709551616 := by decide
  omega
theorem mul_le_mul' {a b c d : Int} (ha : 0 ≤ a) (hb : a ≤ c) (hc : 0 ≤ b) (hd : b ≤ d) : a * b ≤ c * d :=
  Int.le_trans (Int.mul_le_mul_of_nonneg_right hb hc) (Int.mul_le_mul_of_nonneg_left hd (Int.le_trans ha hb))
section
variable {P : Program} {w : World} {K : PySem.W.Frag} {mg : Str → Option Value} {base : Heap}
theorem scSpread : FnScope ["cell", "at", "primes", "one", "two", "three"] ["cell", "at"] (defScope sSpread) := ⟨rfl, rfl, rfl, by decide +kernel, rfl, by decide +kernel, by decide +kernel⟩

theorem ok_spread {f : Addr} {fd : FuncData} {k : Nat} (F : Fun K "_law_spread" "_law_spread" sSpread f fd) : FnOk P w K mg base CX0 (k + 1) f fd ["cell", "at"] spSpread := by
  refine F.ok scSpread (fun vs H Q E h => ?_) (fun cdv A outer s H vs Q E hr h => ?_)
  · obtain ⟨cell, at_, rfl, _⟩ := h
    rfl
  · obtain ⟨cell, a, rfl, ha0, ha1, q⟩ := h
    refine ⟨_, pss_cons (ps_if (pt_cmpR op_ge (pv 0) (pe_op op_pow pe_int pe_int) (nomark _)) (pss_one (ps_ret (pv 0))) pss_nil)
      (pss_cons (ps_set (i := 2) scSpread.nd rfl (.inl rfl) (pe_lst (pa_cons pe_int (pa_cons pe_int (pa_cons pe_int (pa_cons pe_int (pa_cons pe_int (pa_cons pe_int (pa_cons pe_int (pa_cons pe_int pa_nil))))))))))
      (pss_cons (ps_set (i := 2) scSpread.nd rfl (.inl rfl) (pe_op op_cat (pv 2) (pe_lst (pa_cons pe_int (pa_cons pe_int (pa_cons pe_int (pa_cons pe_int (pa_cons pe_int pa_nil))))))))
      (pss_cons (ps_set (i := 3) scSpread.nd rfl (.inl rfl) (pe_op op_add (pe_op op_add (pe_op op_mul (pe_op op_mod (pv 0) pe_int) (pe_op op_add (pe_op op_mul pe_int (pv 1)) pe_int)) (pe_op op_mul (pv 1) pe_int)) pe_int))
      (pss_cons (ps_set (i := 3) scSpread.nd rfl (.inl rfl) (pe_op op_mod (pe_op op_pow (pv 3) pe_int) (pe_ix ix_list (pv 2) (pe_op op_mod (pv 1) pe_int) (fun _ _ => rfl))))
      (pss_cons (ps_set (i := 4) scSpread.nd rfl (.inl rfl) (pe_op op_mod (pe_op op_pow (pe_op op_add (pe_op op_add (pe_op op_mul (pv 3) (pe_op op_add (pv 1) pe_int)) (pe_op op_mod (pv 0) pe_int)) pe_int) pe_int) (pe_ix ix_list (pv 2) (pe_op op_mod (pe_op op_add (pv 1) pe_int) pe_int) (fun _ _ => rfl))))
      (pss_cons (ps_set (i := 5) scSpread.nd rfl (.inl rfl) (pe_op op_mod (pe_op op_pow (pe_op op_add (pe_op op_add (pv 4) (pe_op op_mod (pv 3) pe_int)) (pv 1)) pe_int) (pe_ix ix_list (pv 2) (pe_op op_mod (pe_op op_add (pv 1) pe_int) pe_int) (fun _ _ => rfl))))
      (pss_one (ps_ret (pe_op op_add (pe_op op_mul (pe_op op_add (pe_op op_mul (pv 3) pe_int) (pv 4)) pe_int) (pv 5)))))))))), ?_⟩
    -- cell >= 10 ** 18
    refine ⟨_, rfl, 10, 18, rfl, rfl, ⟨by decide, by decide, by decide⟩, _, _, rfl, rfl, _, rfl, ?_⟩
    refine ite2 (fun hc => ?_) (fun _ => ?_)
    · refine ⟨_, rfl, q _ _ ?_ (Same.refl H)⟩
      have hc' := of_decide_eq_true hc
      exact Int.le_trans (by decide) hc'
    · -- primes
      refine ⟨by show 8 ≤ sizeLine; decide, fun p1 n1 => ?_⟩
      refine ⟨_, rfl, by show 5 ≤ sizeLine; decide, fun p2 n2 => ?_⟩
      have n12 : p1 ≠ p2 := ne_of_none (upd_same (H := H)) n2
      refine ⟨p1, p2, _, _, rfl, rfl, (by rw [upd_ne n12]; exact upd_same), upd_same, by show 13 ≤ sizeLine; decide, fun p3 n3 => ?_⟩
      have s1 := same_upd (o := .lst [V.int 2147483629, V.int 2147483587, V.int 2147483579, V.int 2147483563, V.int 2147483549, V.int 2147483543, V.int 2147483497, V.int 2147483489]) n1
      have s2 := same_upd (o := .lst [V.int 2147483477, V.int 2147483423, V.int 2147483399, V.int 2147483353, V.int 2147483323]) n2
      have s3 := (s1.trans s2).trans (same_upd (o := .lst prL) n3)
      have hL : SqL K (upd (upd (upd H p1 (.lst [V.int 2147483629, V.int 2147483587, V.int 2147483579, V.int 2147483563, V.int 2147483549, V.int 2147483543, V.int 2147483497, V.int 2147483489])) p2 (.lst [V.int 2147483477, V.int 2147483423, V.int 2147483399, V.int 2147483353, V.int 2147483323])) p3 (.lst prL)) p3 prL := SqL.of upd_same
      -- one
      have c0 := Int.emod_nonneg cell (by decide : (1000000007 : Int) ≠ 0)
      have c1 := Int.emod_lt_of_pos cell (by decide : (0 : Int) < 1000000007)
      refine ⟨_, rfl, cell, 1000000007, rfl, rfl, (by show (0 : Int) < 1000000007; decide), _, rfl, 2, a, rfl, rfl, .inl ⟨by decide, by decide⟩, _, _, rfl, rfl, _, _, rfl, rfl, .inr ⟨by omega, by omega⟩, _, rfl, _, _, rfl, rfl, .inr ⟨by decide, by decide⟩, _, _, rfl, rfl, _, _, rfl, rfl, ?_⟩
      have b0 : 0 ≤ cell % 1000000007 * (2 * a + 69069) := Int.mul_nonneg c0 (by omega)
      have b1 : cell % 1000000007 * (2 * a + 69069) ≤ 1000000007 * 2069069 := mul_le_mul' c0 (by omega) (by omega) (by omega)
      dsimp only
      generalize e1 : cell % 1000000007 * (2 * a + 69069) + a * 40503 + 977 = one
      have o0 : 0 ≤ one := by omega
      have o1 : one < 18446744073709551616 := by omega
      clear e1 b0 b1
      -- one ** 3 % primes[at % 13]
      obtain ⟨q1, i1, q10, q11⟩ := pr_mod a
      refine ⟨_, rfl, one, 3, rfl, rfl, ⟨by decide, by decide, abs64 o0 o1⟩, _, rfl, _, rfl, a, 13, rfl, rfl, (by show (0 : Int) < 13; decide), p3, prL, _, _, rfl, rfl, hL, i1, _, q1, rfl, rfl, q10, ?_⟩
      have w0 := Int.emod_nonneg (one ^ (3 : Int).toNat) (Int.ne_of_gt q10)
      have w1 := Int.emod_lt_of_pos (one ^ (3 : Int).toNat) q10
      dsimp only
      generalize e2 : one ^ (3 : Int).toNat % q1 = on2 at w0 w1 ⊢
      clear e2
      -- two
      obtain ⟨q2, i2, q20, q21⟩ := pr_mod (a + 5)
      have d0 := Int.emod_nonneg cell (by decide : (65537 : Int) ≠ 0)
      have d1 := Int.emod_lt_of_pos cell (by decide : (0 : Int) < 65537)
      have f0 : 0 ≤ on2 * (a + 3) := Int.mul_nonneg w0 (by omega)
      have f1 : on2 * (a + 3) ≤ 2147483648 * 1000003 := mul_le_mul' w0 (by omega) (by omega) (by omega)
      refine ⟨_, rfl, _, rfl, a, 3, rfl, rfl, on2, _, rfl, rfl, .inl ⟨by omega, by omega⟩, _, rfl, cell, 65537, rfl, rfl, (by show (0 : Int) < 65537; decide), _, _, rfl, rfl, _, _, rfl, rfl, _, 5, rfl, rfl, ⟨by decide, by decide, abs64 (by omega) (by omega)⟩, _, rfl, _, rfl, a, 5, rfl, rfl, _, 13, rfl, rfl, (by show (0 : Int) < 13; decide), p3, prL, _, _, rfl, rfl, hL, i2, _, q2, rfl, rfl, q20, ?_⟩
      have x0 := Int.emod_nonneg ((on2 * (a + 3) + cell % 65537 + 5) ^ (5 : Int).toNat) (Int.ne_of_gt q20)
      have x1 := Int.emod_lt_of_pos ((on2 * (a + 3) + cell % 65537 + 5) ^ (5 : Int).toNat) q20
      dsimp only
      generalize e3 : (on2 * (a + 3) + cell % 65537 + 5) ^ (5 : Int).toNat % q2 = two at x0 x1 ⊢
      clear e3
      -- three
      obtain ⟨q3, i3, q30, q31⟩ := pr_mod (a + 7)
      have g0 := Int.emod_nonneg on2 (by decide : (1009 : Int) ≠ 0)
      have g1 := Int.emod_lt_of_pos on2 (by decide : (0 : Int) < 1009)
      refine ⟨_, rfl, _, rfl, on2, 1009, rfl, rfl, (by show (0 : Int) < 1009; decide), _, _, rfl, rfl, _, rfl, _, _, rfl, rfl, _, 3, rfl, rfl, ⟨by decide, by decide, abs64 (by omega) (by omega)⟩, _, rfl, _, rfl, a, 7, rfl, rfl, _, 13, rfl, rfl, (by show (0 : Int) < 13; decide), p3, prL, _, _, rfl, rfl, hL, i3, _, q3, rfl, rfl, q30, ?_⟩
      have y0 := Int.emod_nonneg ((two + on2 % 1009 + a) ^ (3 : Int).toNat) (Int.ne_of_gt q30)
      dsimp only
      generalize e4 : (two + on2 % 1009 + a) ^ (3 : Int).toNat % q3 = three at y0 ⊢
      clear e4
      refine ⟨_, rfl, on2, 2147483647, rfl, rfl, .inr ⟨by decide, by decide⟩, _, rfl, _, _, rfl, rfl, _, 2147483647, rfl, rfl, .inr ⟨by decide, by decide⟩, _, rfl, _, _, rfl, rfl, ?_⟩
      refine q _ _ ?_ s3
      have z1 : 0 ≤ on2 * 2147483647 := Int.mul_nonneg w0 (by decide)
      have z2 : 0 ≤ (on2 * 2147483647 + two) * 2147483647 := Int.mul_nonneg (by omega) (by decide)
      omega
theorem scOpen : FnScope ["script", "cells", "k", "cell"] ["script"] (defScope sOpen) := ⟨rfl, rfl, rfl, by decide +kernel, rfl, by decide +kernel, by decide +kernel⟩
theorem ok_open {f : Addr} {fd : FuncData} {k : Nat} (F : Fun K "_law_open" "_law_open" sOpen f fd) (ml : mg "list" = none) (me : mg "enumerate" = none) : FnOk P w K mg base CX0 (k + 1) f fd ["script"] (spOpen K) := by
  refine F.ok scOpen (fun vs H Q E h => ?_) (fun cdv A outer s H vs Q E hr h => ?_)
  · obtain ⟨a, ns, rfl, _⟩ := h
    rfl
  · obtain ⟨a, ns, rfl, hS, hlen, q⟩ := h
    refine ⟨_, pss_cons (ps_set (i := 1) scOpen.nd rfl (.inl rfl) (pe_callTy call_list_of (by rfl) ml (by decide +kernel) (pa_cons (pe_slice sl_list (pv 0) po_none (po_some pe_int)) pa_nil)))
      (pss_cons (ps_for PassesOwn.never rfl (pi_enum (by rfl) me (pa_cons (pe_slice sl_list (pv 0) (po_some pe_int) (po_some pe_int)) pa_nil))
          (pg_tup rfl (pgs_cons (pg_name (i := 2) scOpen.nd rfl (.inl rfl)) (pgs_cons (pg_name (i := 3) scOpen.nd rfl (.inl rfl)) pgs_nil)))
          (pss_one (ps_asg (pe_op op_add (pe_ix ix_list (pv 1) (pe_op op_mod (pv 2) pe_int) (fun _ _ => rfl)) (pv 3)) (pg_sub (pv 1) (pe_op op_mod (pv 2) pe_int) set_list))))
      (pss_one (ps_ret (pe_lst (pa_cons (pv 1) (pa_cons pe_int (pa_cons pe_int pa_nil))))))), ?_⟩
    -- cells = list(script[:12])
    refine ⟨_, rfl, 12, rfl, a, _, rfl, hS, fun p1 n1 => ?_⟩
    rw [cut12]
    have s1 := same_upd (o := .lst ((ns.take 12).map V.int)) n1
    refine ⟨p1, _, rfl, .inl (SqL.of upd_same), fun c nc => ?_⟩
    have s2 := s1.trans (same_upd (o := .lst ((ns.take 12).map V.int)) nc)
    have nHc : H c = none := s1.free nc
    -- enumerate(script[12:63])
    refine ⟨_, rfl, 12, rfl, 63, rfl, a, _, rfl, s2.seq hS, fun p2 n2 => ?_⟩
    obtain ⟨ms, em, hm⟩ : ∃ ms : List Int, cutV (ns.map V.int) (some 12) (some 63) = ms.map V.int ∧ (ms = [] ∨ 12 ≤ ns.length) := by
      by_cases h : 12 ≤ ns.length
      · obtain ⟨ms, e, _⟩ := cut_ints ns (some 12) (some 63)
        exact ⟨ms, e, .inr h⟩
      · exact ⟨[], cut1263 ns (by omega), .inl rfl⟩
    rw [em]
    have s3 := s2.trans (same_upd (o := .lst (ms.map V.int)) n2)
    have ncp2 : c ≠ p2 := ne_of_none (upd_same) n2
    refine ⟨p2, ms.map V.int, rfl, SqL.of upd_same, ?_⟩
    refine for_it (walk_enum (K := K) (a := p2) (xs := ms.map V.int)) (fun i σ H2 => ∃ (y2 y3 : Option V) (cs : List Int), σ = [some (.ref a), some (.ref c), y2, y3] ∧ Same H H2 ∧ H2 c = some (.lst (cs.map V.int)) ∧ H2 p2 = some (.lst (ms.map V.int)) ∧ cs.length = min 12 ns.length)
      ⟨none, none, ns.take 12, rfl, s3, ?_, upd_same, by rw [List.length_take]⟩ ?_ ?_ ?_
    · rw [upd_ne ncp2, upd_same]
    · rintro i σ H2 _ ⟨_, _, _, _, _, _, h2, _⟩
      exact SqL.of h2
    · rintro i x σ H2 H3 hi ⟨y2, y3, cs, rfl, sm, hc, hp, hl⟩ ⟨T, x1, x2, rfl, nT, rfl, f1, f2⟩
      have f1 := Option.some.inj f1
      subst f1
      obtain ⟨z, hz, rfl⟩ := ints_get f2
      have hne : 12 ≤ ns.length := by
        rcases hm with rfl | h
        · simp at hz
        · exact h
      rw [Nat.min_eq_left hne] at hl
      have ncT : c ≠ T := ne_of_none hc nT
      have npT : p2 ≠ T := ne_of_none hp nT
      have h0 := Int.emod_nonneg (i : Int) (by decide : (12 : Int) ≠ 0)
      have h1 := Int.emod_lt_of_pos (i : Int) (by decide : (0 : Int) < 12)
      obtain ⟨u, hu⟩ := at_ints (ns := cs) h0 (by omega)
      have hcT : ∀ o, (upd H2 T o) c = some (.lst (cs.map V.int)) := fun o => by
        rw [upd_ne ncT]
        exact hc
      refine ⟨T, _, rfl, SqT.of upd_same, rfl, _, _, rfl, _, _, rfl, rfl, ?_⟩
      refine ⟨_, rfl, _, rfl, i, 12, rfl, rfl, (by show (0 : Int) < 12; decide), c, _, _, _, rfl, rfl, SqL.of (hcT _), hu, _, rfl, u, z, rfl, rfl, ?_⟩
      refine ⟨_, rfl, _, rfl, i, 12, rfl, rfl, (by show (0 : Int) < 12; decide), c, _, _, _, rfl, rfl, hcT _, ixN_of h0 (by rw [List.length_map]; omega), ?_⟩
      refine ⟨_, _, cs.set ((i : Int) % 12).toNat (u + z), rfl, fun b o e => ?_, ?_, ?_, ?_⟩
      · rw [upd_ne (ne_of_none e nHc), upd_ne (ne_of_none (sm _ _ e) nT)]
        exact sm _ _ e
      · rw [upd_same, List.map_set]
      · rw [upd_ne (Ne.symm ncp2), upd_ne npT]
        exact hp
      · rw [List.length_set]
        omega
    · rintro σ H2 ⟨y2, y3, cs, rfl, sm, hc, hp, hl⟩
      refine ⟨_, rfl, by show 3 ≤ sizeLine; decide, fun p np => ?_⟩
      have s4 := same_upd (o := .lst [V.ref c, V.int 0, V.int 0]) np
      exact q _ p c cs (sm.trans s4) ⟨⟨0, 0, upd_same, by omega, by omega, by omega⟩, s4 _ _ hc⟩ (sm.free np)
theorem scTake : FnScope ["pen", "amount", "at", "cell", "found"] ["pen", "amount"] (defScope sTake) := ⟨rfl, rfl, rfl, by decide +kernel, rfl, by decide +kernel, by decide +kernel⟩
theorem ok_take {f fS : Addr} {fd fdS : FuncData} {k : Nat} (F : Fun K "_law_take" "_law_take" sTake f fd) (FS : Fun K "_law_spread" "_law_spread" sSpread fS fdS) (bS : Binds K fdS ["cell", "at"] []) (gS : mg "_law_spread" = some (.ref fS)) (ml : mg "len" = none) :
    FnOk P w K mg base CX0 (k + 2) f fd ["pen", "amount"] spTake := by
  have GS : FnOk P w K mg base CX0 (k + 1) fS fdS ["cell", "at"] spSpread := ok_spread FS
  refine F.ok scTake (fun vs H Q E h => ?_) (fun cdv A outer s H vs Q E hr h => ?_)
  · obtain ⟨p, c, ns, n, m, rfl, _⟩ := h
    rfl
  · obtain ⟨p, c, ns, n, m, rfl, hP, hn, m0, m1, q⟩ := h
    have hn' : (n : Int) < 1000000 := by unfold penMost at hn; omega
    have hcp := hP.ne
    obtain ⟨⟨at_, left, hp, a0, a1, l0⟩, hc⟩ := hP
    have SP : ∀ {H1 : Hp} {xs : List V}, H1 p = some (.lst xs) → SqL K H1 p xs := fun h => SqL.of h
    refine ⟨_, pss_cut (ps_if (pt_cmpR op_lt (pe_ix ix_list (pv 0) pe_int (fun _ _ => rfl)) (pv 1) (nomark _))
        (pss_cons (ps_set (i := 2) scTake.nd rfl (.inl rfl) (pe_ix ix_list (pv 0) pe_int (fun _ _ => rfl)))
        (pss_cons (ps_set (i := 3) scTake.nd rfl (.inl rfl) pe_int)
        (pss_cut (ps_if (pt_cmpR op_lt (pv 2) (pe_callB call_len_seq (by rfl) ml PySem.boot_len (pa_cons (pe_ix ix_list (pv 0) pe_int (fun _ _ => rfl)) pa_nil)) (nomark _))
            (pss_one (ps_set (i := 3) scTake.nd rfl (.inl rfl) (pe_ix ix_list (pe_ix ix_list (pv 0) pe_int (fun _ _ => rfl)) (pv 2) (fun _ _ => rfl))))
            (pss_one (ps_if (pt_cmpR op_gt (pe_callB call_len_seq (by rfl) ml PySem.boot_len (pa_cons (pe_ix ix_list (pv 0) pe_int (fun _ _ => rfl)) pa_nil)) pe_int (nomark _))
              (pss_one (ps_set (i := 3) scTake.nd rfl (.inl rfl) (pe_op op_mod (pe_ix ix_list (pe_ix ix_list (pv 0) pe_int (fun _ _ => rfl)) (pe_op op_mod (pe_op op_add (pe_op op_mul (pv 2) pe_int) pe_int) (pe_callB call_len_seq (by rfl) ml PySem.boot_len (pa_cons (pe_ix ix_list (pv 0) pe_int (fun _ _ => rfl)) pa_nil))) (fun _ _ => rfl))
                (pe_op op_add (pe_op op_pow pe_int pe_int) (pv 2))))) pss_nil)))
        (pss_cons (ps_asg (pe_op op_add (pv 2) pe_int) (pg_sub (pv 0) pe_int set_list))
        (pss_one (ps_asg (pe_call GS hr (by rfl) gS FS.kp bS .nil pass0 (pa_cons (pv 3) (pa_cons (pv 2) pa_nil))) (pg_sub (pv 0) pe_int set_list)))))))
        pss_nil)
      (pss_cons (ps_set (i := 4) scTake.nd rfl (.inl rfl) (pe_op op_mod (pe_ix ix_list (pv 0) pe_int (fun _ _ => rfl)) (pv 1)))
      (pss_cons (ps_asg (pe_op op_fdiv (pe_ix ix_list (pv 0) pe_int (fun _ _ => rfl)) (pv 1)) (pg_sub (pv 0) pe_int set_list))
      (pss_one (ps_ret (pv 4))))), ?_⟩
    -- behind the if: the pen's list again
    refine ⟨fun σ H1 => ∃ (y2 y3 y4 : Option V) (at1 l1 : Int), σ = [some (.ref p), some (.int m), y2, y3, y4] ∧ Kp p H H1 ∧ H1 p = some (.lst [.ref c, .int at1, .int l1]) ∧ 0 ≤ at1 ∧ at1 ≤ (n : Int) + 1 ∧ 0 ≤ l1, ?_, ?_⟩
    · refine ⟨_, rfl, p, _, 2, .int left, rfl, rfl, SP hp, atI_nat (j := 2) rfl, _, rfl, left, m, rfl, rfl, _, rfl, ?_⟩
      refine ite2 (fun hlt => ?_) (fun _ => ?_)
      · refine ⟨_, rfl, p, _, 1, .int at_, rfl, rfl, SP hp, atI_nat (j := 1) rfl, ?_⟩
        -- the cell
        refine ⟨fun σ H1 => H1 = H ∧ ∃ (z : Int) (y4 : Option V), σ = [some (.ref p), some (.int m), some (.int at_), some (.int z), y4], ?_, ?_⟩
        · refine ⟨_, rfl, _, rfl, p, _, 0, .ref c, rfl, rfl, SP hp, atI_nat (j := 0) rfl, c, _, rfl, .inl (SqL.of hc), at_, _, rfl, rfl, _, rfl, ?_⟩
          refine ite2 (fun h1 => ?_) (fun h1 => ?_)
          · have h1 := of_decide_eq_true h1
            rw [List.length_map] at h1
            obtain ⟨z, hz⟩ := at_ints (ns := ns) a0 h1
            exact ⟨_, rfl, p, _, 0, .ref c, rfl, rfl, SP hp, atI_nat (j := 0) rfl, _, rfl, c, _, at_, _, rfl, rfl, SqL.of hc, hz, rfl, z, _, rfl⟩
          · refine ⟨_, rfl, p, _, 0, .ref c, rfl, rfl, SP hp, atI_nat (j := 0) rfl, c, _, rfl, .inl (SqL.of hc), _, 0, rfl, rfl, _, rfl, ?_⟩
            refine ite2 (fun h2 => ?_) (fun h2 => ?_)
            · have h2 := of_decide_eq_true h2
              rw [List.length_map] at h2
              have k0 := Int.emod_nonneg (at_ * 5 + 3) (Int.ne_of_gt h2)
              have k1 := Int.emod_lt_of_pos (at_ * 5 + 3) h2
              obtain ⟨z, hz⟩ := at_ints (ns := ns) k0 k1
              refine ⟨_, rfl, p, _, 0, .ref c, rfl, rfl, SP hp, atI_nat (j := 0) rfl, _, rfl, at_, 5, rfl, rfl, .inr ⟨by decide, by decide⟩, _, 3, rfl, rfl, _, rfl, p, _, 0, .ref c, rfl, rfl, SP hp, atI_nat (j := 0) rfl, c, _, rfl, .inl (SqL.of hc), _, _, rfl, rfl, by rw [List.length_map]; exact h2, c, _, _, _, rfl, rfl, SqL.of hc, by rw [List.length_map]; exact hz, 10, 17, rfl, rfl, ⟨by decide, by decide, by decide⟩, _, rfl, _, at_, rfl, rfl, z, _, rfl, rfl, ?_, rfl, _, _, rfl⟩
              have : (0 : Int) < 10 ^ (17 : Int).toNat := by decide
              show (0 : Int) < 10 ^ (17 : Int).toNat + at_
              omega
            · exact ⟨rfl, 0, _, rfl⟩
        · rintro σ H1 ⟨rfl, z, y4, rfl⟩
          refine ⟨_, rfl, at_, 1, rfl, rfl, _, rfl, p, _, 1, 1, rfl, rfl, hp, rfl, ?_⟩
          refine ⟨_, rfl, _, rfl, z, at_, rfl, a0, by omega, fun r H2 r0 s2 => ?_⟩
          have hp2 := s2 _ _ (upd_same (H := H1) (a := p) (o := .lst ([V.ref c, V.int at_, V.int left].set 1 (V.int (at_ + 1)))))
          refine ⟨_, rfl, p, _, 2, 2, rfl, rfl, hp2, rfl, ?_⟩
          refine ⟨_, _, _, at_ + 1, r, rfl, ?_, upd_same, by omega, by omega, r0⟩
          exact ((kp_upd p H1 _).same s2).trans (kp_upd p H2 _)
      · exact ⟨_, _, _, at_, left, rfl, Kp.refl p H, hp, a0, by omega, l0⟩
    · rintro σ H1 ⟨y2, y3, y4, at1, l1, rfl, kp, h1, b0, b1, c0⟩
      refine ⟨_, rfl, p, _, 2, .int l1, rfl, rfl, SP h1, atI_nat (j := 2) rfl, _, rfl, l1, m, rfl, rfl, by show (0 : Int) < m; omega, ?_⟩
      refine ⟨_, rfl, p, _, 2, .int l1, rfl, rfl, SP h1, atI_nat (j := 2) rfl, _, rfl, l1, m, rfl, rfl, ⟨by omega, by omega⟩, _, rfl, p, _, 2, 2, rfl, rfl, h1, rfl, ?_⟩
      refine ⟨_, rfl, q _ _ (Int.emod_nonneg l1 (by omega)) (Int.emod_lt_of_pos l1 (by omega)) (kp.trans (kp_upd p H1 _)) ⟨⟨at1, l1 / m, upd_same, b0, by omega, Int.ediv_nonneg c0 (by omega)⟩, ?_⟩⟩
      rw [upd_ne hcp]
      exact kp _ _ hc hcp
end
/-! ### data that stands -/
theorem _root_.L2.Same.seqT {K : PySem.W.Frag} {H H' : Hp} {a : Addr} {xs : List V} (e : Same H H') (h : SqT K H a xs) : SqT K H' a xs := by
  rcases h with (h | ⟨o, h⟩) | h
  · exact .inl (.inl (e _ _ h))
  · exact .inl (.inr ⟨o, e _ _ h⟩)
  · exact .inr h
mutual
theorem dp_same {K : PySem.W.Frag} {H H' : Hp} (s : Same H H') : ∀ {v : V} {d : PyData}, Dp K H v d → Dp K H' v d
  | _, _, .non => .non
  | _, _, .bl b => .bl b
  | _, _, .int i => .int i
  | _, _, .str x => .str x
  | _, _, .lst q r => .lst (s.seq q) (dpAll_same s r)
  | _, _, .tup q r => .tup (s.seqT q) (dpAll_same s r)
theorem dpAll_same {K : PySem.W.Frag} {H H' : Hp} (s : Same H H') : ∀ {v : List V} {d : List PyData}, DpAll K H v d → DpAll K H' v d
  | _, _, .nil => .nil
  | _, _, .cons q r => .cons (dp_same s q) (dpAll_same s r)
end
/- data without a list in it -/
mutual
def noL : PyData → Bool
  | .list _ => false
  | .tuple ds => noLAll ds
  | _ => true
def noLAll : List PyData → Bool
  | [] => true
  | d :: ds => noL d && noLAll ds
end
theorem Kp.seqT {K : PySem.W.Frag} {p a : Addr} {H H' : Hp} {l xs : List V} (e : Kp p H H') (hp : H p = some (.lst l)) (h : SqT K H a xs) : SqT K H' a xs := by
  rcases h with (h | ⟨o, h⟩) | h
  · exact .inl (.inl (e _ _ h fun z => by rw [z, hp] at h; cases h))
  · exact .inl (.inr ⟨o, e _ _ h fun z => by rw [z, hp] at h; cases h⟩)
  · exact .inr h
mutual
theorem dp_kp {K : PySem.W.Frag} {p : Addr} {H H' : Hp} {l : List V} (s : Kp p H H') (hp : H p = some (.lst l)) : ∀ {v : V} {d : PyData}, Dp K H v d → noL d = true → Dp K H' v d
  | _, _, .non, _ => .non
  | _, _, .bl b, _ => .bl b
  | _, _, .int i, _ => .int i
  | _, _, .str x, _ => .str x
  | _, _, .lst q r, h => by simp [noL] at h
  | _, _, .tup q r, h => .tup (s.seqT hp q) (dpAll_kp s hp r (by simpa [noL] using h))
theorem dpAll_kp {K : PySem.W.Frag} {p : Addr} {H H' : Hp} {l : List V} (s : Kp p H H') (hp : H p = some (.lst l)) : ∀ {v : List V} {d : List PyData}, DpAll K H v d → noLAll d = true → DpAll K H' v d
  | _, _, .nil, _ => .nil
  | _, _, .cons q r, h => by
    simp only [noLAll, Bool.and_eq_true] at h
    exact .cons (dp_kp s hp q h.1) (dpAll_kp s hp r h.2)
end
theorem dpAll_len {K : PySem.W.Frag} {H : Hp} : ∀ {vs : List V} {ds : List PyData}, DpAll K H vs ds → vs.length = ds.length
  | _, _, .nil => rfl
  | _, _, .cons _ r => by rw [List.length_cons, List.length_cons, dpAll_len r]
theorem dpAll_get {K : PySem.W.Frag} {H : Hp} : ∀ {vs : List V} {ds : List PyData} {i : Nat} {v : V}, DpAll K H vs ds → vs[i]? = some v → ∃ d, ds[i]? = some d ∧ Dp K H v d
  | _, _, _, _, .nil, h => by simp at h
  | _, _, 0, _, .cons q r, h => by
    simp at h
    subst h
    exact ⟨_, rfl, q⟩
  | _, _, i + 1, v, .cons q r, h => by
    obtain ⟨d, h1, h2⟩ := dpAll_get (i := i) (v := v) r (by simpa using h)
    exact ⟨d, by simpa using h1, h2⟩
theorem dpAll_getD {K : PySem.W.Frag} {H : Hp} : ∀ {vs : List V} {ds : List PyData} {i : Nat} {d : PyData}, DpAll K H vs ds → ds[i]? = some d → ∃ v, vs[i]? = some v ∧ Dp K H v d
  | _, _, _, _, .nil, h => by simp at h
  | _, _, 0, _, .cons q r, h => by
    simp at h
    subst h
    exact ⟨_, rfl, q⟩
  | _, _, i + 1, v, .cons q r, h => by
    obtain ⟨d, h1, h2⟩ := dpAll_getD (i := i) (d := v) r (by simpa using h)
    exact ⟨d, by simpa using h1, h2⟩
theorem dpAll_app {K : PySem.W.Frag} {H : Hp} : ∀ {vs ws : List V} {ds es : List PyData}, DpAll K H vs ds → DpAll K H ws es → DpAll K H (vs ++ ws) (ds ++ es)
  | _, _, _, _, .nil, s => s
  | _, _, _, _, .cons q r, s => .cons q (dpAll_app r s)
theorem dpAll_ints {K : PySem.W.Frag} {H : Hp} : ∀ (ns : List Int), DpAll K H (ns.map V.int) (ns.map PyData.int)
  | [] => .nil
  | _ :: r => .cons (.int _) (dpAll_ints r)
theorem dpAll_bls {K : PySem.W.Frag} {H : Hp} : ∀ (ns : List Bool), DpAll K H (ns.map V.bl) (ns.map PyData.bool)
  | [] => .nil
  | _ :: r => .cons (.bl _) (dpAll_bls r)
theorem ints_of_dp {K : PySem.W.Frag} {H : Hp} : ∀ {vs : List V} {ns : List Int}, DpAll K H vs (ns.map PyData.int) → vs = ns.map V.int
  | _, [], .nil => rfl
  | _, _ :: _, .cons q r => by
    cases q
    rw [ints_of_dp r] <;> rfl
theorem tyx_l {K : PySem.W.Frag} {H : Hp} {a : Addr} {xs : List V} (h : SqL K H a xs) : TyX K H (.ref a) (.type "list") := by
  rcases h with (h | ⟨o, h⟩) | ⟨o, its, n, h, hc, _⟩
  · exact .base (.lst h)
  · exact .base (.frz h)
  · exact .kList h hc
theorem tyx_t {K : PySem.W.Frag} {H : Hp} {a : Addr} {xs : List V} (h : SqT K H a xs) : TyX K H (.ref a) (.type "tuple") := by
  rcases h with (h | ⟨o, h⟩) | ⟨o, its, n, h, hc, _⟩
  · exact .base (.tup h)
  · exact .fTuple h
  · exact .kTuple h hc
theorem walk_zipT {K : PySem.W.Frag} {a b : Addr} {xs ys : List V} {n : Nat} (hn : n = min xs.length ys.length) : Walk (RZ.ItzT K a b) n (fun H => SqT K H a xs ∧ SqT K H b ys) (YPair (fun i => xs[i]?) (fun i => ys[i]?)) := by
  subst hn
  refine ⟨fun i _ hi q => ?_, fun _ q => ⟨xs, ys, q.1, q.2, by omega⟩, fun i H v H' _ q y => ?_⟩
  · have h1 : i < xs.length := by omega
    have h2 : i < ys.length := by omega
    exact ⟨xs, ys, xs[i], ys[i], q.1, q.2, by simp [h1], by simp [h2]⟩
  · obtain ⟨T, x, z, h1, h2, h3, h4, h5⟩ := y
    exact ⟨T, x, z, h1, h2, h3, h4 xs q.1, h5 ys q.2⟩
/-! ### alike -/
/- data of so many levels, no list of it too long -/
mutual
def okD : Nat → PyData → Bool
  | 0, _ => false
  | _ + 1, .none => true
  | _ + 1, .bool _ => true
  | _ + 1, .int _ => true
  | _ + 1, .str _ => true
  | n + 1, .list ds => decide (ds.length ≤ 1000000) && okAll n ds
  | n + 1, .tuple ds => decide (ds.length ≤ 1000000) && okAll n ds
  | _ + 1, _ => false
def okAll : Nat → List PyData → Bool
  | _, [] => true
  | n, d :: ds => okD n d && okAll n ds
end
theorem okAll_get : ∀ {n : Nat} {ds : List PyData} {i : Nat} {d : PyData}, okAll n ds = true → ds[i]? = some d → okD n d = true
  | _, [], _, _, _, h => by simp at h
  | n, a :: r, 0, d, o, h => by
    simp at h
    subst h
    simp only [okAll, Bool.and_eq_true] at o
    exact o.1
  | n, a :: r, i + 1, d, o, h => by
    simp only [okAll, Bool.and_eq_true] at o
    exact okAll_get (i := i) o.2 (by simpa using h)
theorem okAll_of : ∀ {n : Nat} {ds : List PyData}, (∀ d ∈ ds, okD n d = true) → okAll n ds = true
  | _, [], _ => rfl
  | n, a :: r, h => by
    simp only [okAll, Bool.and_eq_true]
    exact ⟨h a List.mem_cons_self, okAll_of fun d hd => h d (List.mem_cons_of_mem _ hd)⟩
theorem inV_rep : ∀ n : Nat, inV (.bl false) (List.replicate n (V.bl true)) = false
  | 0 => rfl
  | n + 1 => by
    rw [List.replicate_succ]
    exact inV_rep n
theorem flat_rep : ∀ n : Nat, (List.replicate n (V.bl true)).all flatV = true
  | 0 => rfl
  | n + 1 => by
    rw [List.replicate_succ]
    exact flat_rep n
theorem ifT {c : Bool} {A B : Prop} (h : c = true) (a : A) : if c = true then A else B := by
  rw [if_pos h]
  exact a
theorem ifF {c : Bool} {A B : Prop} (h : c = false) (b : B) : if c = true then A else B := by
  rw [h, if_neg Bool.false_ne_true]
  exact b
/-! ### enumerate over a tuple -/
theorem draws_tuple {prog : Program} {w : World} {A : Around} (hh : A.handled = none) (it l : Addr) (ne : l ≠ it) (vs : Array Value) :
    Draws prog w A it [it, l] vs.size (fun i v => vs[i]? = some v) (fun i h => h.IsTupleIter it l i ∧ h.IsTuple l vs) where
  live := fun _ _ st => st.1.elim fun o ho => ⟨o, ho.1⟩
  frame := fun _ _ _ st keep => by
    obtain ⟨⟨o, ho, ro⟩, ⟨u, hu, ru⟩⟩ := st
    exact ⟨⟨o, keep it (by simp) o ho, ro⟩, ⟨u, keep l (by simp) u hu, ru⟩⟩
  item := fun i s Q E hi st hQ => by
    refine RZ.nextOf_tuple_item st.1 st.2 (x := vs[i]) (by simp [hi]) fun h' it' but => ?_
    exact hQ _ h' s.toks (by simp [hi]) ⟨it', st.2.extBut but.extBut ne⟩ but
  done := fun s Q E st hE => RZ.nextOf_tuple_end hh st.1 st.2 (by simp) hE
set_option maxHeartbeats 1000000 in
theorem enum_made_tuple (l : Addr) (vs : Array Value) (n : Nat) (dct : Option Addr) (sl : Array (Option Value)) :
    Meets (Builtin.«enumerate.__new__» ⟨[.type "enumerate", .ref l], []⟩) (fun _ R s => s.heap.get? l = some { cls := .type "tuple", dict := dct, data := .seq vs n, slots := sl } ∧
      R (.ok (.ret (.ref (s.heap.push { cls := .type "tuple_iterator", data := .fields #[.ref l, .int 0 0] }).objs.size)))
        { s with heap := (s.heap.push { cls := .type "tuple_iterator", data := .fields #[.ref l, .int 0 0] }).push { cls := .type "enumerate", data := .fields #[.none, .bool false, .ref s.heap.objs.size, rawInt 0, .none, .none] } }) := by
  refine .of_wp fun prog w A R s given => ?_
  obtain ⟨hp, g, d, tk, os⟩ := s
  obtain ⟨there, goal⟩ := given
  have sub := sub_enumerate
  have isT : Heap.IsTuple (Shared.heap ⟨hp, g, d, tk, os⟩) l vs := ⟨_, there, rfl, n, rfl⟩
  wp_walk using AutoSeq1.wpAny_loadPart' there
  refine wpAny_stack_any fun st => wpAny_pure ?_
  split
  · rename_i c _ _ _ _ _
    cases (c == Value.type "enumerate") <;> (wp_walk using AutoSeq1.wpAny_loadPart' there, wpAny_pyIter_tuple isT; exact ⟨_, rfl, goal⟩)
  · wp_walk using AutoSeq1.wpAny_loadPart' there, wpAny_pyIter_tuple isT
    exact ⟨_, rfl, goal⟩
theorem call_enum_tuple {prog : Program} {w : World} {A : Around} {E : Value → Shared → Prop} {s : Shared} {l : Addr} {vs : Array Value} {Q : Value → Shared → Prop} (isT : s.heap.IsTuple l vs)
    (hQ : ∀ h', IsEnum h' (s.heap.objs.size + 1) s.heap.objs.size 0 .none → h'.IsTupleIter s.heap.objs.size l 0 → (∀ b o, s.heap.get? b = some o → h'.get? b = some o) → Q (.ref (s.heap.objs.size + 1)) { s with heap := h' }) :
    wpAny (model prog w) A (call (.type "enumerate") [.ref l]) Q E s := by
  obtain ⟨⟨c, dct, dt, sl⟩, there, hc, n, hd⟩ := isT
  obtain rfl : c = .type "tuple" := hc
  obtain rfl : dt = .seq vs n := hd
  have sz : (s.heap.push { cls := .type "tuple_iterator", data := .fields #[.ref l, .int 0 0] }).objs.size = s.heap.objs.size + 1 := Heap.size_push ..
  refine callType_new F.called_enumerate (by decide) (F.typeCall_enumerate_1 _) (F.newCall_enumerate_1 _) (fun obj => F.args_object_init_2 obj _) F.entry_enumerate_new (enum_made_tuple l vs n dct sl) ⟨there, ?_⟩
  rw [sz]
  have made : IsEnum ((s.heap.push { cls := .type "tuple_iterator", data := .fields #[.ref l, .int 0 0] }).push { cls := .type "enumerate", data := .fields #[.none, .bool false, .ref s.heap.objs.size, rawInt 0, .none, .none] }) (s.heap.objs.size + 1) s.heap.objs.size 0 .none := by
    show Heap.get? _ _ = _
    rw [← sz]
    exact Heap.get?_push_size _ rfl
  exact ⟨⟨_, made, rfl⟩, hQ _ made ⟨_, Heap.get?_push_of_some _ (Heap.get?_push_size _ rfl), rfl, rfl⟩ fun b o e => Heap.get?_push_of_some _ (Heap.get?_push_of_some _ e)⟩
/-- the tuple at a, by its items' numbers -/
def ItnT (K : PySem.W.Frag) (a : Addr) : It where
  go := fun i H => ∃ (xs : List V) (x : V), SqT K H a xs ∧ xs[i]? = some x
  yld := fun i H v H' => ∃ T x, v = .ref T ∧ H T = none ∧ H' = upd H T (.tup [.int (i : Nat), x]) ∧ ∀ xs, SqT K H a xs → xs[i]? = some x
  stop := fun i H => ∃ xs : List V, SqT K H a xs ∧ xs.length = i
theorem walk_enumT {K : PySem.W.Frag} {a : Addr} {xs : List V} : Walk (ItnT K a) xs.length (fun H => SqT K H a xs) (YPair (fun i => some (.int (i : Nat))) (fun i => xs[i]?)) where
  goes := fun i _ hi q => ⟨xs, xs[i], q, by simp [hi]⟩
  stops := fun _ q => ⟨xs, q, rfl⟩
  yields := fun i H v H' _ q ⟨T, x, h1, h2, h3, h4⟩ => ⟨T, .int (i : Nat), x, h1, h2, h3, rfl, h4 xs q⟩
theorem turn_enumT {P : Program} {w : World} {K : PySem.W.Frag} {elts : List Expr} {kk : Nat} {tpos : Pos} (a e it : Addr) :
    Turn P w K (.Tuple elts kk tpos) (ItnT K a) [e, it] e (fun i h => (∃ old, IsEnum h e it ((i : Nat) : Int) old) ∧ h.IsTupleIter it a i ∧ e ≠ it) where
  mem := List.mem_cons_self
  obj := fun i h st b hb => by
    obtain ⟨⟨old, he⟩, ⟨o, ho, _, hd⟩, _⟩ := st
    rcases List.mem_cons.mp hb with rfl | hb
    · exact ⟨_, he, fun v q => nomatch q⟩
    · rw [List.mem_singleton.mp hb]
      exact ⟨o, ho, fun v q => by rw [hd] at q; cases q⟩
  keep := fun i h h' st keep => by
    obtain ⟨⟨old, he⟩, ⟨o, ho, r⟩, ne⟩ := st
    exact ⟨⟨old, keep e (by simp) _ he⟩, ⟨o, keep it (by simp) _ ho, r⟩, ne⟩
  item := by
    intro X hP hw hK hc i pins s σ H E I free st going
    subst hP hw hK
    obtain ⟨⟨old, he⟩, hit, ne⟩ := st
    obtain ⟨xs, x, seq, hx⟩ := going
    obtain ⟨its, vals, isT, _⟩ := I.tuple seq
    obtain ⟨u, hu, ru⟩ := vals.get hx
    have elt : e < s.heap.objs.size := Heap.lt_size he
    obtain ⟨oi, hoi, ci, di⟩ := id hit
    have ilt : it < s.heap.objs.size := Heap.lt_size hoi
    have isT' : s.heap.IsTuple a its.toArray := isT
    obtain ⟨oa, hoa, ca, na, da⟩ := id isT'
    have ai : a ≠ it := by
      rintro rfl
      rw [hoa] at hoi
      rw [Option.some.inj hoi, di] at da
      cases da
    have ea : e ≠ a := by
      rintro rfl
      have he' := hoa.symm.trans (show s.heap.get? e = some _ from he)
      rw [Option.some.inj he'] at da
      cases da
    have hlt : i < its.toArray.size := by
      rw [List.size_toArray, ← vals.length]
      exact (List.getElem?_eq_some_iff.mp hx).1
    have D := draws_tuple (prog := X.prog) (w := X.w) (A := X.A.in1) (I.ok.hd hc) it a ai its.toArray
    refine wpAny_pyNext_enum_itemD D he ⟨hit, isT'⟩ hlt ne (by simp [ne, ea]) fun v h' tk hv eo st' hT sz keeps => ?_
    obtain rfl : u = v := by
      have hv' : its[i]? = some v := by simpa using hv
      exact Option.some.inj (hu.symm.trans hv')
    refine ⟨_, rfl, wpAny_letOwnedTupleGo_enum (s := { s with heap := h', toks := tk + 1 }) eo fun h'' e'' sb => ?_⟩
    have hT2 : h''.get? s.heap.objs.size = some { cls := .type "tuple", data := .seq #[.int i tk, u] } := (sb.2 _ (Nat.ne_of_gt elt)).trans hT
    have fresh : ObjOk X.prog X.w (upd H s.heap.objs.size (.tup [.int (i : Nat), x])) h'' s.heap.objs.size (.tup [.int (i : Nat), x]) :=
      ⟨by show 2 ≤ sizeLine; decide, [.int i tk, u], .cons ⟨_, rfl⟩ (.cons ru .nil), ⟨_, hT2, rfl, _, rfl⟩⟩
    have J : Inv X pins σ (upd H s.heap.objs.size (.tup [.int (i : Nat), x])) { s with heap := h'', toks := tk + 1 } :=
      I.turnedNew (ch := [e, it]) (fun b ob hb q => (sb.2 b fun z => hb (by simp [z])).trans (keeps b ob (fun z => hb (by simp [z])) (fun z => hb (by simp [z])) q)) free (Nat.le_refl _) fresh
    refine ⟨.ref s.heap.objs.size, _, J, rfl, ⟨_, x, rfl, I.hok.fresh (Nat.le_refl _), rfl, fun ys hy => ?_⟩, ⟨⟨u, ?_⟩, ?_, ne⟩, fun b hb => ?_⟩
    · obtain ⟨its2, vals2, isT2, _⟩ := I.tuple hy
      rw [I.tuple_inj hy seq]
      exact hx
    · rw [show ((i + 1 : Nat) : Int) = (i : Int) + 1 by omega]
      exact e''
    · obtain ⟨o, ho, r⟩ := st'.1
      exact ⟨o, (sb.2 it (Ne.symm ne)).trans ho, r⟩
    · have : b < s.heap.objs.size := by
        rcases List.mem_cons.mp hb with rfl | hb
        · exact elt
        · rw [List.mem_singleton.mp hb]
          exact ilt
      rw [upd_ne (Nat.ne_of_lt this)]
      exact (free b hb).1
  done := by
    intro X hP hw hK hc i pins s σ H E I free st ends
    subst hP hw hK
    obtain ⟨⟨old, he⟩, hit, ne⟩ := st
    obtain ⟨xs, seq, hx⟩ := ends
    obtain ⟨its, vals, isT, _⟩ := I.tuple seq
    obtain ⟨oi, hoi, ci, di⟩ := id hit
    have isT' : s.heap.IsTuple a its.toArray := isT
    obtain ⟨oa, hoa, ca, na, da⟩ := id isT'
    have ai : a ≠ it := by
      rintro rfl
      rw [hoa] at hoi
      rw [Option.some.inj hoi, di] at da
      cases da
    have sz : i = its.toArray.size := by
      rw [List.size_toArray, ← vals.length, hx]
    subst sz
    have D := draws_tuple (prog := X.prog) (w := X.w) (A := X.A.in1) (I.ok.hd hc) it a ai its.toArray
    obtain ⟨f0, f1, f2, f3, f4, f5⟩ := free it (by simp)
    exact wpAny_pyNext_enum_endD D he ⟨hit, isT'⟩ fun h' eb => ⟨rfl, I.turned (t' := s.toks) (fun b o hb q => eb b o hb q) f0 f1 f3 f4 f5⟩
  self := fun A i s Q E st h => st.1.elim fun _ he => wpAny_pyIter_enum he h
def iEnumT (K : PySem.W.Frag) (ta : TA) : TI := fun σ H R => ta σ H fun vs H1 => ∃ a xs, vs = [.ref a] ∧ SqT K H1 a xs ∧ R (ItnT K a) H1
theorem pi_enumT {X : Cx} {e : Expr} {ta : TA} {p pos tpos : Pos} {elts : List Expr} {kk : Nat} (hg : Gl X "enumerate") (hm : X.mg "enumerate" = none) (ha : PA X [e] ta) (hs : starEach [e] X.env = [(false, eval e X.env)] := by rfl) :
    PI X (.Tuple elts kk tpos) (.Call (.Name "enumerate" p) [e] [] pos) (iEnumT X.K ta) := by
  refine ⟨fun pins s σ H R I h => Call_ (ld_blt I hg hm boot_enumerate (PyProof.Rows.callWith_type1 (thn (ha.run pos pins s σ H _ I h) fun us s1 ⟨vs, H1, I1, r1, q1⟩ => ?_) hs rfl))⟩
  obtain ⟨a, xs, rfl, seq, q⟩ := q1
  obtain ⟨u, rfl, ru⟩ := vals1 r1
  cases ru
  obtain ⟨its, vals, isT, _⟩ := I1.tuple seq
  refine call_enum_tuple isT fun h' he hit keeps => wpAny_pyIter_enum he ?_
  refine ⟨s1.heap.objs.size + 1, [s1.heap.objs.size + 1, s1.heap.objs.size], _, _, H1, rfl, I1.kept (t' := s1.toks) keeps, turn_enumT a (s1.heap.objs.size + 1) s1.heap.objs.size, ⟨⟨.none, he⟩, hit, Nat.succ_ne_self _⟩, fun b hb => ?_, q⟩
  have le : s1.heap.objs.size ≤ b := by
    rcases List.mem_cons.mp hb with rfl | hb
    · exact Nat.le_succ _
    · rw [List.mem_singleton.mp hb]
      exact Nat.le_refl _
  exact I1.fpOk le (I1.hok.fresh le)
/-! ### min of a tuple of ints -/
theorem ints_readsAll {h : Heap} : ∀ {vs : List Value} {ns : List Int}, Vals (ns.map V.int) vs → ∃ as, ReadsAll h vs (ns.map PyData.int) as
  | [], [], _ => ⟨[], .nil⟩
  | v :: vs, n :: ns, r => by
    cases r with
    | cons r rr =>
      obtain ⟨t, rfl⟩ := r
      obtain ⟨as, q⟩ := ints_readsAll (h := h) rr
      exact ⟨_, .cons (.int n t) q⟩
  | _ :: _, [], r => nomatch r
  | [], _ :: _, r => nomatch r
theorem depthAll_ints : ∀ ns : List Int, PyData.depthAll (ns.map PyData.int) ≤ 1
  | [] => Nat.zero_le _
  | n :: ns => by
    have := depthAll_ints ns
    show max (PyData.depth (.int n)) (PyData.depthAll (ns.map PyData.int)) ≤ 1
    have e : PyData.depth (.int n) ≤ 1 := by first | decide | simp [PyData.depth]
    omega
def rMinT (K : PySem.W.Frag) : List V → Hp → VK → Prop := fun vs H Q => ∃ (a : Addr) (n : Int) (ns : List Int), vs = [V.ref a] ∧ SqT K H a ((n :: ns).map V.int) ∧ Q (.int (ns.foldl min n)) H
theorem cr_minT {X : Cx} {k : Nat} (hc : X.calm = true) (room : Room k X.A) : CallR X (.builtin "min") (rMinT X.K) := by
  intro pins s σ H vs us Q I r h
  obtain ⟨a, n, ns, rfl, seq, q⟩ := h
  obtain ⟨its, vals, isT, _⟩ := I.tuple seq
  rw [Vals.ref1 r]
  obtain ⟨as, reads⟩ := ints_readsAll (h := s.heap) vals
  have alike : PySem.W.AlikeAll ((n :: ns).map PyData.int) := by
    refine ⟨fun x hx y hy => ?_, fun x hx e => ?_⟩
    · obtain ⟨i, _, rfl⟩ := List.mem_map.mp hx
      obtain ⟨j, _, rfl⟩ := List.mem_map.mp hy
      simp [PySem.W.alike]
    · obtain ⟨i, _, rfl⟩ := List.mem_map.mp hx
      cases e
  have un := room.un
  have dp := depthAll_ints (n :: ns)
  refine PySem.W.min_tuple_data (I.ok.hd hc) (show s.heap.IsTuple a its.toArray from isT) (by simpa using reads) alike (by show X.A.units + 1 + _ < _; have : PyData.depthAll (PyData.int n :: ns.map PyData.int) ≤ 1 := dp; omega) fun i v h' tk bs hv rd keeps => ?_
  rw [PySem.W.minD_ints] at rd
  cases rd with
  | int _ t => exact ⟨.int _, H, I.kept keeps, ⟨t, rfl⟩, q⟩
theorem foldl_min_le : ∀ (ns : List Int) (n b : Int), b ≤ ns.foldl min n ↔ b ≤ n ∧ ∀ m ∈ ns, b ≤ m
  | [], n, b => by simp
  | m :: r, n, b => by
    rw [List.foldl_cons, foldl_min_le r (min n m) b, List.forall_mem_cons]
    constructor
    · rintro ⟨h1, h2⟩
      exact ⟨by omega, by omega, h2⟩
    · rintro ⟨h1, h2, h3⟩
      exact ⟨by omega, h3⟩
/-! ### drawn houses -/
def sHouse : Stmt := topS 32
def wayD (l : List Int) : PyData := .tuple (l.map PyData.int)
def askD (a : List (List Int)) : PyData := .tuple (a.map wayD)
def houseD (h : List (List (List Int))) : PyData := .tuple (h.map askD)
structure WayOk (kinds size : Int) (l : List Int) : Prop where
  len : (l.length : Int) = kinds
  all : ∀ x ∈ l, -size ≤ x ∧ x ≤ size
structure AskOk (kinds ways size : Int) (a : List (List Int)) : Prop where
  one : 1 ≤ a.length
  five : a.length ≤ 5
  most : (a.length : Int) ≤ ways + 1
  all : ∀ l ∈ a, WayOk kinds size l
structure HouseOk (kinds asks ways size : Int) (h : List (List (List Int))) : Prop where
  one : 1 ≤ h.length
  most : (h.length : Int) ≤ asks
  all : ∀ a ∈ h, AskOk kinds ways size a
theorem noLAll_map {α : Type} {f : α → PyData} (hf : ∀ x, noL (f x) = true) : ∀ l : List α, noLAll (l.map f) = true
  | [] => by simp [noLAll]
  | a :: r => by
    rw [List.map_cons]
    simp only [noLAll, Bool.and_eq_true]
    exact ⟨hf a, noLAll_map hf r⟩
theorem noL_int (i : Int) : noL (.int i) = true := by simp [noL]
theorem noL_way (l : List Int) : noL (wayD l) = true := by
  unfold wayD
  simp only [noL]
  exact noLAll_map noL_int l
theorem noL_ask (a : List (List Int)) : noL (askD a) = true := by
  unfold askD
  simp only [noL]
  exact noLAll_map noL_way a
theorem noL_house (h : List (List (List Int))) : noL (houseD h) = true := by
  unfold houseD
  simp only [noL]
  exact noLAll_map noL_ask h
theorem Pen.at {H : Hp} {p c : Addr} {ns : List Int} {n : Nat} (h : Pen H p c ns n) : ∃ l, H p = some (.lst l) := by
  obtain ⟨⟨a, l, h1, _⟩, _⟩ := h
  exact ⟨_, h1⟩
theorem Pen.dp {K : PySem.W.Frag} {H H' : Hp} {p c : Addr} {ns : List Int} {n : Nat} {v : V} {d : PyData} (h : Pen H p c ns n) (k : Kp p H H') (q : Dp K H v d) (nl : noL d = true) : Dp K H' v d := by
  obtain ⟨l, hp⟩ := h.at
  exact dp_kp k hp q nl
theorem Pen.dpAll {K : PySem.W.Frag} {H H' : Hp} {p c : Addr} {ns : List Int} {n : Nat} {v : List V} {d : List PyData} (h : Pen H p c ns n) (k : Kp p H H') (q : DpAll K H v d) (nl : noLAll d = true) : DpAll K H' v d := by
  obtain ⟨l, hp⟩ := h.at
  exact dpAll_kp k hp q nl
/-- a tuple of such data, laid anew -/
theorem dp_tup {K : PySem.W.Frag} {H : Hp} {q : Addr} {vs : List V} {ds : List PyData} (nq : H q = none) (h : DpAll K H vs ds) : Dp K (upd H q (.tup vs)) (.ref q) (.tuple ds) :=
  .tup (SqT.of upd_same) (dpAll_same (same_upd nq) h)
theorem Kp.free {p a : Addr} {H H' : Hp} (k : Kp p H H') (h : H' a = none) (ne : a ≠ p) : H a = none := by
  cases e : H a with
  | none => rfl
  | some o =>
    rw [k _ _ e ne] at h
    cases h
theorem Kp.put {p a : Addr} {H H' : Hp} {o : HO} (k : Kp p H H') (h : H a = none) : Kp p H (upd H' a o) := fun b x e n => by
  rw [upd_ne (ne_of_none e h)]
  exact k _ _ e n
theorem Pen.put {H : Hp} {p c a : Addr} {ns : List Int} {n : Nat} {o : HO} (h : Pen H p c ns n) (hp : p ≠ a) (hc : c ≠ a) : Pen (upd H a o) p c ns n := by
  obtain ⟨⟨x, y, h1, h2⟩, h3⟩ := h
  exact ⟨⟨x, y, by rw [upd_ne hp]; exact h1, h2⟩, by rw [upd_ne hc]; exact h3⟩
theorem Pen.nep {H : Hp} {p c a : Addr} {ns : List Int} {n : Nat} (h : Pen H p c ns n) (q : H a = none) : p ≠ a ∧ c ≠ a := by
  obtain ⟨⟨x, y, h1, h2⟩, h3⟩ := h
  exact ⟨ne_of_none h1 q, ne_of_none h3 q⟩
theorem dpAll_put {K : PySem.W.Frag} {H : Hp} {a : Addr} {l : List V} {o : HO} {v : List V} {d : List PyData} (h : H a = some (.lst l)) (q : DpAll K H v d) (nl : noLAll d = true) : DpAll K (upd H a o) v d := dpAll_kp (kp_upd a H o) h q nl
theorem at3 {size r : Int} (s0 : 0 ≤ size) (h0 : 0 ≤ r) (h1 : r < 3) : ∃ z, atI [V.int size, V.int (0 - size), V.int 0] r = some (.int z) ∧ -size ≤ z ∧ z ≤ size := by
  have : r = 0 ∨ r = 1 ∨ r = 2 := by omega
  rcases this with rfl | rfl | rfl
  · exact ⟨size, atI_nat (j := 0) rfl, by omega, by omega⟩
  · exact ⟨0 - size, atI_nat (j := 1) rfl, by omega, by omega⟩
  · exact ⟨0, atI_nat (j := 2) rfl, by omega, by omega⟩
theorem atI_some {xs : List V} {k : Int} (h0 : 0 ≤ k) (h1 : k < xs.length) : ∃ v, atI xs k = some v ∧ xs[k.toNat]? = some v := by
  obtain ⟨j, rfl⟩ : ∃ j : Nat, k = (j : Int) := ⟨k.toNat, by omega⟩
  have hj : j < xs.length := by omega
  exact ⟨xs[j], atI_nat (List.getElem?_eq_getElem hj), by simp [hj]⟩
theorem mem_app1 {α : Type} {P : α → Prop} {l : List α} {x : α} (h : ∀ a ∈ l, P a) (hx : P x) : ∀ a ∈ l ++ [x], P a := fun a ha => by
  rcases List.mem_append.mp ha with h' | h'
  · exact h a h'
  · rw [List.mem_singleton.mp h']
    exact hx
theorem dpAll_app1 {K : PySem.W.Frag} {H : Hp} {α : Type} {f : α → PyData} {vs : List V} {l : List α} {v : V} {x : α} (h : DpAll K H vs (l.map f)) (q : Dp K H v (f x)) : DpAll K H (vs ++ [v]) ((l ++ [x]).map f) := by
  rw [List.map_append]
  exact dpAll_app h (.cons q .nil)
theorem small_line {n : Nat} (h : n ≤ 100000) : n < sizeLine := Nat.lt_of_le_of_lt h (by decide)
def spHouse (K : PySem.W.Frag) : Sp := fun vs H Q _ => ∃ (p c : Addr) (ns : List Int) (n : Nat) (kinds asks ways size : Int), vs = [.ref p, .int kinds, .int asks, .int ways, .int size] ∧ Pen H p c ns n ∧ n + 600 < penMost ∧
  (1 ≤ kinds ∧ kinds ≤ 4) ∧ (1 ≤ asks ∧ asks ≤ 8) ∧ (1 ≤ ways ∧ ways ≤ 5) ∧ (0 ≤ size ∧ size ≤ 99) ∧
  ∀ a H' h, Kp p H H' → Pen H' p c ns (n + 600) → Dp K H' (.ref a) (houseD h) → HouseOk kinds asks ways size h → Q (.ref a) H'
section
variable {P : Program} {w : World} {K : PySem.W.Frag} {mg : Str → Option Value} {base : Heap}
theorem scHouse : FnScope ["pen", "kinds", "asks", "ways", "size", "found", "i", "ask", "k", "way", "kind", "one"] ["pen", "kinds", "asks", "ways", "size"] (defScope sHouse) := ⟨rfl, rfl, rfl, by decide +kernel, rfl, by decide +kernel, by decide +kernel⟩
theorem ok_house {f fT : Addr} {fd fdT : FuncData} {k : Nat} (F : Fun K "_law_house" "_law_house" sHouse f fd) (GT : FnOk P w K mg base CX0 (k + 2) fT fdT ["pen", "amount"] spTake) (kT : PySem.W.keepIn K (.ref fT) = true) (bT : Binds K fdT ["pen", "amount"] []) (gT : mg "_law_take" = some (.ref fT))
    (mr : mg "range" = none) (mt : mg "tuple" = none) (ml : mg "len" = none) : FnOk P w K mg base CX0 (k + 3) f fd ["pen", "kinds", "asks", "ways", "size"] (spHouse K) := by
  refine F.ok scHouse (fun vs H Q E h => ?_) (fun cdv A outer s H vs Q E hr h => ?_)
  · obtain ⟨p, c, ns, n, kinds, asks, ways, size, rfl, _⟩ := h
    rfl
  · obtain ⟨p, c, ns, n, kinds, asks, ways, size, rfl, hP, hn, ⟨k0, k1⟩, ⟨a0, a1⟩, ⟨w0, w1⟩, ⟨s0, s1⟩, q⟩ := h
    unfold penMost at hn
    refine ⟨_, pss_cons (ps_set (i := 5) scHouse.nd rfl (.inl rfl) (pe_lst pa_nil))
      (pss_cons (ps_for PassesOwn.never rfl (pi_range1 (by rfl) mr (pa_cons (pe_op op_add pe_int (pe_call GT hr (by rfl) gT kT bT .nil pass0 (pa_cons (pv 0) (pa_cons (pv 2) pa_nil)))) pa_nil)) (pg_name (i := 6) scHouse.nd rfl (.inl rfl))
        (pss_cons (ps_set (i := 7) scHouse.nd rfl (.inl rfl) (pe_lst pa_nil))
        (pss_cons (ps_for PassesOwn.never rfl (pi_range1 (by rfl) mr (pa_cons (pe_op op_add pe_int (pe_call GT hr (by rfl) gT kT bT .nil pass0 (pa_cons (pv 0) (pa_cons (pv 3) pa_nil)))) pa_nil)) (pg_name (i := 8) scHouse.nd rfl (.inl rfl))
          (pss_cons (ps_setLc (i := 9) (own := [("kind", 10)]) (g := gName 10) (tt := tYes) rfl scHouse.nd rfl rfl (sw_true rfl rfl rfl (by decide +kernel)) (pi_range1 (by rfl) mr (pa_cons (pv 1) pa_nil))
              (blkOk_by (N := ["pen", "kinds", "asks", "ways", "size", "found", "i", "ask", "k", "way", "kind", "one"]) (sc := defScope sHouse) (by decide +kernel)) (fun _ _ _ _ _ => by exact pg_name (i := 10) scHouse.nd rfl (.inl rfl)) (fun _ _ _ _ _ => pts_nil)
              (fun _ _ _ _ _ => by exact pe_op op_sub (pe_call GT hr (by rfl) gT kT bT .nil pass0 (pa_cons (pv 0) (pa_cons (pe_op op_add (pe_op op_mul pe_int (pv 4)) pe_int) pa_nil))) (pv 4)))
          (pss_cut (ps_if (pt_cmpR op_eq (pe_call GT hr (by rfl) gT kT bT .nil pass0 (pa_cons (pv 0) (pa_cons pe_int pa_nil))) pe_int (nomark _))
              (pss_one (ps_asg (pe_ix ix_list (pe_lst (pa_cons (pv 4) (pa_cons (pe_op op_sub pe_int (pv 4)) (pa_cons pe_int pa_nil)))) (pe_call GT hr (by rfl) gT kT bT .nil pass0 (pa_cons (pv 0) (pa_cons pe_int pa_nil))) (fun _ _ => rfl))
                (pg_sub (pv 9) (pe_call GT hr (by rfl) gT kT bT .nil pass0 (pa_cons (pv 0) (pa_cons (pv 1) pa_nil))) set_list))) pss_nil)
          (pss_one (ps_expr (pe_bm PySem.F.plainAttrs_list PySem.F.slot_list_append PySem.F.type_list_append mt_append (pv 7) (pa_cons (pe_callTy call_tuple_of (by rfl) mt (by decide +kernel) (pa_cons (pv 9) pa_nil)) pa_nil)))))))
        (pss_cut (ps_if (PW.pt (pw_and (pt_cmpR op_eq (pe_call GT hr (by rfl) gT kT bT .nil pass0 (pa_cons (pv 0) (pa_cons pe_int pa_nil))) pe_int (nomark _)) (pw_and1 (pt_cmpR op_lt (pe_callB call_len_seq (by rfl) ml PySem.boot_len (pa_cons (pv 7) pa_nil)) pe_int (nomark _)))))
            (pss_one (ps_expr (pe_bm PySem.F.plainAttrs_list PySem.F.slot_list_append PySem.F.type_list_append mt_append (pv 7) (pa_cons (pe_callTy call_tuple_of (by rfl) mt (by decide +kernel) (pa_cons
              (pe_lc (own := [("one", 11)]) (g := gName 11) (tt := tYes) rfl scHouse.nd (pi_tup (pe_ix ix_list (pv 7) (pe_call GT hr (by rfl) gT kT bT .nil pass0 (pa_cons (pv 0) (pa_cons (pe_callB call_len_seq (by rfl) ml PySem.boot_len (pa_cons (pv 7) pa_nil)) pa_nil))) (fun _ _ => rfl)))
                (blkOk_by (N := ["pen", "kinds", "asks", "ways", "size", "found", "i", "ask", "k", "way", "kind", "one"]) (sc := defScope sHouse) (by decide +kernel)) (fun _ _ _ _ _ => by exact pg_name (i := 11) scHouse.nd rfl (.inl rfl)) (fun _ _ _ _ _ => pts_nil)
                (fun _ _ _ _ _ => by exact pe_op op_sub pe_int (pv 11))) pa_nil)) pa_nil)))) pss_nil)
        (pss_one (ps_expr (pe_bm PySem.F.plainAttrs_list PySem.F.slot_list_append PySem.F.type_list_append mt_append (pv 5) (pa_cons (pe_callTy call_tuple_of (by rfl) mt (by decide +kernel) (pa_cons (pv 7) pa_nil)) pa_nil))))))))
      (pss_one (ps_ret (pe_callTy call_tuple_of (by rfl) mt (by decide +kernel) (pa_cons (pv 5) pa_nil))))), ?_⟩
    have npc : ∀ {H' : Hp} {m : Nat} {a : Addr}, Pen H' p c ns m → H' a = none → p ≠ a ∧ c ≠ a := fun h q => h.nep q
    -- found = []
    refine ⟨by show 0 ≤ sizeLine; decide, fun F nF => ?_⟩
    have sF := same_upd (o := .lst []) nF
    obtain ⟨npF, ncF⟩ := hP.nep nF
    refine ⟨_, rfl, _, rfl, p, c, ns, n, asks, rfl, hP.same sF, by unfold penMost; omega, a0, by omega, fun r H1 r0 r1 kp1 P1 => ?_⟩
    refine ⟨1, r, rfl, rfl, _, rfl, by omega, by omega, ?_⟩
    refine for_range (lo := 0) (n := (1 + r).toNat) (fun i σ H2 => ∃ (y6 y7 y8 y9 : Option V) (fs : List V) (hs : List (List (List Int))), σ = [some (.ref p), some (.int kinds), some (.int asks), some (.int ways), some (.int size), some (.ref F), y6, y7, y8, y9, none, none] ∧
      Kp p H H2 ∧ Pen H2 p c ns (n + 1 + 60 * i) ∧ H2 F = some (.lst fs) ∧ DpAll K H2 fs (hs.map askD) ∧ hs.length = i ∧ ∀ a ∈ hs, AskOk kinds ways size a)
      ⟨none, none, none, none, [], [], rfl, sF.kp.trans kp1, P1, kp1 _ _ upd_same npF.symm, .nil, rfl, by simp⟩ ?_ ?_
    · rintro i σ H2 hi ⟨y6, y7, y8, y9, fs, hs, rfl, kp2, P2, hF, dF, lF, okF⟩
      have hi8 : i < 8 := by omega
      -- ask = []
      refine ⟨by show 0 ≤ sizeLine; decide, fun A nA => ?_⟩
      have sA := same_upd (o := .lst []) nA
      obtain ⟨npA, ncA⟩ := P2.nep nA
      have nFA : F ≠ A := ne_of_none hF nA
      have nHA : H A = none := kp2.free nA npA.symm
      refine ⟨_, rfl, _, rfl, p, c, ns, _, ways, rfl, P2.same sA, by unfold penMost; omega, w0, by omega, fun r' H3 r0' r1' kp3 P3 => ?_⟩
      refine ⟨1, r', rfl, rfl, _, rfl, by omega, by omega, ?_⟩
      refine for_range (lo := 0) (n := (1 + r').toNat) (fun j σ H4 => ∃ (y8 y9 : Option V) (ws : List V) (ls : List (List Int)), σ = [some (.ref p), some (.int kinds), some (.int asks), some (.int ways), some (.int size), some (.ref F), some (.int (0 + (i : Int))), some (.ref A), y8, y9, none, none] ∧
        Kp p H H4 ∧ Pen H4 p c ns (n + 2 + 60 * i + 10 * j) ∧ H4 F = some (.lst fs) ∧ DpAll K H4 fs (hs.map askD) ∧ H4 A = some (.lst ws) ∧ DpAll K H4 ws (ls.map wayD) ∧ ls.length = j ∧ ∀ l ∈ ls, WayOk kinds size l)
        ⟨y8, y9, [], [], rfl, (kp2.same sA).trans kp3, P3.mono (by omega), kp3 _ _ (sA _ _ hF) npF.symm, (P2.same sA).dpAll kp3 (dpAll_same sA dF) (noLAll_map noL_ask hs), kp3 _ _ upd_same npA.symm, .nil, rfl, by simp⟩ ?_ ?_
      · rintro j σ H4 hj ⟨y8, y9, ws, ls, rfl, kp4, P4, hF4, dF4, hA4, dA4, lA, okA⟩
        have hj5 : j < 5 := by omega
        -- way = [.. for kind in range(kinds)]
        refine ⟨_, rfl, kinds, rfl, by omega, by omega, fun D nD => ?_⟩
        have sD := same_upd (o := .lst []) nD
        obtain ⟨npD, ncD⟩ := P4.nep nD
        refine lc_range (lo := 0) (n := kinds.toNat) (fun t H5 => Kp p H4 H5 ∧ Pen H5 p c ns (n + 2 + 60 * i + 10 * j + t) ∧ ∃ xs : List Int, H5 D = some (.lst (xs.map V.int)) ∧ xs.length = t ∧ ∀ x ∈ xs, -size ≤ x ∧ x ≤ size)
          ⟨sD.kp, P4.same sD, [], upd_same, rfl, by simp⟩ ?_ ?_
        · rintro t H5 ht ⟨kp5, P5, xs, hD, lx, bx⟩
          refine ⟨rfl, ?_⟩
          refine ⟨_, rfl, _, rfl, 2, size, rfl, rfl, .inl ⟨by decide, by decide⟩, _, 1, rfl, rfl, p, c, ns, _, _, rfl, P5, by unfold penMost; omega, by omega, by omega, fun z H6 z0 z1 kp6 P6 => ?_⟩
          refine ⟨_, rfl, z, size, rfl, rfl, _, kp6 _ _ hD npD.symm, by rw [List.length_map]; exact small_line (by omega), ?_⟩
          refine ⟨(kp5.trans kp6).put nD, P6.put npD ncD, xs ++ [z - size], ?_, by rw [List.length_append, lx]; rfl, mem_app1 bx ⟨by omega, by omega⟩⟩
          rw [upd_same, List.map_append]
          rfl
        · rintro H5 ⟨kp5, P5, xs, hD, lx, bx⟩
          have okx : WayOk kinds size xs := ⟨by omega, bx⟩
          -- now and then a number otherwise
          refine ⟨fun σ H6 => ∃ xs : List Int, σ = [some (.ref p), some (.int kinds), some (.int asks), some (.int ways), some (.int size), some (.ref F), some (.int (0 + (i : Int))), some (.ref A), some (.int (0 + (j : Int))), some (.ref D), none, none] ∧
            Kp p H4 H6 ∧ Pen H6 p c ns (n + 2 + 60 * i + 10 * j + 8) ∧ H6 D = some (.lst (xs.map V.int)) ∧ WayOk kinds size xs, ?_, ?_⟩
          · refine ⟨_, rfl, p, c, ns, _, 6, rfl, P5, by unfold penMost; omega, by decide, by decide, fun z H6 z0 z1 kp6 P6 => ?_⟩
            have hD6 := kp6 _ _ hD npD.symm
            refine ⟨rfl, _, rfl, ite2 (fun _ => ?_) (fun _ => ?_)⟩
            · refine ⟨_, rfl, _, rfl, 0, size, rfl, rfl, by show 3 ≤ sizeLine; decide, fun L nL => ?_⟩
              have sL := same_upd (o := .lst [V.int size, V.int (0 - size), V.int 0]) nL
              have nDL : D ≠ L := ne_of_none hD6 nL
              obtain ⟨npL, ncL⟩ := P6.nep nL
              refine ⟨_, rfl, p, c, ns, _, 3, rfl, P6.same sL, by unfold penMost; omega, by decide, by decide, fun z2 H7 z20 z21 kp7 P7 => ?_⟩
              obtain ⟨u, hu, u0, u1⟩ := at3 s0 z20 z21
              refine ⟨L, _, z2, _, rfl, rfl, SqL.of (kp7 _ _ upd_same npL.symm), hu, ?_⟩
              refine ⟨_, rfl, _, rfl, _, rfl, p, c, ns, _, kinds, rfl, P7, by unfold penMost; omega, k0, by omega, fun z3 H8 z30 z31 kp8 P8 => ?_⟩
              have hD8 := kp8 _ _ (kp7 _ _ (sL _ _ hD6) npD.symm) npD.symm
              refine ⟨D, _, z3, _, rfl, rfl, hD8, ixN_of z30 (by rw [List.length_map, lx]; omega), ?_⟩
              refine ⟨xs.set z3.toNat u, rfl, ((((kp5.trans kp6).same sL).trans kp7).trans kp8).put nD, (P8.put npD ncD).mono (by omega), ?_, ⟨by rw [List.length_set]; exact okx.len, fun x hx => ?_⟩⟩
              · rw [upd_same, List.map_set]
              · rcases List.mem_or_eq_of_mem_set hx with h | h
                · exact bx x h
                · rw [h]
                  exact ⟨u0, u1⟩
            · exact ⟨xs, rfl, kp5.trans kp6, P6.mono (by omega), hD6, okx⟩
          · rintro σ H6 ⟨xs, rfl, kp6, P6, hD6, okx⟩
            -- ask.append(tuple(way))
            have hA6 := kp6 _ _ hA4 npA.symm
            refine ⟨_, rfl, .inl ⟨rfl, _, SqL.of hA6⟩, _, rfl, D, _, rfl, .inl ⟨SqL.of hD6, fun W nW => ?_⟩⟩
            have sW := same_upd (o := .tup (xs.map V.int)) nW
            have dW : Dp K (upd H6 W (.tup (xs.map V.int))) (.ref W) (wayD xs) := dp_tup nW (dpAll_ints xs)
            have hAW := sW _ _ hA6
            refine ⟨A, ws, _, rfl, rfl, hAW, small_line (by rw [dpAll_len dA4, List.length_map]; omega), ?_⟩
            refine ⟨_, _, ws ++ [.ref W], ls ++ [xs], rfl, (kp4.trans (kp6.same sW)).put nHA, ((P6.same sW).put npA ncA).mono (by omega), ?_, ?_, upd_same, ?_, by rw [List.length_append, lA]; rfl, mem_app1 okA okx⟩
            · rw [upd_ne nFA]
              exact sW _ _ (kp6 _ _ hF4 npF.symm)
            · exact dpAll_put hAW (dpAll_same sW (P4.dpAll kp6 dF4 (noLAll_map noL_ask hs))) (noLAll_map noL_ask hs)
            · exact dpAll_put hAW (dpAll_app1 (dpAll_same sW (P4.dpAll kp6 dA4 (noLAll_map noL_way ls))) dW) (noLAll_map noL_way _)
      · rintro σ H4 ⟨y8', y9', ws, ls, rfl, kp4, P4, hF4, dF4, hA4, dA4, lA, okA⟩
        have l1 : 1 ≤ ls.length := by omega
        have l5 : ls.length ≤ 5 := by omega
        have lw : (ls.length : Int) ≤ ways := by omega
        -- now and then one turned about
        refine ⟨fun σ H5 => ∃ (ws : List V) (ls : List (List Int)), σ = [some (.ref p), some (.int kinds), some (.int asks), some (.int ways), some (.int size), some (.ref F), some (.int (0 + (i : Int))), some (.ref A), y8', y9', none, none] ∧
          Kp p H H5 ∧ Pen H5 p c ns (n + 2 + 60 * i + 55) ∧ H5 F = some (.lst fs) ∧ DpAll K H5 fs (hs.map askD) ∧ H5 A = some (.lst ws) ∧ DpAll K H5 ws (ls.map wayD) ∧ AskOk kinds ways size ls, ?_, ?_⟩
        · refine ⟨_, rfl, p, c, ns, _, 3, rfl, P4, by unfold penMost; omega, by decide, by decide, fun z H5 z0 z1 kp5 P5 => ?_⟩
          have hA5 := kp5 _ _ hA4 npA.symm
          have hF5 := kp5 _ _ hF4 npF.symm
          have dF5 := P4.dpAll kp5 dF4 (noLAll_map noL_ask hs)
          have dA5 := P4.dpAll kp5 dA4 (noLAll_map noL_way ls)
          refine ⟨rfl, _, rfl, ite2 (fun _ => ?_) (fun _ => ?_)⟩
          · refine ⟨_, rfl, A, ws, rfl, .inl (SqL.of hA5), _, 5, rfl, rfl, _, rfl, ite2 (fun hl => ?_) (fun _ => ?_)⟩
            · have hl := of_decide_eq_true hl
              have lws : ws.length = ls.length := by rw [dpAll_len dA4, List.length_map]
              refine ⟨_, rfl, .inl ⟨rfl, _, SqL.of hA5⟩, _, rfl, _, rfl, _, rfl, A, ws, rfl, .inl (SqL.of hA5), p, c, ns, _, _, rfl, P5, by unfold penMost; omega, by omega, by omega, fun z2 H6 z20 z21 kp6 P6 => ?_⟩
              have hA6 := kp6 _ _ hA5 npA.symm
              have dA6 := P5.dpAll kp6 dA5 (noLAll_map noL_way ls)
              obtain ⟨v, hv, hv2⟩ := atI_some z20 z21
              obtain ⟨d, hd, hdp⟩ := dpAll_get dA6 hv2
              rw [List.getElem?_map] at hd
              obtain ⟨xs, hx, rfl⟩ := Option.map_eq_some_iff.mp hd
              cases hdp with
              | @tup ta vs' _ hT hall =>
                obtain rfl := ints_of_dp hall
                refine ⟨A, ws, z2, _, rfl, rfl, SqL.of hA6, hv, ta, rfl, ⟨_, hT⟩, fun D nD => ?_⟩
                have sD := same_upd (o := .lst []) nD
                refine lc_tup (K := K) (a := ta) (xs := xs.map V.int) (fun t H7 => Same H6 H7 ∧ H7 D = some (.lst ((xs.take t).map fun x => V.int (0 - x)))) ⟨sD, upd_same⟩ (fun t H7 _ ⟨s7, _⟩ => s7.seqT hT) ?_ ?_
                · rintro t v H7 hv3 ⟨s7, hD7⟩
                  obtain ⟨y, hy, rfl⟩ := ints_get hv3
                  refine ⟨rfl, _, rfl, 0, y, rfl, rfl, _, hD7, ?_, ?_, ?_⟩
                  · rw [List.length_map, List.length_take]
                    have okl := okA xs (List.mem_of_getElem? hx)
                    have := okl.len
                    exact small_line (by omega)
                  · intro b o e
                    rw [upd_ne (ne_of_none e nD)]
                    exact s7 _ _ e
                  · rw [upd_same, List.take_add_one, hy, List.map_append]
                    rfl
                · rintro H7 ⟨s7, hD7⟩
                  rw [List.length_map, List.take_length] at hD7
                  have okl := okA xs (List.mem_of_getElem? hx)
                  have hA7 := s7 _ _ hA6
                  refine ⟨D, _, rfl, .inl ⟨SqL.of hD7, fun W nW => ?_⟩⟩
                  have sW := same_upd (o := .tup (xs.map fun x => V.int (0 - x))) nW
                  have s8 := s7.trans sW
                  have eW : (xs.map fun x => V.int (0 - x)) = (xs.map fun x => 0 - x).map V.int := by rw [List.map_map]; rfl
                  have dW : Dp K (upd H7 W (.tup (xs.map fun x => V.int (0 - x)))) (.ref W) (wayD (xs.map fun x => 0 - x)) := dp_tup nW (by rw [eW]; exact dpAll_ints _)
                  have hA8 := sW _ _ hA7
                  refine ⟨A, ws, _, rfl, rfl, hA8, small_line (by omega), ?_⟩
                  have okn : WayOk kinds size (xs.map fun x => 0 - x) := ⟨by rw [List.length_map]; exact okl.len, fun x hx => by
                    obtain ⟨y, hy, rfl⟩ := List.mem_map.mp hx
                    have := okl.all y hy
                    exact ⟨by omega, by omega⟩⟩
                  refine ⟨ws ++ [.ref W], ls ++ [xs.map fun x => 0 - x], rfl, (((kp4.trans kp5).trans kp6).same s8).put nHA, ((P6.same s8).put npA ncA).mono (by omega), ?_, ?_, upd_same, ?_, ⟨?_, ?_, ?_, mem_app1 okA okn⟩⟩
                  · rw [upd_ne nFA]
                    exact s8 _ _ (kp6 _ _ hF5 npF.symm)
                  · exact dpAll_put hA8 (dpAll_same s8 (P5.dpAll kp6 dF5 (noLAll_map noL_ask hs))) (noLAll_map noL_ask hs)
                  · exact dpAll_put hA8 (dpAll_app1 (dpAll_same s8 dA6) dW) (noLAll_map noL_way _)
                  · rw [List.length_append]
                    omega
                  · rw [List.length_append]
                    show ls.length + 1 ≤ 5
                    omega
                  · rw [List.length_append]
                    show ((ls.length + 1 : Nat) : Int) ≤ ways + 1
                    omega
            · exact ⟨ws, ls, rfl, kp4.trans kp5, P5.mono (by omega), hF5, dF5, hA5, dA5, ⟨l1, l5, by omega, okA⟩⟩
          · exact ⟨ws, ls, rfl, kp4.trans kp5, P5.mono (by omega), hF5, dF5, hA5, dA5, ⟨l1, l5, by omega, okA⟩⟩
        · rintro σ H5 ⟨ws, ls, rfl, kp5, P5, hF5, dF5, hA5, dA5, okL⟩
          -- found.append(tuple(ask))
          refine ⟨_, rfl, .inl ⟨rfl, _, SqL.of hF5⟩, _, rfl, A, _, rfl, .inl ⟨SqL.of hA5, fun W nW => ?_⟩⟩
          have sW := same_upd (o := .tup ws) nW
          have dW : Dp K (upd H5 W (.tup ws)) (.ref W) (askD ls) := dp_tup nW dA5
          have hFW := sW _ _ hF5
          refine ⟨F, fs, _, rfl, rfl, hFW, small_line (by rw [dpAll_len dF5, List.length_map]; omega), ?_⟩
          refine ⟨_, _, _, _, fs ++ [.ref W], hs ++ [ls], rfl, (kp5.same sW).put ?_, ((P5.same sW).put npF ncF).mono (by omega), upd_same, ?_, by rw [List.length_append, lF]; rfl, mem_app1 okF okL⟩
          · exact nF
          · exact dpAll_put hFW (dpAll_app1 (dpAll_same sW dF5) dW) (noLAll_map noL_ask _)
    · rintro σ H2 ⟨y6, y7, y8, y9, fs, hs, rfl, kp2, P2, hF, dF, lF, okF⟩
      refine ⟨_, rfl, F, _, rfl, .inl ⟨SqL.of hF, fun W nW => ?_⟩⟩
      have sW := same_upd (o := .tup fs) nW
      exact q W _ hs (kp2.same sW) ((P2.same sW).mono (by omega)) (dp_tup nW dF) ⟨by omega, by omega, okF⟩
end
/-! ### what the functions on four numbers speak of (no def of the program) -/
abbrev stsD (S : List (List Int)) : PyData := .list (S.map wayD)
theorem way_of {K : PySem.W.Frag} {H : Hp} {v : V} {l : List Int} (h : Dp K H v (wayD l)) : ∃ a, v = .ref a ∧ SqT K H a (l.map V.int) := by
  cases h with
  | @tup a vs _ hT hall =>
    obtain rfl := ints_of_dp hall
    exact ⟨a, rfl, hT⟩
theorem of_way {K : PySem.W.Frag} {H : Hp} {a : Addr} {l : List Int} (h : SqT K H a (l.map V.int)) : Dp K H (.ref a) (wayD l) := .tup h (dpAll_ints l)
theorem sts_of {K : PySem.W.Frag} {H : Hp} {v : V} {S : List (List Int)} (h : Dp K H v (stsD S)) : ∃ l vs, v = .ref l ∧ SqL K H l vs ∧ DpAll K H vs (S.map wayD) := by
  cases h with
  | @lst a vs _ hL hall => exact ⟨a, vs, rfl, hL, hall⟩
theorem sts_get {K : PySem.W.Frag} {H : Hp} {vs : List V} {S : List (List Int)} {j : Nat} {v : V} (h : DpAll K H vs (S.map wayD)) (e : vs[j]? = some v) : ∃ t, S[j]? = some t ∧ Dp K H v (wayD t) := by
  obtain ⟨d, hd, dv⟩ := dpAll_get h e
  rw [List.getElem?_map] at hd
  obtain ⟨t, ht, rfl⟩ := Option.map_eq_some_iff.mp hd
  exact ⟨t, ht, dv⟩
theorem sts_len {K : PySem.W.Frag} {H : Hp} {vs : List V} {S : List (List Int)} (h : DpAll K H vs (S.map wayD)) : vs.length = S.length := by rw [dpAll_len h, List.length_map]
theorem four_of {l : List Int} (h : l.length = 4) : ∃ a b c d, l = [a, b, c, d] := by
  match l, h with
  | [a, b, c, d], _ => exact ⟨a, b, c, d, rfl⟩
theorem take_snoc {α : Type} {l : List α} {j : Nat} {x : α} (h : l[j]? = some x) : l.take (j + 1) = l.take j ++ [x] := by
  rw [List.take_succ, h]
  rfl
theorem take_all {α β : Type} {l : List α} {m : List β} (h : m.length = l.length) : l.take m.length = l := by rw [h, List.take_length]
theorem maxI (i j : Int) : (if j > i then j else i) = max i j := by
  split <;> omega
/-- with noughts behind -/
def four (l : List Int) : List Int := l ++ List.replicate (4 - l.length) 0
theorem ok4_len {x : List Int} (h : Ok4 x) : x.length = 4 := by
  obtain ⟨a, b, c, d, rfl, _⟩ := h
  rfl
theorem noL_app (A B : List (List Int)) : noLAll (A.map wayD ++ B.map wayD) = true := by
  rw [← List.map_append]
  exact noLAll_map noL_way _
/-- a list of tuples, with their addresses -/
theorem sts_refs {K : PySem.W.Frag} {H : Hp} : ∀ {vs : List V} {S : List (List Int)}, DpAll K H vs (S.map wayD) → ∃ ks : List (Addr × List Int), vs = ks.map (fun p => V.ref p.1) ∧ ks.map (·.2) = S ∧ ∀ p ∈ ks, SqT K H p.1 (p.2.map V.int)
  | _, [], .nil => ⟨[], rfl, rfl, fun _ h => nomatch h⟩
  | _, t :: S, .cons q r => by
    obtain ⟨a, rfl, hT⟩ := way_of q
    obtain ⟨ks, e1, e2, e3⟩ := sts_refs r
    refine ⟨(a, t) :: ks, by rw [List.map_cons, e1], by rw [List.map_cons, e2], fun p hp => ?_⟩
    rcases List.mem_cons.mp hp with rfl | hp
    · exact hT
    · exact e3 p hp
theorem refs_sts {K : PySem.W.Frag} {H : Hp} : ∀ {ks : List (Addr × List Int)}, (∀ p ∈ ks, SqT K H p.1 (p.2.map V.int)) → DpAll K H (ks.map fun p => V.ref p.1) ((ks.map (·.2)).map wayD)
  | [], _ => .nil
  | p :: ks, h => .cons (of_way (h p List.mem_cons_self)) (refs_sts fun q hq => h q (List.mem_cons_of_mem _ hq))
theorem bothL_snoc (A B : List (List Int)) (x : List Int) : bothL (A ++ [x]) B = bothL A B ++ (if anyLe x B then [x] else B.map (join4 x)) := by
  unfold bothL
  rw [List.flatMap_append, List.flatMap_cons, List.flatMap_nil, List.append_nil]
/-! ### the functions on asks -/
/-- a walk by an invariant, whatever a turn is -/
theorem walk_gen {J : It} {n : Nat} {G : Hp → Prop} {Y : Nat → Hp → V → Hp → Prop} (w : Walk J n G Y) {H0 : Hp} {Qd : Hp → Prop} (T : V → Hp → (Hp → Prop) → Prop) (Pv : Nat → Hp → Prop) (h0 : Pv 0 H0) (hG : ∀ i H, i ≤ n → Pv i H → G H)
    (hs : ∀ i x H H', i < n → Pv i H → Y i H x H' → T x H' (Pv (i + 1))) (hd : ∀ H, Pv n H → Qd H) :
    ∃ W : Nat → Nat → Hp → Prop, (∃ m, W 0 m H0) ∧ ∀ i m H, W i m H → (J.stop i H ∧ Qd H) ∨ (J.go i H ∧ ∃ Nx : Hp → Prop, (∀ H', Nx H' → ∃ m', m' < m ∧ W (i + 1) m' H') ∧ ∀ x H', J.yld i H x H' → T x H' Nx) := by
  refine ⟨fun i m H => m = n - i ∧ i ≤ n ∧ Pv i H, ⟨n, by simp, Nat.zero_le _, h0⟩, ?_⟩
  rintro i m H ⟨rfl, hi, p⟩
  have q := hG i H hi p
  by_cases lt : i < n
  · exact .inr ⟨w.goes i H lt q, Pv (i + 1), fun H' p' => ⟨n - (i + 1), by omega, rfl, lt, p'⟩, fun x H' y => hs i x H H' lt p (w.yields i H x H' lt q y)⟩
  · obtain rfl : i = n := by omega
    exact .inl ⟨w.stops H q, hd H p⟩
abbrev asksD (h : Asks) : PyData := .list (h.map stsD)
def rTupOf (K : PySem.W.Frag) : List V → Hp → VK → Prop := fun xs H Q => ∃ p ys, xs = [.ref p] ∧ ((SqL K H p ys ∧ ∀ l, H l = none → Q (.ref l) (upd H l (.tup ys))) ∨ (SqT K H p ys ∧ Q (.ref p) H))
abbrev lcSc (ns : List (Str × NameKind)) : Scope := { kind := .function, names := ns, isGenerator := false, isCoroutine := false }
def lcScope : Expr → Scope
  | .ListComp _ _ sc _ => sc
  | _ => { kind := .function, names := [], isGenerator := false, isCoroutine := false }
def retE (s : Stmt) : Expr := match defBody s with
  | [.Return (some e) _] => e
  | _ => .Constant .none 0 ⟨0, 0, 0, 0⟩
/-- the heap without a -/
def rmv (H : Hp) (a : Addr) : Hp := fun b => if b = a then none else H b
theorem rmv_ne {H : Hp} {a b : Addr} (h : b ≠ a) : rmv H a b = H b := if_neg h
theorem rmv_kp (H : Hp) (a : Addr) : Kp a H (rmv H a) := fun b o e n => by rw [rmv_ne n]; exact e
theorem rmv_some {H : Hp} {a b : Addr} {o : HO} (e : rmv H a b = some o) : b ≠ a ∧ H b = some o := by
  by_cases h : b = a
  · rw [h, show rmv H a a = none from if_pos rfl] at e
    cases e
  · rw [rmv_ne h] at e
    exact ⟨h, e⟩
theorem rmv_same {H H' : Hp} {a : Addr} (k : ∀ b o, b ≠ a → H b = some o → H' b = some o) : Same (rmv H a) H' := fun b o e => k b o (rmv_some e).1 (rmv_some e).2
theorem rmv_rmv {H H' : Hp} {a : Addr} (k : ∀ b o, b ≠ a → H b = some o → H' b = some o) : Same (rmv H a) (rmv H' a) := fun b o e => by
  obtain ⟨n, e⟩ := rmv_some e
  rw [rmv_ne n]
  exact k b o n e
theorem flat_len {l B : List (List Int)} : (l.flatMap fun w => B.map (need4 w)).length = l.length * B.length := by
  induction l with
  | nil => simp
  | cons w l ih =>
    rw [List.flatMap_cons, List.length_append, List.length_map, ih, List.length_cons, Nat.succ_mul]
    omega
/-! ### one ask more -/
theorem perm_lift {α β : Type} (f : α → β) : ∀ {l : List β} {t : List α}, l.Perm (t.map f) → ∃ t' : List α, t'.Perm t ∧ t'.map f = l
  | [], t, h => by
    have e : t = [] := by
      have := h.length_eq
      rw [List.length_nil, List.length_map] at this
      exact List.eq_nil_of_length_eq_zero this.symm
    exact ⟨[], by rw [e], rfl⟩
  | b :: l, t, h => by
    have hb : b ∈ t.map f := h.mem_iff.mp List.mem_cons_self
    obtain ⟨a, ha, rfl⟩ := List.mem_map.mp hb
    obtain ⟨t1, t2, rfl⟩ := List.append_of_mem ha
    have h2 : (f a :: l).Perm (f a :: (t1 ++ t2).map f) := by
      refine h.trans ?_
      rw [List.map_append, List.map_cons, List.map_append]
      exact List.perm_middle
    obtain ⟨t', p, e⟩ := perm_lift f (List.Perm.cons_inv h2)
    exact ⟨a :: t', (p.cons a).trans List.perm_middle.symm, by rw [List.map_cons, e]⟩
theorem ways_flat : ∀ ns : List Int, PyData.depthAll (ns.map PyData.int) ≤ 1 ∧ PyData.canLayAll0 (ns.map PyData.int) = true
  | [] => ⟨Nat.zero_le _, rfl⟩
  | n :: ns => by
    obtain ⟨h1, h2⟩ := ways_flat ns
    refine ⟨?_, by simp [PyData.canLayAll0, PyData.canLay0, h2]⟩
    show max (PyData.depth (.int n)) (PyData.depthAll (ns.map PyData.int)) ≤ 1
    have e : PyData.depth (.int n) ≤ 1 := by simp [PyData.depth]
    omega
theorem sts_flat : ∀ S : List (List Int), PyData.depthAll (S.map wayD) ≤ 3 ∧ PyData.canLayAll0 (S.map wayD) = true
  | [] => ⟨Nat.zero_le _, rfl⟩
  | t :: S => by
    obtain ⟨h1, h2⟩ := sts_flat S
    obtain ⟨w1, w2⟩ := ways_flat t
    refine ⟨?_, by simp [PyData.canLayAll0, PyData.canLay0, wayD, h2, w2]⟩
    show max (PyData.depth (wayD t)) (PyData.depthAll (S.map wayD)) ≤ 3
    have e : PyData.depth (wayD t) ≤ 3 := by
      unfold wayD
      simp only [PyData.depth]
      omega
    omega
theorem sts_shaped (S : List (List Int)) : SeqAt.shaped (stsD S) = true := by
  obtain ⟨h1, h2⟩ := sts_flat S
  unfold SeqAt.shaped
  rw [Bool.and_eq_true, decide_eq_true_iff]
  refine ⟨by simp only [PyData.canLay0]; exact h2, ?_⟩
  simp only [PyData.depth]
  omega
theorem eqv_ints : ∀ l m : List Int, PyData.eqvAll (l.map PyData.int) (m.map PyData.int) = true → l = m
  | [], [], _ => rfl
  | [], _ :: _, h => by simp [PyData.eqvAll] at h
  | _ :: _, [], h => by simp [PyData.eqvAll] at h
  | a :: l, b :: m, h => by
    simp only [List.map_cons, PyData.eqvAll, PyData.eqv, Bool.and_eq_true, beq_iff_eq] at h
    rw [h.1, eqv_ints l m h.2]
theorem eqv_stsA : ∀ S T : List (List Int), PyData.eqvAll (S.map wayD) (T.map wayD) = true → S = T
  | [], [], _ => rfl
  | [], _ :: _, h => by simp [PyData.eqvAll] at h
  | _ :: _, [], h => by simp [PyData.eqvAll] at h
  | a :: l, b :: m, h => by
    simp only [List.map_cons, PyData.eqvAll, Bool.and_eq_true] at h
    have e : a = b := eqv_ints a b (by have := h.1; unfold wayD at this; simpa only [PyData.eqv] using this)
    rw [e, eqv_stsA l m h.2]
theorem eqv_sts {S T : List (List Int)} (h : PyData.eqv (stsD S) (stsD T) = true) : S = T := eqv_stsA S T (by simpa only [PyData.eqv] using h)
theorem cut_take {l : List Int} {k : Nat} (h : k ≤ l.length) : cutV (l.map V.int) none (some (k : Int)) = (l.take k).map V.int := by
  unfold cutV
  rw [show HT.sIx (l.map V.int).length (l.map V.int).length (some (k : Int)) = min k (l.map V.int).length from HT.sIx_nat _ _ k, HT.sIx_none, List.map_take, List.drop_zero, Nat.sub_zero, Nat.min_eq_left (by rw [List.length_map]; exact h)]
def asks4 (h : Asks) : Asks := h.map fun a => a.map four
theorem four_len {l : List Int} (h : l.length ≤ 4) : (four l).length = 4 := by
  unfold four
  rw [List.length_append, List.length_replicate]
  omega
structure HsOk (h : Asks) (kd : Nat) : Prop where
  ne : ∃ a0 w0, h[0]? = some a0 ∧ a0[0]? = some w0
  k1 : 1 ≤ kd
  k4 : kd ≤ 4
  len : ∀ a ∈ h, ∀ l ∈ a, l.length = kd
  five : ∀ a ∈ h, a.length ≤ 5
  few : h.length ≤ 100
theorem HsOk.asks {h : Asks} {kd : Nat} (o : HsOk h kd) : (∀ a ∈ asks4 h, a.length ≤ 5 ∧ ∀ w ∈ a, w.length = 4) ∧ (asks4 h).length ≤ 1000 := by
  refine ⟨fun a ha => ?_, by unfold asks4; rw [List.length_map]; have := o.few; omega⟩
  obtain ⟨b, hb, rfl⟩ := List.mem_map.mp ha
  refine ⟨by rw [List.length_map]; exact o.five b hb, fun w hw => ?_⟩
  obtain ⟨l, hl, rfl⟩ := List.mem_map.mp hw
  exact four_len (by rw [o.len b hb l hl]; exact o.k4)
theorem four_ok {s : List Int} (h1 : 1 ≤ s.length) (h4 : s.length ≤ 4) (h0 : ∀ z ∈ s, 0 ≤ z) : Ok4 (four s) := by
  match s, h1, h4, h0 with
  | [a], _, _, h => exact ⟨a, 0, 0, 0, rfl, h a (by simp), by decide, by decide, by decide⟩
  | [a, b], _, _, h => exact ⟨a, b, 0, 0, rfl, h a (by simp), h b (by simp), by decide, by decide⟩
  | [a, b, c], _, _, h => exact ⟨a, b, c, 0, rfl, h a (by simp), h b (by simp), h c (by simp), by decide⟩
  | [a, b, c, d], _, _, h => exact ⟨a, b, c, d, rfl, h a (by simp), h b (by simp), h c (by simp), h d (by simp)⟩
  | _ :: _ :: _ :: _ :: _ :: _, _, h, _ => simp at h
theorem nothing_at {K : PySem.W.Frag} {an : Addr} {o : Obj} {its : Array Value} {nn : Nat} {t0 t1 t2 t3 : Tok} (l : K.lookup an = some o) (hc : o.cls = .type "tuple") (hd : o.data = .seq #[.int 0 t0, .int 0 t1, .int 0 t2, .int 0 t3] nn) (H : Hp) : Dp K H (.ref an) (wayD [0, 0, 0, 0]) :=
  of_way (.inr ⟨o, _, nn, l, hc, hd, by show 4 ≤ sizeLine; rw [sizeLine_eq]; omega, .cons ⟨_, rfl⟩ (.cons ⟨_, rfl⟩ (.cons ⟨_, rfl⟩ (.cons ⟨_, rfl⟩ .nil)))⟩)
/-! ### max of a tuple of ints -/
def rMaxT (K : PySem.W.Frag) : List V → Hp → VK → Prop := fun vs H Q => ∃ (a : Addr) (n : Int) (ns : List Int), vs = [V.ref a] ∧ SqT K H a ((n :: ns).map V.int) ∧ Q (.int (ns.foldl max n)) H
theorem cr_maxT {X : Cx} {k : Nat} (hc : X.calm = true) (room : Room k X.A) : CallR X (.builtin "max") (rMaxT X.K) := by
  intro pins s σ H vs us Q I r h
  obtain ⟨a, n, ns, rfl, seq, q⟩ := h
  obtain ⟨its, vals, isT, _⟩ := I.tuple seq
  rw [Vals.ref1 r]
  obtain ⟨as, reads⟩ := ints_readsAll (h := s.heap) vals
  have alike : PySem.W.AlikeAll ((n :: ns).map PyData.int) := by
    refine ⟨fun x hx y hy => ?_, fun x hx e => ?_⟩
    · obtain ⟨i, _, rfl⟩ := List.mem_map.mp hx
      obtain ⟨j, _, rfl⟩ := List.mem_map.mp hy
      simp [PySem.W.alike]
    · obtain ⟨i, _, rfl⟩ := List.mem_map.mp hx
      cases e
  have un := room.un
  have dp := depthAll_ints (n :: ns)
  refine PySem.W.max_tuple_data (I.ok.hd hc) (show s.heap.IsTuple a its.toArray from isT) (by simpa using reads) alike (by show X.A.units + 1 + _ < _; have : PyData.depthAll (PyData.int n :: ns.map PyData.int) ≤ 1 := dp; omega) fun i v h' tk bs hv rd keeps => ?_
  rw [PySem.W.maxD_ints] at rd
  cases rd with
  | int _ t => exact ⟨.int _, H, I.kept keeps, ⟨t, rfl⟩, q⟩
theorem foldl_max_le : ∀ (ns : List Int) (n b : Int), ns.foldl max n ≤ b ↔ n ≤ b ∧ ∀ m ∈ ns, m ≤ b
  | [], n, b => by simp
  | m :: r, n, b => by
    rw [List.foldl_cons, foldl_max_le r (max n m) b, List.forall_mem_cons]
    constructor
    · rintro ⟨h1, h2⟩
      exact ⟨by omega, by omega, h2⟩
    · rintro ⟨h1, h2, h3⟩
      exact ⟨by omega, h3⟩
/-! ### the functions on stores of four numbers -/
def sInFour : Stmt := topS 4
def sCovOne : Stmt := topS 5
def sLeastOf : Stmt := topS 6
def sNeeded : Stmt := topS 7
def sJoined : Stmt := topS 8
def sBoth : Stmt := topS 9
def spInFour (K : PySem.W.Frag) : Sp := fun vs H Q _ => ∃ (x : V) (l : List Int), vs = [x] ∧ Dp K H x (wayD l) ∧ 1 ≤ l.length ∧ l.length ≤ 4 ∧ ∀ v H', Same H H' → Dp K H' v (wayD (four l)) → Q v H'
def spCovOne (K : PySem.W.Frag) : Sp := fun vs H Q _ => ∃ (x y : V) (s : List Int) (S : List (List Int)), vs = [x, y] ∧ Dp K H x (wayD s) ∧ Dp K H y (stsD S) ∧ s.length = 4 ∧ (∀ t ∈ S, t.length = 4) ∧ ∀ H', Same H H' → Q (.bl (anyLe s S)) H'
def spNeeded (K : PySem.W.Frag) (f : List Int → List Int → List Int) : Sp := fun vs H Q _ => ∃ (x y : V) (w : List Int) (S : List (List Int)), vs = [x, y] ∧ Dp K H x (wayD w) ∧ Dp K H y (stsD S) ∧ w.length = 4 ∧ (∀ t ∈ S, t.length = 4) ∧ S.length ≤ 5000 ∧
  ∀ q H' ps, Same H H' → H q = none → H' q = some (.lst ps) → DpAll K H' ps ((S.map (f w)).map wayD) → Q (.ref q) H'
/-- the least ones of some, sorted -/
def spLeastOf (K : PySem.W.Frag) : Sp := fun vs H Q _ => ∃ (x : V) (S : List (List Int)), vs = [x] ∧ Dp K H x (stsD S) ∧ (∀ t ∈ S, Ok4 t) ∧ S.length < 4096 ∧
  ∀ q H' ps M, Same H H' → H q = none → H' q = some (.lst ps) → DpAll K H' ps (M.map wayD) → Canon M (UpS S) → M.length ≤ S.length → Q (.ref q) H'
def spBoth (K : PySem.W.Frag) : Sp := fun vs H Q _ => ∃ (x y : V) (A B : List (List Int)), vs = [x, y] ∧ Dp K H x (stsD A) ∧ Dp K H y (stsD B) ∧ (∀ t ∈ A, Ok4 t) ∧ (∀ t ∈ B, Ok4 t) ∧ A.length * (B.length + 1) < 4096 ∧
  ∀ q H' ps M, Same H H' → H q = none → H' q = some (.lst ps) → DpAll K H' ps (M.map wayD) → Canon M (fun z => UpS A z ∧ UpS B z) → Q (.ref q) H'
section
variable {P : Program} {w : World} {K : PySem.W.Frag} {mg : Str → Option Value} {base : Heap}
theorem scInFour : FnScope ["numbers"] ["numbers"] (defScope sInFour) := ⟨rfl, rfl, rfl, by decide +kernel, rfl, by decide +kernel, by decide +kernel⟩
theorem ok_inFour {f : Addr} {fd : FuncData} {k : Nat} {tk : Tok} (F : Fun K "in_four" "in_four" sInFour f fd) (g4 : mg "FOUR" = some (.int 4 tk)) (ml : mg "len" = none) : FnOk P w K mg base CX0 (k + 1) f fd ["numbers"] (spInFour K) := by
  refine F.ok scInFour (fun vs H Q E h => ?_) (fun cdv A outer s H vs Q E hr h => ?_)
  · obtain ⟨x, l, rfl, _⟩ := h
    rfl
  · obtain ⟨x, l, rfl, hx, l1, l4, q⟩ := h
    refine ⟨_, pss_one (ps_ret (pe_op op_catT (pv 0) (pe_op op_rep1 (pe_tup (pa_cons pe_int pa_nil)) (pe_op op_sub (pe_glob (v := .int 4) (by rfl) g4 ⟨_, rfl⟩) (pe_callB call_len_seq (by rfl) ml PySem.boot_len (pa_cons (pv 0) pa_nil)))))), ?_⟩
    obtain ⟨a, rfl, hT⟩ := way_of hx
    refine ⟨_, rfl, by show 1 ≤ sizeLine; decide, fun z nz => ?_⟩
    have sz := same_upd (o := .tup [V.int 0]) nz
    have hTz := sz.seqT hT
    have hz : SqT K (upd H z (.tup [V.int 0])) z [V.int 0] := SqT.of upd_same
    refine ⟨_, rfl, a, _, rfl, .inr hTz, 4, _, rfl, rfl, ?_⟩
    rw [List.length_map]
    have ne : l.map V.int ≠ [] := by
      intro e
      rw [List.map_eq_nil_iff] at e
      rw [e] at l1
      simp at l1
    have fin : ∀ (b : Addr) (H2 : Hp), Same (upd H z (.tup [V.int 0])) H2 → SqT K H2 b (List.replicate (4 - l.length) (V.int 0)) → rCatT K (.ref a) (.ref b) H2 Q := fun b H2 s2 hb => by
      refine ⟨a, b, _, _, rfl, rfl, s2.seqT hTz, hb, ne, by simp only [List.length_map, List.length_replicate]; rw [sizeLine_eq]; omega, fun e => ?_, fun e p np => ?_⟩
      · have e0 : 4 - l.length = 0 := by simpa using e
        refine q _ _ (sz.trans s2) ?_
        unfold four
        rw [e0]
        simpa using of_way (s2.seqT hTz)
      · refine q _ _ ((sz.trans s2).trans (same_upd np)) ?_
        have m : l.map V.int ++ List.replicate (4 - l.length) (V.int 0) = (four l).map V.int := by unfold four; rw [List.map_append, List.map_replicate]
        rw [m]
        exact of_way (SqT.of upd_same)
    refine ⟨z, 4 - (l.length : Int), V.int 0, rfl, rfl, hz, by omega, by omega, fun e => ?_, fun e p np => ?_⟩
    · have e1 : 4 - l.length = 1 := by omega
      refine fin z _ (Same.refl _) ?_
      rw [e1]
      exact hz
    · have et : (4 - (l.length : Int)).toNat = 4 - l.length := by omega
      rw [et]
      exact fin p _ (same_upd np) (SqT.of upd_same)
theorem scCovOne : FnScope ["store", "stores", "a", "b", "c", "d", "e", "f", "g", "h"] ["store", "stores"] (defScope sCovOne) := ⟨rfl, rfl, rfl, by decide +kernel, rfl, by decide +kernel, by decide +kernel⟩
theorem ok_covOne {f : Addr} {fd : FuncData} {k : Nat} (F : Fun K "covers_one" "covers_one" sCovOne f fd) : FnOk P w K mg base CX0 (k + 1) f fd ["store", "stores"] (spCovOne K) := by
  refine F.ok scCovOne (fun vs H Q E h => ?_) (fun cdv A outer s H vs Q E hr h => ?_)
  · obtain ⟨x, y, s, S, rfl, _⟩ := h
    rfl
  · obtain ⟨x, y, s, S, rfl, hx, hy, l4, lS, q⟩ := h
    refine ⟨_, pss_cons (ps_asg (pv 0) (pg_tup (by rfl) (pgs_cons (pg_name (i := 2) scCovOne.nd rfl (.inl rfl)) (pgs_cons (pg_name (i := 3) scCovOne.nd rfl (.inl rfl)) (pgs_cons (pg_name (i := 4) scCovOne.nd rfl (.inl rfl)) (pgs_cons (pg_name (i := 5) scCovOne.nd rfl (.inl rfl)) pgs_nil))))))
      (pss_cons (ps_for PassesOwn.never rfl (pi_list (pv 1)) (pg_tup (by rfl) (pgs_cons (pg_name (i := 6) scCovOne.nd rfl (.inl rfl)) (pgs_cons (pg_name (i := 7) scCovOne.nd rfl (.inl rfl)) (pgs_cons (pg_name (i := 8) scCovOne.nd rfl (.inl rfl)) (pgs_cons (pg_name (i := 9) scCovOne.nd rfl (.inl rfl)) pgs_nil)))))
        (pss_one (ps_if (PW.pt (pw_and (pt_cmpR op_ge (pv 2) (pv 6) (nomark _)) (pw_and (pt_cmpR op_ge (pv 3) (pv 7) (nomark _)) (pw_and (pt_cmpR op_ge (pv 4) (pv 8) (nomark _)) (pw_and1 (pt_cmpR op_ge (pv 5) (pv 9) (nomark _))))))) (pss_one (ps_ret pe_bl)) pss_nil)))
      (pss_one (ps_ret pe_bl))), ?_⟩
    obtain ⟨sa, rfl, hT⟩ := way_of hx
    obtain ⟨l, vs, rfl, hL, hall⟩ := sts_of hy
    obtain ⟨a, b, c, d, rfl⟩ := four_of l4
    refine ⟨_, rfl, sa, _, rfl, hT, rfl, _, _, rfl, _, _, rfl, _, _, rfl, _, _, rfl, rfl, ?_⟩
    refine ⟨_, rfl, l, rfl, ⟨_, hL⟩, ?_⟩
    refine for_list (K := K) (a := l) (xs := vs) (fun j σ H1 => ∃ (y6 y7 y8 y9 : Option V), σ = [some (.ref sa), some (.ref l), some (.int a), some (.int b), some (.int c), some (.int d), y6, y7, y8, y9] ∧ H1 = H ∧ anyLe [a, b, c, d] (S.take j) = false)
      ⟨none, none, none, none, rfl, rfl, rfl⟩ ?_ ?_ ?_
    · rintro j σ H1 _ ⟨_, _, _, _, _, rfl, _⟩
      exact hL
    · rintro j v σ H1 hj ⟨y6, y7, y8, y9, rfl, rfl, no⟩
      obtain ⟨t, ht, dv⟩ := sts_get hall hj
      obtain ⟨ta, rfl, hTt⟩ := way_of dv
      obtain ⟨e, f, g, h, rfl⟩ := four_of (lS t (List.mem_of_getElem? ht))
      refine ⟨ta, _, rfl, hTt, rfl, _, _, rfl, _, _, rfl, _, _, rfl, _, _, rfl, rfl, ?_⟩
      have yes : a ≥ e → b ≥ f → c ≥ g → d ≥ h → Q (.bl true) H1 := fun h1 h2 h3 h4 => by
        have z : anyLe [a, b, c, d] S = true := anyLe_iff.mpr ⟨[e, f, g, h], List.mem_of_getElem? ht, le4_iff.mpr ⟨h1, h2, h3, h4⟩⟩
        rw [← z]
        exact q _ (Same.refl _)
      have next : ¬ (e ≤ a ∧ f ≤ b ∧ g ≤ c ∧ h ≤ d) → anyLe [a, b, c, d] (S.take (j + 1)) = false := fun nn => by
        rw [take_snoc ht]
        unfold anyLe at no ⊢
        rw [List.any_append, no, Bool.false_or, List.any_cons, List.any_nil, Bool.or_false]
        exact Bool.eq_false_iff.mpr fun z => nn (le4_iff.mp z)
      refine ⟨_, rfl, _, rfl, a, e, rfl, rfl, _, rfl, ite2 (fun c1 => ?_) fun c1 => ?_⟩
      · refine ⟨_, rfl, _, rfl, b, f, rfl, rfl, _, rfl, ite2 (fun c2 => ?_) fun c2 => ?_⟩
        · refine ⟨_, rfl, _, rfl, c, g, rfl, rfl, _, rfl, ite2 (fun c3 => ?_) fun c3 => ?_⟩
          · refine ⟨_, rfl, _, rfl, d, h, rfl, rfl, _, rfl, ite2 (fun c4 => ?_) fun c4 => ?_⟩
            · exact yes (of_decide_eq_true c1) (of_decide_eq_true c2) (of_decide_eq_true c3) (of_decide_eq_true c4)
            · exact ⟨_, _, _, _, rfl, rfl, next fun z => c4 (decide_eq_true z.2.2.2)⟩
          · exact ⟨_, _, _, _, rfl, rfl, next fun z => c3 (decide_eq_true z.2.2.1)⟩
        · exact ⟨_, _, _, _, rfl, rfl, next fun z => c2 (decide_eq_true z.2.1)⟩
      · exact ⟨_, _, _, _, rfl, rfl, next fun z => c1 (decide_eq_true z.1)⟩
    · rintro σ H1 ⟨y6, y7, y8, y9, rfl, rfl, no⟩
      rw [take_all (sts_len hall)] at no
      rw [← no]
      exact q _ (Same.refl _)
end

section
variable {P : Program} {w : World} {K : PySem.W.Frag} {mg : Str → Option Value} {base : Heap}
theorem scNeeded : FnScope ["way", "stores", "a", "b", "c", "d", "e", "f", "g", "h"] ["way", "stores"] (defScope sNeeded) := ⟨rfl, rfl, rfl, by decide +kernel, rfl, by decide +kernel, by decide +kernel⟩
theorem scJoined : FnScope ["store", "stores", "a", "b", "c", "d", "e", "f", "g", "h"] ["store", "stores"] (defScope sJoined) := ⟨rfl, rfl, rfl, by decide +kernel, rfl, by decide +kernel, by decide +kernel⟩
theorem ok_needed {f : Addr} {fd : FuncData} {k : Nat} (F : Fun K "needed" "needed" sNeeded f fd) (mx : mg "max" = none) : FnOk P w K mg base CX0 (k + 1) f fd ["way", "stores"] (spNeeded K need4) := by
  refine F.ok scNeeded (fun vs H Q E h => ?_) (fun cdv A outer s H vs Q E hr h => ?_)
  · obtain ⟨x, y, s, S, rfl, _⟩ := h
    rfl
  · obtain ⟨x, y, s, S, rfl, hx, hy, l4, lS, fw, q⟩ := h
    refine ⟨_, pss_cons (ps_asg (pv 0) (pg_tup (by rfl) (pgs_cons (pg_name (i := 2) scNeeded.nd rfl (.inr rfl)) (pgs_cons (pg_name (i := 3) scNeeded.nd rfl (.inr rfl)) (pgs_cons (pg_name (i := 4) scNeeded.nd rfl (.inr rfl)) (pgs_cons (pg_name (i := 5) scNeeded.nd rfl (.inr rfl)) pgs_nil))))))
      (pss_one (ps_ret (pe_lc (own := [("e", 6), ("f", 7), ("g", 8), ("h", 9)]) (g := gTup K 4 (gCons (gName 6) (gCons (gName 7) (gCons (gName 8) (gCons (gName 9) gNil))))) (tt := tYes) rfl scNeeded.nd (pi_list (pv 1))
        (blkOk_by (N := ["way", "stores", "a", "b", "c", "d", "e", "f", "g", "h"]) (sc := defScope sNeeded) (by decide +kernel))
        (fun _ _ _ _ _ => by refine pg_tup rfl (pgs_cons ?_ (pgs_cons ?_ (pgs_cons ?_ (pgs_cons ?_ pgs_nil)))); exact pg_name (i := 6) scNeeded.nd rfl (.inl rfl); exact pg_name (i := 7) scNeeded.nd rfl (.inl rfl); exact pg_name (i := 8) scNeeded.nd rfl (.inl rfl); exact pg_name (i := 9) scNeeded.nd rfl (.inl rfl))
        (fun _ _ _ _ _ => pts_nil)
        (fun _ _ _ _ _ => by exact pe_tup (pa_cons (pe_callB (call_max2 rfl) (by rfl) mx (by decide +kernel) (pa_cons pe_int (pa_cons (pe_op op_sub (pv 6) (pv 2)) pa_nil)))
          (pa_cons (pe_callB (call_max2 rfl) (by rfl) mx (by decide +kernel) (pa_cons pe_int (pa_cons (pe_op op_sub (pv 7) (pv 3)) pa_nil)))
          (pa_cons (pe_callB (call_max2 rfl) (by rfl) mx (by decide +kernel) (pa_cons pe_int (pa_cons (pe_op op_sub (pv 8) (pv 4)) pa_nil)))
          (pa_cons (pe_callB (call_max2 rfl) (by rfl) mx (by decide +kernel) (pa_cons pe_int (pa_cons (pe_op op_sub (pv 9) (pv 5)) pa_nil))) pa_nil)))))))), ?_⟩
    obtain ⟨sa, rfl, hT⟩ := way_of hx
    obtain ⟨l, vs, rfl, hL, hall⟩ := sts_of hy
    obtain ⟨a, b, c, d, rfl⟩ := four_of l4
    have lv := sts_len hall
    refine ⟨_, rfl, sa, _, rfl, hT, rfl, _, _, rfl, _, _, rfl, _, _, rfl, _, _, rfl, rfl, ?_⟩
    refine ⟨_, rfl, l, rfl, ⟨_, hL⟩, fun D nD => ?_⟩
    have sD := same_upd (o := .lst []) nD
    refine lc_list (K := K) (a := l) (xs := vs) (fun j H1 => Same H H1 ∧ ∃ ps, H1 D = some (.lst ps) ∧ DpAll K H1 ps (((S.take j).map (need4 [a, b, c, d])).map wayD)) ⟨sD, [], upd_same, .nil⟩ (fun j H1 _ ⟨s1, _⟩ => s1.seq hL) ?_ ?_
    · rintro j v H1 hj ⟨s1, ps, hD, dps⟩
      obtain ⟨t, ht, dv⟩ := sts_get hall hj
      obtain ⟨ta, rfl, hTt⟩ := way_of dv
      obtain ⟨e, f, g, h, rfl⟩ := four_of (lS t (List.mem_of_getElem? ht))
      have lp := dpAll_len dps
      simp only [List.length_map, List.length_take] at lp
      have e0 : wipe [some (V.ref sa), some (V.ref l), some (V.int a), some (V.int b), some (V.int c), some (V.int d), none, none, none, none] [6, 7, 8, 9] = [some (V.ref sa), some (V.ref l), some (V.int a), some (V.int b), some (V.int c), some (V.int d), none, none, none, none] := rfl
      show gTup K 4 (gCons (gName 6) (gCons (gName 7) (gCons (gName 8) (gCons (gName 9) gNil)))) (.ref ta) (wipe [some (V.ref sa), some (V.ref l), some (V.int a), some (V.int b), some (V.int c), some (V.int d), none, none, none, none] [6, 7, 8, 9]) H1 _
      rw [e0]
      refine ⟨ta, _, rfl, s1.seqT hTt, rfl, V.int e, _, rfl, V.int f, _, rfl, V.int g, _, rfl, V.int h, _, rfl, rfl, ?_⟩
      simp only [List.set_cons_succ, List.set_cons_zero]
      refine ⟨rfl, ?_⟩
      refine ⟨_, rfl, _, rfl, e, a, rfl, rfl, 0, _, rfl, ?_⟩
      refine ⟨_, rfl, _, rfl, f, b, rfl, rfl, 0, _, rfl, ?_⟩
      refine ⟨_, rfl, _, rfl, g, c, rfl, rfl, 0, _, rfl, ?_⟩
      refine ⟨_, rfl, _, rfl, h, d, rfl, rfl, 0, _, rfl, ?_⟩
      refine ⟨by show 4 ≤ sizeLine; decide, fun T nT => ?_⟩
      have sT := same_upd (o := .tup [V.int (if e - a > 0 then e - a else 0), V.int (if f - b > 0 then f - b else 0), V.int (if g - c > 0 then g - c else 0), V.int (if h - d > 0 then h - d else 0)]) nT
      have nDT : D ≠ T := ne_of_none hD nT
      have hT2 : SqT K (upd H1 T (.tup [V.int (if e - a > 0 then e - a else 0), V.int (if f - b > 0 then f - b else 0), V.int (if g - c > 0 then g - c else 0), V.int (if h - d > 0 then h - d else 0)])) T ((need4 [a, b, c, d] [e, f, g, h]).map V.int) := by
        have e1 : need4 [a, b, c, d] [e, f, g, h] = [if e - a > 0 then e - a else 0, if f - b > 0 then f - b else 0, if g - c > 0 then g - c else 0, if h - d > 0 then h - d else 0] := by
          show [max 0 (e - a), max 0 (f - b), max 0 (g - c), max 0 (h - d)] = _
          rw [maxI, maxI, maxI, maxI]
        rw [e1]
        exact SqT.of upd_same
      refine ⟨ps, sT _ _ hD, small_line (by omega), fun b2 o e2 => ?_, ps ++ [.ref T], upd_same, ?_⟩
      · rw [upd_ne (ne_of_none e2 nD)]
        exact sT _ _ (s1 _ _ e2)
      · rw [take_snoc ht, List.map_append, List.map_append]
        exact dpAll_put (sT _ _ hD) (dpAll_app (dpAll_same sT dps) (.cons (of_way hT2) .nil)) (noL_app _ _)
    · rintro H1 ⟨s1, ps, hD, dps⟩
      rw [take_all lv] at dps
      exact q D H1 ps s1 nD hD dps
def tGt (i j : Nat) : TE := tIf (tTest (tOp (rI0 fun i j => .bl (decide (j < i))) (tVar i) (tVar j))) (tVar i) (tVar j)
theorem if_vars {σ : L2.St} {H : Hp} {Q : VK} {i j : Nat} {a e : Int} (h1 : σ[i]? = some (some (.int a))) (h2 : σ[j]? = some (some (.int e))) (q : Q (.int (max a e)) H) :
    tGt i j σ H Q := by
  refine ⟨_, h1, _, h2, a, e, rfl, rfl, _, rfl, ite2 (fun c => ?_) fun c => ?_⟩
  · have := of_decide_eq_true c
    rw [show max a e = a by omega] at q
    exact ⟨_, h1, q⟩
  · have : ¬ e < a := fun z => c (decide_eq_true z)
    rw [show max a e = e by omega] at q
    exact ⟨_, h2, q⟩
theorem ok_joined {f : Addr} {fd : FuncData} {k : Nat} (F : Fun K "joined" "joined" sJoined f fd) : FnOk P w K mg base CX0 (k + 1) f fd ["store", "stores"] (spNeeded K join4) := by
  refine F.ok scJoined (fun vs H Q E h => ?_) (fun cdv A outer s H vs Q E hr h => ?_)
  · obtain ⟨x, y, s, S, rfl, _⟩ := h
    rfl
  · obtain ⟨x, y, s, S, rfl, hx, hy, l4, lS, fw, q⟩ := h
    refine ⟨_, pss_cons (ps_asg (pv 0) (pg_tup (by rfl) (pgs_cons (pg_name (i := 2) scJoined.nd rfl (.inr rfl)) (pgs_cons (pg_name (i := 3) scJoined.nd rfl (.inr rfl)) (pgs_cons (pg_name (i := 4) scJoined.nd rfl (.inr rfl)) (pgs_cons (pg_name (i := 5) scJoined.nd rfl (.inr rfl)) pgs_nil))))))
      (pss_one (ps_ret (pe_lc (own := [("e", 6), ("f", 7), ("g", 8), ("h", 9)]) (g := gTup K 4 (gCons (gName 6) (gCons (gName 7) (gCons (gName 8) (gCons (gName 9) gNil))))) (tt := tYes) (te := tTup (tCons (tGt 2 6) (tCons (tGt 3 7) (tCons (tGt 4 8) (tCons (tGt 5 9) tNil))))) rfl scJoined.nd (pi_list (pv 1))
        (blkOk_by (N := ["store", "stores", "a", "b", "c", "d", "e", "f", "g", "h"]) (sc := defScope sJoined) (by decide +kernel))
        (fun _ _ _ _ _ => by refine pg_tup rfl (pgs_cons ?_ (pgs_cons ?_ (pgs_cons ?_ (pgs_cons ?_ pgs_nil)))); exact pg_name (i := 6) scJoined.nd rfl (.inl rfl); exact pg_name (i := 7) scJoined.nd rfl (.inl rfl); exact pg_name (i := 8) scJoined.nd rfl (.inl rfl); exact pg_name (i := 9) scJoined.nd rfl (.inl rfl))
        (fun _ _ _ _ _ => pts_nil)
        (fun _ _ _ _ _ => by refine pe_tup (pa_cons ?_ (pa_cons ?_ (pa_cons ?_ (pa_cons ?_ pa_nil)))); exact (pe_ifExp (pt_cmpR op_gt (pv 2) (pv 6) (nomark _)) (pv 2) (pv 6)); exact (pe_ifExp (pt_cmpR op_gt (pv 3) (pv 7) (nomark _)) (pv 3) (pv 7)); exact (pe_ifExp (pt_cmpR op_gt (pv 4) (pv 8) (nomark _)) (pv 4) (pv 8)); exact (pe_ifExp (pt_cmpR op_gt (pv 5) (pv 9) (nomark _)) (pv 5) (pv 9)))))), ?_⟩
    obtain ⟨sa, rfl, hT⟩ := way_of hx
    obtain ⟨l, vs, rfl, hL, hall⟩ := sts_of hy
    obtain ⟨a, b, c, d, rfl⟩ := four_of l4
    have lv := sts_len hall
    refine ⟨_, rfl, sa, _, rfl, hT, rfl, _, _, rfl, _, _, rfl, _, _, rfl, _, _, rfl, rfl, ?_⟩
    refine ⟨_, rfl, l, rfl, ⟨_, hL⟩, fun D nD => ?_⟩
    have sD := same_upd (o := .lst []) nD
    refine lc_list (K := K) (a := l) (xs := vs) (fun j H1 => Same H H1 ∧ ∃ ps, H1 D = some (.lst ps) ∧ DpAll K H1 ps (((S.take j).map (join4 [a, b, c, d])).map wayD)) ⟨sD, [], upd_same, .nil⟩ (fun j H1 _ ⟨s1, _⟩ => s1.seq hL) ?_ ?_
    · rintro j v H1 hj ⟨s1, ps, hD, dps⟩
      obtain ⟨t, ht, dv⟩ := sts_get hall hj
      obtain ⟨ta, rfl, hTt⟩ := way_of dv
      obtain ⟨e, f, g, h, rfl⟩ := four_of (lS t (List.mem_of_getElem? ht))
      have lp := dpAll_len dps
      simp only [List.length_map, List.length_take] at lp
      have e0 : wipe [some (V.ref sa), some (V.ref l), some (V.int a), some (V.int b), some (V.int c), some (V.int d), none, none, none, none] [6, 7, 8, 9] = [some (V.ref sa), some (V.ref l), some (V.int a), some (V.int b), some (V.int c), some (V.int d), none, none, none, none] := rfl
      show gTup K 4 (gCons (gName 6) (gCons (gName 7) (gCons (gName 8) (gCons (gName 9) gNil)))) (.ref ta) (wipe [some (V.ref sa), some (V.ref l), some (V.int a), some (V.int b), some (V.int c), some (V.int d), none, none, none, none] [6, 7, 8, 9]) H1 _
      rw [e0]
      refine ⟨ta, _, rfl, s1.seqT hTt, rfl, V.int e, _, rfl, V.int f, _, rfl, V.int g, _, rfl, V.int h, _, rfl, rfl, ?_⟩
      simp only [List.set_cons_succ, List.set_cons_zero]
      refine ⟨rfl, ?_⟩
      refine if_vars rfl rfl (if_vars rfl rfl (if_vars rfl rfl (if_vars rfl rfl ?_)))
      refine ⟨by show 4 ≤ sizeLine; decide, fun T nT => ?_⟩
      have sT := same_upd (o := .tup [V.int (max a e), V.int (max b f), V.int (max c g), V.int (max d h)]) nT
      have nDT : D ≠ T := ne_of_none hD nT
      have hT2 : SqT K (upd H1 T (.tup [V.int (max a e), V.int (max b f), V.int (max c g), V.int (max d h)])) T ((join4 [a, b, c, d] [e, f, g, h]).map V.int) := by
        show SqT K _ T ([max a e, max b f, max c g, max d h].map V.int)
        exact SqT.of upd_same
      refine ⟨ps, sT _ _ hD, small_line (by omega), fun b2 o e2 => ?_, ps ++ [.ref T], upd_same, ?_⟩
      · rw [upd_ne (ne_of_none e2 nD)]
        exact sT _ _ (s1 _ _ e2)
      · rw [take_snoc ht, List.map_append, List.map_append]
        exact dpAll_put (sT _ _ hD) (dpAll_app (dpAll_same sT dps) (.cons (of_way hT2) .nil)) (noL_app _ _)
    · rintro H1 ⟨s1, ps, hD, dps⟩
      rw [take_all lv] at dps
      exact q D H1 ps s1 nD hD dps
end

section
variable {P : Program} {w : World} {K : PySem.W.Frag} {mg : Str → Option Value} {base : Heap}
theorem scLeastOf : FnScope ["stores", "found", "store"] ["stores"] (defScope sLeastOf) := ⟨rfl, rfl, rfl, by decide +kernel, rfl, by decide +kernel, by decide +kernel⟩
theorem ok_leastOf {f fC : Addr} {fd fdC : FuncData} {k : Nat} (F : Fun K "least_of" "least_of" sLeastOf f fd) (GC : FnOk P w K mg base CX0 (k + 1) fC fdC ["store", "stores"] (spCovOne K)) (kC : PySem.W.keepIn K (.ref fC) = true) (bC : Binds K fdC ["store", "stores"] []) (gC : mg "covers_one" = some (.ref fC))
    (ms : mg "sorted" = none) (mset : mg "set" = none) : FnOk P w K mg base CX0 (k + 2) f fd ["stores"] (spLeastOf K) := by
  refine F.ok scLeastOf (fun vs H Q E h => ?_) (fun cdv A outer s H vs Q E hr h => ?_)
  · obtain ⟨x, S, rfl, _⟩ := h
    rfl
  · obtain ⟨x, S, rfl, hx, okS, fw, q⟩ := h
    refine ⟨_, pss_cons (ps_set (i := 1) scLeastOf.nd rfl (.inl rfl) (pe_lst pa_nil))
      (pss_cons (ps_for PassesOwn.never rfl (pi_list (pe_callB (cr_sortedG rfl) (by rfl) ms (by decide +kernel) (pa_cons (pe_callTy (cr_setG rfl hr.units) (by rfl) mset (by decide +kernel) (pa_cons (pv 0) pa_nil)) pa_nil))) (pg_name (i := 2) scLeastOf.nd rfl (.inl rfl))
        (pss_one (ps_if (pt_not (pt_val (pe_call GC hr (by rfl) gC kC bC .nil pass0 (pa_cons (pv 2) (pa_cons (pv 1) pa_nil)))))
          (pss_one (ps_expr (pe_bm PySem.F.plainAttrs_list PySem.F.slot_list_append PySem.F.type_list_append mt_append (pv 1) (pa_cons (pv 2) pa_nil)))) pss_nil)))
      (pss_one (ps_ret (pv 1)))), ?_⟩
    obtain ⟨l, vs, rfl, hL, hall⟩ := sts_of hx
    obtain ⟨ks, rfl, rfl, hks⟩ := sts_refs hall
    refine ⟨by show 0 ≤ sizeLine; decide, fun F0 nF => ?_⟩
    have sF := same_upd (o := .lst []) nF
    rw [List.length_map] at fw
    refine ⟨_, rfl, l, ks, ks.map (·.2), rfl, sF.seq hL, fun p hp => sF.seqT (hks p hp), by rw [List.length_map]; exact fw, fun p hp => List.mem_map.mpr ⟨p, hp, rfl⟩, fun a L na sub all few => ?_⟩
    have sA := same_upd (o := SetGO P w a L) na
    have sFA := sF.trans sA
    have l4 : ∀ p ∈ L, p.2.length = 4 := fun p hp => ok4_len (okS _ (List.mem_map.mpr ⟨p, sub p hp, rfl⟩))
    refine ⟨a, L, 4, rfl, upd_same, fun p hp => sFA.seqT (hks p (sub p hp)), few, by decide, l4, fun M p pm nd pw np => ?_⟩
    have sP := same_upd (o := .lst (M.map fun q => V.ref q.1)) np
    have s3 := sFA.trans sP
    have hF3 := sP _ _ (sA _ _ (upd_same (H := H) (a := F0) (o := .lst [])))
    obtain ⟨Hs, eHs⟩ : ∃ Hs, Hs = upd (upd (upd H F0 (.lst [])) a (SetGO P w a L)) p (.lst (M.map fun q => V.ref q.1)) := ⟨_, rfl⟩
    have hp3 : Hs p = some (.lst (M.map fun q => V.ref q.1)) := by rw [eHs]; exact upd_same
    have kp0 : Kp F0 Hs (upd (upd (upd H F0 (.lst [])) a (SetGO P w a L)) p (.lst (M.map fun q => V.ref q.1))) := by rw [eHs]; exact Kp.refl _ _
    have hF0 : (upd (upd (upd H F0 (.lst [])) a (SetGO P w a L)) p (.lst (M.map fun q => V.ref q.1))) F0 = some (.lst []) := hF3
    have s3 : Same H Hs := by rw [eHs]; exact s3
    have hF3 : Hs F0 = some (.lst []) := by rw [eHs]; exact hF3
    have nFp : p ≠ F0 := fun e => by
      subst e
      have z := (sA _ _ (upd_same (H := H) (a := p) (o := .lst []))).symm.trans np
      cases z
    have hM : ∀ q ∈ M, SqT K Hs q.1 (q.2.map V.int) := fun q hq => s3.seqT (hks q (sub q (pm.mem_iff.mp hq)))
    have memM : ∀ t, t ∈ M.map (·.2) ↔ t ∈ ks.map (·.2) := fun t => ⟨fun h => by
      obtain ⟨q, hq, rfl⟩ := List.mem_map.mp h
      exact List.mem_map.mpr ⟨q, sub q (pm.mem_iff.mp hq), rfl⟩, fun h => by
      obtain ⟨q, hq, rfl⟩ := List.mem_map.mp h
      exact ((pm.map (·.2)).mem_iff).mpr (all q hq)⟩
    have okM : ∀ t ∈ M.map (·.2), Ok4 t := fun t ht => okS t ((memM t).mp ht)
    have srt : (M.map (·.2)).Pairwise fun x y => HT.lexLt x y = true := by
      have nd' := List.pairwise_map.mp nd
      refine List.pairwise_map.mpr (List.Pairwise.imp_of_mem (fun {x y} hx hy z => ?_) (pw.and nd'))
      rcases lex4_tot ((ok4_len (okM _ (List.mem_map.mpr ⟨x, hx, rfl⟩))).trans (ok4_len (okM _ (List.mem_map.mpr ⟨y, hy, rfl⟩))).symm) z.1 with e | e
      · exact absurd e z.2
      · exact e
    have lenM : (M.map (·.2)).length ≤ (ks.map (·.2)).length := len_among _ _ nd fun t ht => (memM t).mp ht
    have okT : ∀ j, ∀ t ∈ sieve [] ((M.map (·.2)).take j), Ok4 t := fun j t ht => by
      have c := sieve_canon (T := (M.map (·.2)).take j) (fun x hx => okM x (List.mem_of_mem_take hx)) (srt.sublist (List.take_sublist j _))
      exact c.ok t ht
    refine ⟨p, rfl, ⟨_, SqL.of upd_same⟩, ?_⟩
    refine for_list (K := K) (a := p) (xs := M.map fun q => V.ref q.1) (fun j σ H1 => ∃ (y2 : Option V) (ps : List V), σ = [some (.ref l), some (.ref F0), y2] ∧ Kp F0 Hs H1 ∧ H1 F0 = some (.lst ps) ∧ DpAll K H1 ps ((sieve [] ((M.map (·.2)).take j)).map wayD))
      ⟨none, [], rfl, kp0, hF0, .nil⟩ ?_ ?_ ?_
    · rintro j σ H1 _ ⟨_, _, _, kp, _⟩
      exact SqL.of (kp _ _ hp3 nFp)
    · rintro j v σ H1 hj ⟨y2, ps, rfl, kp, hF, dps⟩
      rw [List.getElem?_map] at hj
      obtain ⟨mq, hmq, rfl⟩ := Option.map_eq_some_iff.mp hj
      have hT : SqT K H1 mq.1 (mq.2.map V.int) := kp.seqT hF3 (hM mq (List.mem_of_getElem? hmq))
      have ht : (M.map (·.2))[j]? = some mq.2 := by rw [List.getElem?_map, hmq]; rfl
      have ok := okM mq.2 (List.mem_of_getElem? ht)
      refine ⟨_, rfl, _, rfl, .ref mq.1, .ref F0, mq.2, sieve [] ((M.map (·.2)).take j), rfl, of_way hT, .lst (SqL.of hF) dps, ok4_len ok, fun t h => ok4_len (okT j t h), fun H2 s2 => ?_⟩
      refine ⟨_, rfl, ?_⟩
      have hF2 := s2 _ _ hF
      have kp2 := kp.same s2
      rw [take_snoc ht, sieve_snoc]
      cases c : anyLe mq.2 (sieve [] ((M.map (·.2)).take j)) with
      | true =>
        refine ifF rfl ?_
        rw [if_pos rfl]
        exact ⟨_, ps, rfl, kp2, hF2, dpAll_same s2 dps⟩
      | false =>
        refine ifT rfl ?_
        rw [if_neg (by decide)]
        refine ⟨_, rfl, .inl ⟨rfl, _, SqL.of hF2⟩, _, rfl, F0, _, _, rfl, rfl, hF2, small_line ?_, ?_⟩
        · have lp := sts_len dps
          have := sieve_len ((M.map (·.2)).take j) []
          simp only [List.length_map, List.length_take, List.length_nil] at this lenM
          omega
        · refine ⟨_, ps ++ [.ref mq.1], rfl, kp2.trans (kp_upd F0 H2 _), upd_same, ?_⟩
          rw [List.map_append]
          exact dpAll_put hF2 (dpAll_app (dpAll_same s2 dps) (.cons (of_way (s2.seqT hT)) .nil)) (noL_app _ [mq.2])
    · rintro σ H1 ⟨y2, ps, rfl, kp, hF, dps⟩
      rw [take_all (by rw [List.length_map, List.length_map])] at dps
      have can := sieve_canon okM srt
      refine ⟨_, rfl, q F0 H1 ps _ (fun b o e => kp b o (s3 b o e) (ne_of_none e nF)) nF hF dps (can.congr fun x _ => ⟨fun ⟨y, hy, e⟩ => ⟨y, (memM y).mp hy, e⟩, fun ⟨y, hy, e⟩ => ⟨y, (memM y).mpr hy, e⟩⟩) ?_⟩
      have := sieve_len (M.map (·.2)) []
      simp only [List.length_nil] at this
      omega
end

theorem upS_app {A B : List (List Int)} {z : List Int} : UpS (A ++ B) z ↔ UpS A z ∨ UpS B z := by
  constructor
  · rintro ⟨y, hy, l⟩
    rcases List.mem_append.mp hy with hy | hy
    · exact .inl ⟨y, hy, l⟩
    · exact .inr ⟨y, hy, l⟩
  · rintro (⟨y, hy, l⟩ | ⟨y, hy, l⟩)
    · exact ⟨y, List.mem_append_left _ hy, l⟩
    · exact ⟨y, List.mem_append_right _ hy, l⟩
section
variable {P : Program} {w : World} {K : PySem.W.Frag} {mg : Str → Option Value} {base : Heap}
theorem scBoth : FnScope ["stores", "others", "found", "store"] ["stores", "others"] (defScope sBoth) := ⟨rfl, rfl, rfl, by decide +kernel, rfl, by decide +kernel, by decide +kernel⟩
theorem ok_both {f fC fJ fL : Addr} {fd fdC fdJ fdL : FuncData} {k : Nat} (F : Fun K "least_in_both" "least_in_both" sBoth f fd)
    (GC : FnOk P w K mg base CX0 (k + 2) fC fdC ["store", "stores"] (spCovOne K)) (kC : PySem.W.keepIn K (.ref fC) = true) (bC : Binds K fdC ["store", "stores"] []) (gC : mg "covers_one" = some (.ref fC))
    (GJ : FnOk P w K mg base CX0 (k + 2) fJ fdJ ["store", "stores"] (spNeeded K join4)) (kJ : PySem.W.keepIn K (.ref fJ) = true) (bJ : Binds K fdJ ["store", "stores"] []) (gJ : mg "joined" = some (.ref fJ))
    (GL : FnOk P w K mg base CX0 (k + 2) fL fdL ["stores"] (spLeastOf K)) (kL : PySem.W.keepIn K (.ref fL) = true) (bL : Binds K fdL ["stores"] []) (gL : mg "least_of" = some (.ref fL)) :
    FnOk P w K mg base CX0 (k + 3) f fd ["stores", "others"] (spBoth K) := by
  refine F.ok scBoth (fun vs H Q E h => ?_) (fun cdv A' outer s H vs Q E hr h => ?_)
  · obtain ⟨x, y, A, B, rfl, _⟩ := h
    rfl
  · obtain ⟨x, y, A, B, rfl, hx, hy, okA, okB, fw, q⟩ := h
    refine ⟨_, pss_cons (ps_set (i := 2) scBoth.nd rfl (.inl rfl) (pe_lst pa_nil))
      (pss_cons (ps_for PassesOwn.never rfl (pi_list (pv 0)) (pg_name (i := 3) scBoth.nd rfl (.inl rfl))
        (pss_one (ps_if (pt_val (pe_call GC hr (by rfl) gC kC bC .nil pass0 (pa_cons (pv 3) (pa_cons (pv 1) pa_nil))))
          (pss_one (ps_expr (pe_bm PySem.F.plainAttrs_list PySem.F.slot_list_append PySem.F.type_list_append mt_append (pv 2) (pa_cons (pv 3) pa_nil))))
          (pss_one (ps_expr (pe_bm PySem.F.plainAttrs_list PySem.F.slot_list_extend PySem.F.type_list_extend mt_extend (pv 2) (pa_cons (pe_call GL hr (by rfl) gL kL bL .nil pass0 (pa_cons (pe_call GJ hr (by rfl) gJ kJ bJ .nil pass0 (pa_cons (pv 3) (pa_cons (pv 1) pa_nil))) pa_nil)) pa_nil)))))))
      (pss_one (ps_ret (pe_call GL hr (by rfl) gL kL bL .nil pass0 (pa_cons (pv 2) pa_nil))))), ?_⟩
    obtain ⟨l, vs, rfl, hL, hall⟩ := sts_of hx
    obtain ⟨m, us, rfl, hM, mall⟩ := sts_of hy
    have lv := sts_len hall
    have bl := bothL_len (A := A) (B := B)
    refine ⟨by show 0 ≤ sizeLine; decide, fun F0 nF => ?_⟩
    have sF := same_upd (o := .lst []) nF
    refine ⟨_, rfl, l, rfl, ⟨_, sF.seq hL⟩, ?_⟩
    refine for_list (K := K) (a := l) (xs := vs) (fun j σ H1 => ∃ (y3 : Option V) (ps : List V), σ = [some (.ref l), some (.ref m), some (.ref F0), y3] ∧ Same H H1 ∧ H1 F0 = some (.lst ps) ∧ ∃ W : List (List Int), DpAll K H1 ps (W.map wayD) ∧ (∀ z ∈ W, Ok4 z) ∧ W.length ≤ (A.take j).length * (B.length + 1) ∧ ∀ z, Ok4 z → (UpS W z ↔ UpS (bothL (A.take j) B) z))
      ⟨none, [], rfl, sF, upd_same, [], .nil, fun _ h => (nomatch h), Nat.zero_le _, fun _ _ => Iff.rfl⟩ ?_ ?_ ?_
    · rintro j σ H1 _ ⟨_, _, _, s1, _⟩
      exact s1.seq hL
    · rintro j v σ H1 hj ⟨y3, ps, rfl, s1, hF, W, dps, okW, lenW, upW⟩
      obtain ⟨t, ht, dv⟩ := sts_get hall hj
      have mt := List.mem_of_getElem? ht
      have hyj : Dp K H1 (.ref m) (stsD B) := .lst (s1.seq hM) (dpAll_same s1 mall)
      have lp := sts_len dps
      have jl : (A.take j).length + 1 ≤ A.length := by
        rw [List.length_take]
        have := (List.getElem?_eq_some_iff.mp ht).1
        omega
      have mul : ((A.take j).length + 1) * (B.length + 1) ≤ A.length * (B.length + 1) := Nat.mul_le_mul_right _ jl
      rw [Nat.succ_mul] at mul
      refine ⟨_, rfl, _, rfl, v, .ref m, t, B, rfl, dp_same s1 dv, hyj, ok4_len (okA t mt), fun b hb => ok4_len (okB b hb), fun H2 s2 => ?_⟩
      refine ⟨_, rfl, ?_⟩
      have hF2 := s2 _ _ hF
      have s12 := s1.trans s2
      have out : ∀ (b : Addr) (o : HO) (H3 : Hp), Same H2 H3 → H b = some o → upd H3 F0 (.lst ([] : List V)) b = some o ∨ True := fun _ _ _ _ _ => .inr True.intro
      have lj1 : (A.take (j + 1)).length = (A.take j).length + 1 := by rw [take_snoc ht, List.length_append]; rfl
      have mul2 : (A.take (j + 1)).length * (B.length + 1) = (A.take j).length * (B.length + 1) + (B.length + 1) := by rw [lj1, Nat.succ_mul]
      have up2 : ∀ (V : List (List Int)), (∀ z, Ok4 z → (UpS V z ↔ UpS (if anyLe t B then [t] else B.map (join4 t)) z)) → ∀ z, Ok4 z → (UpS (W ++ V) z ↔ UpS (bothL (A.take (j + 1)) B) z) := fun V hV z oz => by
        rw [take_snoc ht, bothL_snoc, upS_app, upS_app, upW z oz, hV z oz]
      cases c : anyLe t B with
      | true =>
        refine ifT rfl ?_
        refine ⟨_, rfl, .inl ⟨rfl, _, SqL.of hF2⟩, _, rfl, F0, _, _, rfl, rfl, hF2, small_line (by omega), ?_⟩
        refine ⟨_, ps ++ [v], rfl, fun b o e => ?_, upd_same, W ++ [t], ?_, mem_app1 okW (okA t mt), by rw [List.length_append, List.length_singleton]; omega, up2 _ fun z _ => by rw [c, if_pos rfl]⟩
        · rw [upd_ne (ne_of_none e nF)]
          exact s12 _ _ e
        · rw [List.map_append]
          exact dpAll_put hF2 (dpAll_app (dpAll_same s2 dps) (.cons (dp_same s12 dv) .nil)) (noL_app _ [t])
      | false =>
        refine ifF rfl ?_
        refine ⟨_, rfl, .inl ⟨rfl, _, SqL.of hF2⟩, ?_⟩
        refine ⟨_, rfl, _, rfl, v, .ref m, t, B, rfl, dp_same s12 dv, dp_same s2 hyj, ok4_len (okA t mt), fun b hb => ok4_len (okB b hb), ?_, fun qj H3 qs s3 nq hq dqs => ?_⟩
        · have : B.length + 1 ≤ A.length * (B.length + 1) := Nat.le_trans (by omega) (Nat.mul_le_mul_right (B.length + 1) (show 1 ≤ A.length by omega))
          omega
        · have hF3 := s3 _ _ hF2
          have okJ : ∀ z ∈ B.map (join4 t), Ok4 z := fun z hz => by
            obtain ⟨b, hb, rfl⟩ := List.mem_map.mp hz
            exact join4_ok (okA t mt) (okB b hb)
          refine ⟨.ref qj, B.map (join4 t), rfl, .lst (SqL.of hq) dqs, okJ, ?_, fun qq H4 qs2 M s4 nqq hqq dq2 can lM => ?_⟩
          · rw [List.length_map]
            have : B.length + 1 ≤ A.length * (B.length + 1) := Nat.le_trans (by omega) (Nat.mul_le_mul_right (B.length + 1) (show 1 ≤ A.length by omega))
            omega
          have hF4 := s4 _ _ hF3
          have lq := sts_len dq2
          rw [List.length_map] at lM
          refine ⟨F0, qq, _, _, rfl, rfl, hF4, hqq, by rw [sizeLine_eq]; omega, ?_⟩
          refine ⟨_, ps ++ qs2, rfl, fun b o e => ?_, upd_same, W ++ M, ?_, fun z hz => ?_, by rw [List.length_append]; omega, up2 _ fun z oz => ?_⟩
          · rw [upd_ne (ne_of_none e nF)]
            exact s4 _ _ (s3 _ _ (s12 _ _ e))
          · rw [List.map_append]
            exact dpAll_put hF4 (dpAll_app (dpAll_same s4 (dpAll_same s3 (dpAll_same s2 dps))) dq2) (noL_app _ _)
          · rcases List.mem_append.mp hz with hz | hz
            · exact okW z hz
            · exact can.ok z hz
          · rw [c, if_neg (by decide)]
            exact can.up z oz
    · rintro σ H1 ⟨y3, ps, rfl, s1, hF, W, dps, okW, lenW, upW⟩
      have ll : A.take vs.length = A := by rw [lv, List.take_length]
      rw [ll] at lenW upW
      refine ⟨_, rfl, .ref F0, W, rfl, .lst (SqL.of hF) dps, okW, by omega, fun qq H2 qs M s2 nq hq dq can _ => ?_⟩
      exact q qq H2 qs M (s1.trans s2) (s1.free nq) hq dq (can.congr fun x hx => (upW x hx).trans (bothL_up okA okB hx))
end
def sInAll : Stmt := topS 10
/-- some lists of least ones, each the least of its label -/
def spInAll (K : PySem.W.Frag) : Sp := fun vs H Q _ => ∃ (β : Type) (x : V) (D : Addr) (B : List (List Int)) (U : List Int → Prop) (N : β → List Int → Prop) (T : List (Addr × List (List Int) × β)) (m : Nat),
  vs = [x, .ref D] ∧ Dp K H x (stsD B) ∧ SqL K H D (T.map fun t => V.ref t.1) ∧ T.length ≤ 1000 ∧
  (∀ t ∈ T, Canon t.2.1 (N t.2.2) ∧ (∃ ys, H t.1 = some (.lst ys)) ∧ Dp K H (.ref t.1) (stsD t.2.1) ∧ t.2.1.length ≤ m) ∧ Canon B U ∧ m * (m + 1) < 4096 ∧
  (∀ as : List β, (∀ a ∈ as, a ∈ T.map fun t => t.2.2) → ∀ M, Canon M (fun x => U x ∧ ∀ a ∈ as, N a x) → M.length ≤ m) ∧
  ∀ v H' M, Same H H' → (v = x ∧ M = B ∨ ∃ q, v = .ref q ∧ H q = none) → Dp K H' v (stsD M) → Canon M (fun x => U x ∧ ∀ a ∈ T.map (fun t => t.2.2), N a x) → Q v H'
section
variable {P : Program} {w : World} {K : PySem.W.Frag} {mg : Str → Option Value} {base : Heap}
theorem scInAll : FnScope ["before", "needs", "found", "need"] ["before", "needs"] (defScope sInAll) := ⟨rfl, rfl, rfl, by decide +kernel, rfl, by decide +kernel, by decide +kernel⟩
theorem ok_inAll {f fB : Addr} {fd fdB : FuncData} {k : Nat} (F : Fun K "least_in_all" "least_in_all" sInAll f fd)
    (GB : FnOk P w K mg base CX0 (k + 3) fB fdB ["stores", "others"] (spBoth K)) (kB : PySem.W.keepIn K (.ref fB) = true) (bB : Binds K fdB ["stores", "others"] []) (gB : mg "least_in_both" = some (.ref fB))
    (ms : mg "sorted" = none) (ml : mg "len" = none) : FnOk P w K mg base CX0 (k + 4) f fd ["before", "needs"] (spInAll K) := by
  refine F.ok scInAll (fun vs H Q E h => ?_) (fun cdv A outer s H vs Q E hr h => ?_)
  · obtain ⟨β, x, D, B, U, N, T, m, rfl, _⟩ := h
    rfl
  · obtain ⟨β, x, D, B, U, N, T, m, rfl, hx, hD, lT, hT, canB, msq, few, q⟩ := h
    refine ⟨_, pss_cons (ps_set (i := 2) scInAll.nd rfl (.inl rfl) (pv 0))
      (pss_cons (ps_for PassesOwn.never rfl (pi_list (pe_sortLen (by rfl) ms (by rfl) ml (pv 1))) (pg_name (i := 3) scInAll.nd rfl (.inl rfl))
        (pss_one (ps_set (i := 2) scInAll.nd rfl (.inl rfl) (pe_call GB hr (by rfl) gB kB bB .nil pass0 (pa_cons (pv 2) (pa_cons (pv 3) pa_nil))))))
      (pss_one (ps_ret (pv 2)))), ?_⟩
    refine ⟨_, rfl, ?_⟩
    refine ⟨_, rfl, D, T.map (·.1), rfl, by rw [List.map_map]; exact hD, ?_, fun l hl => ?_, fun ls' p pm np => ?_⟩
    · rw [List.length_map]
      omega
    · obtain ⟨t, ht, rfl⟩ := List.mem_map.mp hl
      exact (hT t ht).2.1
    · obtain ⟨T', pT, rfl⟩ := perm_lift (fun t : Addr × List (List Int) × β => t.1) pm
      have sp := same_upd (o := .lst ((T'.map (·.1)).map V.ref)) np
      have okT : ∀ t ∈ T', Canon t.2.1 (N t.2.2) ∧ t.2.2 ∈ T.map (fun t => t.2.2) ∧ Dp K H (.ref t.1) (stsD t.2.1) ∧ t.2.1.length ≤ m := fun t ht => by
        have ht' := pT.mem_iff.mp ht
        obtain ⟨c1, _, c3, c4⟩ := hT t ht'
        exact ⟨c1, List.mem_map.mpr ⟨t, ht', rfl⟩, c3, c4⟩
      refine ⟨p, rfl, ⟨_, SqL.of upd_same⟩, ?_⟩
      refine for_list (K := K) (a := p) (xs := (T'.map (·.1)).map V.ref) (fun i σ H2 => ∃ (y3 : Option V) (fv : V) (M : List (List Int)), σ = [some x, some (.ref D), some fv, y3] ∧ Same (upd H p (.lst ((T'.map (·.1)).map V.ref))) H2 ∧ (fv = x ∧ M = B ∨ ∃ q, fv = .ref q ∧ H q = none) ∧ Dp K H2 fv (stsD M) ∧
          Canon M (fun x => U x ∧ ∀ a ∈ (T'.take i).map (fun t => t.2.2), N a x))
        ⟨none, x, B, rfl, Same.refl _, .inl ⟨rfl, rfl⟩, dp_same sp hx, canB.congr fun x _ => ⟨fun h => ⟨h, fun a ha => nomatch ha⟩, fun h => h.1⟩⟩ ?_ ?_ ?_
      · rintro i σ H2 _ ⟨_, _, _, _, s2, _⟩
        exact SqL.of (s2 _ _ upd_same)
      · rintro i v σ H2 hi ⟨y3, fv, M, rfl, s2, fr, dM, can⟩
        rw [List.getElem?_map, List.getElem?_map, Option.map_map] at hi
        obtain ⟨t, ht, rfl⟩ := Option.map_eq_some_iff.mp hi
        obtain ⟨c1, c2, c3, l2⟩ := okT t (List.mem_of_getElem? ht)
        have l1 : M.length ≤ m := few _ (fun a ha => by
          obtain ⟨t', ht', rfl⟩ := List.mem_map.mp ha
          exact (okT t' (List.mem_of_mem_take ht')).2.1) M can
        refine ⟨_, rfl, _, rfl, fv, .ref t.1, M, t.2.1, rfl, dM, dp_same (sp.trans s2) c3, can.ok, c1.ok, ?_, fun qn H3 qs N2 s3 nq hq dq canN => ?_⟩
        · have : M.length * (t.2.1.length + 1) ≤ m * (m + 1) := Nat.mul_le_mul l1 (by omega)
          omega
        · refine ⟨_, .ref qn, N2, rfl, s2.trans s3, .inr ⟨qn, rfl, (sp.trans s2).free nq⟩, .lst (SqL.of hq) dq, canN.congr fun x hx => ?_⟩
          rw [can.up x hx, c1.up x hx, take_snoc ht, List.map_append]
          constructor
          · rintro ⟨⟨h1, h2⟩, h3⟩
            refine ⟨h1, fun a ha => ?_⟩
            rcases List.mem_append.mp ha with ha | ha
            · exact h2 a ha
            · rw [List.mem_singleton.mp ha]
              exact h3
          · rintro ⟨h1, h2⟩
            exact ⟨⟨h1, fun a ha => h2 a (List.mem_append_left _ ha)⟩, h2 _ (List.mem_append_right _ (List.mem_singleton.mpr rfl))⟩
      · rintro σ H2 ⟨y3, fv, M, rfl, s2, fr, dM, can⟩
        rw [take_all (by rw [List.length_map, List.length_map])] at can
        refine ⟨_, rfl, q fv H2 M (sp.trans s2) fr dM (can.congr fun x _ => ?_)⟩
        have all : ∀ a, a ∈ T'.map (fun t => t.2.2) ↔ a ∈ T.map (fun t => t.2.2) := fun a => (pT.map _).mem_iff
        constructor
        · rintro ⟨h1, h⟩
          exact ⟨h1, fun a ha => h a ((all a).mpr ha)⟩
        · rintro ⟨h1, h⟩
          exact ⟨h1, fun a ha => h a ((all a).mp ha)⟩
end
/-! ### plans of rooms: what lasts so many asks, within a box or not (plain Lean) -/
abbrev PAsk := List (List Int × Nat)
abbrev Rooms := List (List PAsk)
def InB (b : Option Int) (z : List Int) : Prop := ∀ r, b = some r → le4 z [r, r, r, r] = true
def inB (b : Option Int) (z : List Int) : Bool := match b with
  | none => true
  | some r => le4 z [r, r, r, r]
theorem inB_iff {b : Option Int} {z : List Int} : inB b z = true ↔ InB b z := by
  cases b with
  | none => exact ⟨fun _ r h => (nomatch h), fun _ => rfl⟩
  | some r => exact ⟨fun h r' e => by cases e; exact h, fun h => h r rfl⟩
theorem InB.down {b : Option Int} {y z : List Int} (h : InB b z) (l : le4 y z = true) : InB b y := fun r e => le4_trans l (h r e)
theorem InB.join {b : Option Int} {y z : List Int} (oy : Ok4 y) (oz : Ok4 z) (hy : InB b y) (hz : InB b z) : InB b (join4 y z) := fun r e => by
  have h1 := hy r e
  have h2 := hz r e
  obtain ⟨a, b, c, d, rfl, _⟩ := oy
  obtain ⟨e, f, g, h, rfl, _⟩ := oz
  obtain ⟨p1, p2, p3, p4⟩ := le4_iff.mp h1
  obtain ⟨q1, q2, q3, q4⟩ := le4_iff.mp h2
  show le4 [max a e, max b f, max c g, max d h] [r, r, r, r] = true
  exact le4_iff.mpr ⟨by omega, by omega, by omega, by omega⟩
def roomAt (R : Rooms) (r : Nat) : List PAsk := R.getD r []
theorem roomAt_of {R : Rooms} {r : Nat} {l : List PAsk} (h : R[r]? = some l) : roomAt R r = l := by
  unfold roomAt
  rw [List.getD_eq_getElem?_getD, h, Option.getD_some]
theorem roomAt_out {R : Rooms} {r : Nat} (h : R.length ≤ r) : roomAt R r = [] := by
  unfold roomAt
  rw [List.getD_eq_getElem?_getD, List.getElem?_eq_none h, Option.getD_none]
/-- some pair of the ask leads from what x has within the box to what B tells of its room -/
def NdB (b : Option Int) (B : Nat → List Int → Prop) (a : PAsk) (x : List Int) : Prop := ∃ z, Ok4 z ∧ le4 z x = true ∧ InB b z ∧ ∃ p ∈ a, Ok4 (add4 z p.1) ∧ B p.2 (add4 z p.1)
theorem NdB.mono {b : Option Int} {B : Nat → List Int → Prop} {a : PAsk} {x y : List Int} (h : NdB b B a x) (l : le4 x y = true) : NdB b B a y :=
  let ⟨z, oz, lz, iz, q⟩ := h
  ⟨z, oz, le4_trans lz l, iz, q⟩
theorem NdB.imp {b : Option Int} {B C : Nat → List Int → Prop} {a : PAsk} {x : List Int} (i : ∀ p ∈ a, ∀ y, Ok4 y → B p.2 y → C p.2 y) (h : NdB b B a x) : NdB b C a x :=
  let ⟨z, oz, lz, iz, p, mp, o, q⟩ := h
  ⟨z, oz, lz, iz, p, mp, o, i p mp _ o q⟩
/-- what lasts n asks in room r -/
def PB (b : Option Int) (R : Rooms) : Nat → Nat → List Int → Prop
  | 0, _, _ => True
  | n + 1, r, x => PB b R n r x ∧ ∀ a ∈ roomAt R r, NdB b (PB b R n) a x
theorem PB.down {b : Option Int} {R : Rooms} {n r : Nat} {x : List Int} (h : PB b R (n + 1) r x) : PB b R n r x := h.1
theorem PB.le {b : Option Int} {R : Rooms} {n m r : Nat} {x : List Int} (h : PB b R m r x) (l : n ≤ m) : PB b R n r x := by
  obtain ⟨k, rfl⟩ := Nat.le.dest l
  clear l
  induction k with
  | zero => exact h
  | succ k ih => exact ih h.down
theorem PB.mono {b : Option Int} {R : Rooms} : ∀ {n r : Nat} {x y : List Int}, PB b R n r x → le4 x y = true → PB b R n r y
  | 0, _, _, _, _, _ => True.intro
  | _ + 1, _, _, _, h, l => ⟨PB.mono h.1 l, fun a ha => (h.2 a ha).mono l⟩
theorem PB.rest {b : Option Int} {R : Rooms} {j : Nat} (e : ∀ r x, Ok4 x → (PB b R j r x ↔ PB b R (j + 1) r x)) : ∀ (k r : Nat) (x : List Int), Ok4 x → (PB b R j r x ↔ PB b R (j + k) r x)
  | 0, _, _, _ => Iff.rfl
  | k + 1, r, x, hx => by
    refine ⟨fun h => ⟨(PB.rest e k r x hx).mp h, fun a ha => ?_⟩, fun h => (PB.rest e k r x hx).mpr h.down⟩
    exact (((e r x hx).mp h).2 a ha).imp fun p _ y oy z => (PB.rest e k p.2 y oy).mp z
theorem PB.out {b : Option Int} {R : Rooms} {r : Nat} (h : R.length ≤ r) : ∀ (n : Nat) (x : List Int), PB b R n r x
  | 0, _ => True.intro
  | n + 1, x => ⟨PB.out h n x, fun a ha => by rw [roomAt_out h] at ha; cases ha⟩
/-- a list for each room: the least ones of what is told of the room -/
structure RowOk (N : Nat) (B : Nat → List Int → Prop) (L : List (List (List Int))) : Prop where
  len : L.length = N
  can : ∀ r l, L[r]? = some l → Canon l (B r)
theorem RowOk.at {N : Nat} {B : Nat → List Int → Prop} {L : List (List (List Int))} (o : RowOk N B L) {r : Nat} (h : r < N) : ∃ l, L[r]? = some l ∧ Canon l (B r) :=
  ⟨_, List.getElem?_eq_getElem (by rw [o.len]; exact h), o.can r _ (List.getElem?_eq_getElem (by rw [o.len]; exact h))⟩
theorem RowOk.uniq {N : Nat} {B : Nat → List Int → Prop} {L M : List (List (List Int))} (o : RowOk N B L) (p : RowOk N B M) : L = M := by
  refine List.ext_getElem? fun r => ?_
  by_cases h : r < N
  · obtain ⟨l, hl, cl⟩ := o.at h
    obtain ⟨m, hm, cm⟩ := p.at h
    rw [hl, hm, cl.uniq cm]
  · rw [List.getElem?_eq_none (by rw [o.len]; omega), List.getElem?_eq_none (by rw [p.len]; omega)]
theorem RowOk.congr {N : Nat} {B C : Nat → List Int → Prop} {L : List (List (List Int))} (o : RowOk N B L) (h : ∀ r, r < N → ∀ x, Ok4 x → (B r x ↔ C r x)) : RowOk N C L :=
  ⟨o.len, fun r l hl => (o.can r l hl).congr (h r (by rw [← o.len]; exact (List.getElem?_eq_some_iff.mp hl).1))⟩
/-- two lists alike: from there on all is alike -/
theorem RowOk.rest {b : Option Int} {R : Rooms} {j : Nat} {L : List (List (List Int))} (o : RowOk R.length (PB b R j) L) (p : RowOk R.length (PB b R (j + 1)) L) (k : Nat) : RowOk R.length (PB b R (j + k)) L := by
  have e : ∀ r x, Ok4 x → (PB b R j r x ↔ PB b R (j + 1) r x) := fun r x hx => by
    by_cases h : r < R.length
    · obtain ⟨l, hl, cl⟩ := o.at h
      exact (cl.up x hx).symm.trans ((p.can r l hl).up x hx)
    · exact ⟨fun _ => PB.out (by omega) _ _, fun _ => PB.out (by omega) _ _⟩
  exact o.congr fun r _ x hx => PB.rest e k r x hx
/-- what an ask needs, as it is listed -/
def ndL (a : PAsk) (L : List (List (List Int))) : List (List Int) := a.flatMap fun p => (L.getD p.2 []).map (need4 p.1)
theorem ndL_ok {a : PAsk} {L : List (List (List Int))} (hw : ∀ p ∈ a, p.1.length = 4) (hL : ∀ l ∈ L, ∀ s ∈ l, Ok4 s) : ∀ t ∈ ndL a L, Ok4 t := fun t ht => by
  obtain ⟨p, mp, ht⟩ := List.mem_flatMap.mp ht
  obtain ⟨s, hs, rfl⟩ := List.mem_map.mp ht
  refine need4_ok (hw p mp) ?_
  rw [List.getD_eq_getElem?_getD] at hs
  cases e : L[p.2]? with
  | none =>
    rw [e] at hs
    cases hs
  | some l =>
    rw [e] at hs
    exact hL l (List.mem_of_getElem? e) s hs
theorem ndL_up {b : Option Int} {B : Nat → List Int → Prop} {a : PAsk} {L : List (List (List Int))} {N : Nat} (o : RowOk N B L) (hw : ∀ p ∈ a, p.1.length = 4 ∧ p.2 < N) {x : List Int} (hx : Ok4 x) : UpS ((ndL a L).filter (inB b)) x ↔ NdB b B a x := by
  constructor
  · rintro ⟨t, ht, l⟩
    obtain ⟨ht, ib⟩ := List.mem_filter.mp ht
    obtain ⟨p, mp, ht⟩ := List.mem_flatMap.mp ht
    obtain ⟨w4, pN⟩ := hw p mp
    obtain ⟨l0, hl0, c0⟩ := o.at pN
    rw [List.getD_eq_getElem?_getD, hl0, Option.getD_some] at ht
    obtain ⟨s, hs, rfl⟩ := List.mem_map.mp ht
    have os := c0.ok s hs
    have ot := need4_ok w4 os
    obtain ⟨h1, h2⟩ := (need4_le w4 os ot).mp (le4_refl ot)
    exact ⟨need4 p.1 s, ot, l, inB_iff.mp ib, p, mp, h1, (c0.up _ h1).mp ⟨s, hs, h2⟩⟩
  · rintro ⟨z, oz, lz, iz, p, mp, o1, q⟩
    obtain ⟨w4, pN⟩ := hw p mp
    obtain ⟨l0, hl0, c0⟩ := o.at pN
    obtain ⟨s, hs, l1⟩ := (c0.up _ o1).mpr q
    have l2 := (need4_le w4 (c0.ok s hs) oz).mpr ⟨o1, l1⟩
    refine ⟨need4 p.1 s, List.mem_filter.mpr ⟨List.mem_flatMap.mpr ⟨p, mp, ?_⟩, inB_iff.mpr (iz.down l2)⟩, le4_trans l2 lz⟩
    rw [List.getD_eq_getElem?_getD, hl0, Option.getD_some]
    exact List.mem_map.mpr ⟨s, hs, rfl⟩
theorem ndL_len {a : PAsk} {L : List (List (List Int))} {m : Nat} (h : ∀ l ∈ L, l.length ≤ m) : (ndL a L).length ≤ a.length * m := by
  induction a with
  | nil => exact Nat.zero_le _
  | cons p a ih =>
    have e : ndL (p :: a) L = (L.getD p.2 []).map (need4 p.1) ++ ndL a L := rfl
    have l1 : (L.getD p.2 []).length ≤ m := by
      rw [List.getD_eq_getElem?_getD]
      cases e2 : L[p.2]? with
      | none => exact Nat.zero_le _
      | some l => exact h l (List.mem_of_getElem? e2)
    rw [e, List.length_append, List.length_map, List.length_cons, Nat.succ_mul]
    omega
/-- never too many come up -/
structure FewP (b : Option Int) (R : Rooms) (n m : Nat) : Prop where
  sq : m * (m + 1) < 4096
  fv : m * 5 < 4096
  all : ∀ j, j < n → ∀ r, r < R.length → ∀ as : List PAsk, (∀ a ∈ as, a ∈ roomAt R r) → ∀ M, Canon M (fun x => PB b R j r x ∧ ∀ a ∈ as, NdB b (PB b R j) a x) → M.length ≤ m
  one : ∀ j, j < n → ∀ r, r < R.length → ∀ a ∈ roomAt R r, ∀ M, Canon M (NdB b (PB b R j) a) → M.length ≤ m
/-- the rooms of a plan, in four -/
structure RmOk (R : Rooms) : Prop where
  few : R.length ≤ 1000
  asks : ∀ l ∈ R, l.length ≤ 1000
  five : ∀ l ∈ R, ∀ a ∈ l, a.length ≤ 5
  pair : ∀ l ∈ R, ∀ a ∈ l, ∀ p ∈ a, p.1.length = 4 ∧ p.2 < R.length
/-! ### a plan's data -/
def pairP (p : List Int × Nat) : PyData := .tuple [wayD p.1, .int p.2]
abbrev paskD (a : PAsk) : PyData := .list (a.map pairP)
abbrev roomD (r : List PAsk) : PyData := .list (r.map paskD)
abbrev roomsD (R : Rooms) : PyData := .list (R.map roomD)
abbrev lvD (L : List (List (List Int))) : PyData := .list (L.map stsD)
theorem noL_pairP (p : List Int × Nat) : noL (pairP p) = true := by
  unfold pairP
  simp only [noL, noLAll, noL_way, Bool.and_true]
theorem pairP_of {K : PySem.W.Frag} {H : Hp} {v : V} {p : List Int × Nat} (h : Dp K H v (pairP p)) : ∃ a x, v = .ref a ∧ SqT K H a [x, .int p.2] ∧ Dp K H x (wayD p.1) := by
  cases h with
  | @tup a vs _ hT hall =>
    cases hall with
    | @cons v1 _ _ _ d1 r1 =>
    cases r1 with
    | @cons v2 _ _ _ d2 r2 =>
    cases r2
    cases d2
    exact ⟨a, v1, rfl, hT, d1⟩
theorem mapD_get {K : PySem.W.Frag} {H : Hp} {α : Type} {f : α → PyData} {vs : List V} {l : List α} {j : Nat} {v : V} (h : DpAll K H vs (l.map f)) (e : vs[j]? = some v) : ∃ t, l[j]? = some t ∧ Dp K H v (f t) := by
  obtain ⟨d, hd, dv⟩ := dpAll_get h e
  rw [List.getElem?_map] at hd
  obtain ⟨t, ht, rfl⟩ := Option.map_eq_some_iff.mp hd
  exact ⟨t, ht, dv⟩
theorem mapD_len {K : PySem.W.Frag} {H : Hp} {α : Type} {f : α → PyData} {vs : List V} {l : List α} (h : DpAll K H vs (l.map f)) : vs.length = l.length := by rw [dpAll_len h, List.length_map]
theorem mapD_at {K : PySem.W.Frag} {H : Hp} {α : Type} {f : α → PyData} {vs : List V} {l : List α} {j : Nat} {t : α} (h : DpAll K H vs (l.map f)) (e : l[j]? = some t) : ∃ v, vs[j]? = some v ∧ Dp K H v (f t) :=
  dpAll_getD h (by rw [List.getElem?_map, e]; rfl)
theorem lst_of {K : PySem.W.Frag} {H : Hp} {v : V} {α : Type} {f : α → PyData} {S : List α} (h : Dp K H v (.list (S.map f))) : ∃ l vs, v = .ref l ∧ SqL K H l vs ∧ DpAll K H vs (S.map f) := by
  cases h with
  | @lst a vs _ hL hall => exact ⟨a, vs, rfl, hL, hall⟩
theorem tup_of {K : PySem.W.Frag} {H : Hp} {v : V} {α : Type} {f : α → PyData} {S : List α} (h : Dp K H v (.tuple (S.map f))) : ∃ l vs, v = .ref l ∧ SqT K H l vs ∧ DpAll K H vs (S.map f) := by
  cases h with
  | @tup a vs _ hL hall => exact ⟨a, vs, rfl, hL, hall⟩
/-! ### the lists of one ask more -/
def sNoMore : Stmt := topS 15
def sForAsk : Stmt := topS 14
/-- the box's number, if there is one -/
def boxV : Option Int → V
  | none => .non
  | some r => .int r
theorem max4_le {a b c d r : Int} : decide ([b, c, d].foldl max a ≤ r) = inB (some r) [a, b, c, d] := by
  rw [Bool.eq_iff_iff, decide_eq_true_iff, foldl_max_le]
  show _ ↔ le4 [a, b, c, d] [r, r, r, r] = true
  rw [le4_iff]
  simp only [List.mem_cons, List.not_mem_nil, or_false, forall_eq_or_imp, forall_eq]
def spNoMore (K : PySem.W.Frag) : Sp := fun vs H Q _ => ∃ (x : V) (b : Option Int) (S : List (List Int)), vs = [boxV b, x] ∧ Dp K H x (stsD S) ∧ (∀ t ∈ S, t.length = 4) ∧ S.length ≤ 5000 ∧ ∀ v H', Same H H' → Dp K H' v (stsD (S.filter (inB b))) → Q v H'
def spForAsk (K : PySem.W.Frag) : Sp := fun vs H Q _ => ∃ (x y : V) (b : Option Int) (B : Nat → List Int → Prop) (a : PAsk) (L : List (List (List Int))) (N : Nat), vs = [x, y, boxV b] ∧ Dp K H x (paskD a) ∧ Dp K H y (lvD L) ∧ (∀ p ∈ a, p.1.length = 4 ∧ p.2 < N) ∧ RowOk N B L ∧ (ndL a L).length < 4096 ∧ (∀ l ∈ L, l.length ≤ 4095) ∧
  ∀ q H' ps M, Same H H' → H q = none → H' q = some (.lst ps) → DpAll K H' ps (M.map wayD) → Canon M (NdB b B a) → Q (.ref q) H'
section
variable {P : Program} {w : World} {K : PySem.W.Frag} {mg : Str → Option Value} {base : Heap}
theorem scNoMore : FnScope ["b", "stores", "store"] ["b", "stores"] (defScope sNoMore) := ⟨rfl, rfl, rfl, by decide +kernel, rfl, by decide +kernel, by decide +kernel⟩
theorem ok_noMore {f : Addr} {fd : FuncData} {k : Nat} (F : Fun K "no_more_than" "no_more_than" sNoMore f fd) (mx : mg "max" = none) : FnOk P w K mg base CX0 (k + 1) f fd ["b", "stores"] (spNoMore K) := by
  refine F.ok scNoMore (fun vs H Q E h => ?_) (fun cdv A outer s H vs Q E hr h => ?_)
  · obtain ⟨x, b, S, rfl, _⟩ := h
    rfl
  · obtain ⟨x, b, S, rfl, hx, l4, fw, q⟩ := h
    refine ⟨_, pss_one (ps_ret (pe_ifExp (pt_cmp (pc_isN (pv 0))) (pv 1)
      (pe_lc (own := [("store", 2)]) (g := gName 2) (tt := tTest (tOp (rI0 fun i j => .bl (decide (i ≤ j))) (tCB (rMaxT K) (tCons (tVar 2) tNil)) (tVar 0))) rfl scNoMore.nd (pi_list (pv 1))
        (blkOk_by (N := ["b", "stores", "store"]) (sc := defScope sNoMore) (by decide +kernel))
        (fun _ _ _ _ _ => by exact pg_name (i := 2) scNoMore.nd rfl (.inl rfl)) (fun _ _ _ _ _ => by exact pts_one (pt_cmpR op_le (pe_callB (cr_maxT rfl hr) (by rfl) mx (by decide +kernel) (pa_cons (pv 2) pa_nil)) (pv 0) (nomark _)))
        (fun _ _ _ _ _ => by exact pv 2)))), ?_⟩
    obtain ⟨l, vs, rfl, hL, hall⟩ := sts_of hx
    have lv := sts_len hall
    cases b with
    | none =>
      refine ⟨_, rfl, true, rfl, ifT rfl ⟨_, rfl, q _ H (Same.refl _) ?_⟩⟩
      rw [show S.filter (inB none) = S from List.filter_eq_self.mpr fun _ _ => rfl]
      exact .lst hL hall
    | some r =>
      refine ⟨_, rfl, false, rfl, ifF rfl ⟨_, rfl, l, rfl, ⟨_, hL⟩, fun D nD => ?_⟩⟩
      have sD := same_upd (o := .lst []) nD
      refine lc_list (K := K) (a := l) (xs := vs) (fun j H1 => Same H H1 ∧ ∃ ps, H1 D = some (.lst ps) ∧ DpAll K H1 ps (((S.take j).filter (inB (some r))).map wayD)) ⟨sD, [], upd_same, .nil⟩ (fun j H1 _ ⟨s1, _⟩ => s1.seq hL) ?_ ?_
      · rintro j v H1 hj ⟨s1, ps, hD, dps⟩
        obtain ⟨t, ht, dv⟩ := sts_get hall hj
        obtain ⟨ta, rfl, hT⟩ := way_of dv
        obtain ⟨a, b, c, d, rfl⟩ := four_of (l4 t (List.mem_of_getElem? ht))
        have lp := sts_len dps
        have lf := List.length_filter_le (inB (some r)) (S.take j)
        rw [List.length_take] at lf
        refine ⟨rfl, _, rfl, ta, a, [b, c, d], rfl, s1.seqT hT, _, rfl, _, r, rfl, rfl, _, rfl, ?_⟩
        rw [max4_le, take_snoc ht, List.filter_append]
        refine ite2 (fun y => ?_) fun y => ?_
        · rw [show [[a, b, c, d]].filter (inB (some r)) = [[a, b, c, d]] by rw [List.filter_cons, if_pos y]; rfl]
          refine ⟨_, rfl, ps, hD, small_line (by omega), fun b2 o e2 => ?_, ps ++ [.ref ta], upd_same, ?_⟩
          · rw [upd_ne (ne_of_none e2 nD)]
            exact s1 _ _ e2
          · rw [List.map_append]
            exact dpAll_put hD (dpAll_app dps (.cons (dp_same s1 dv) .nil)) (noL_app _ [[a, b, c, d]])
        · rw [show [[a, b, c, d]].filter (inB (some r)) = [] by rw [List.filter_cons, if_neg y]; rfl, List.append_nil]
          exact ⟨s1, ps, hD, dps⟩
      · rintro H1 ⟨s1, ps, hD, dps⟩
        rw [take_all lv] at dps
        exact q _ H1 s1 (.lst (SqL.of hD) dps)
theorem scForAsk : FnScope ["ask", "before", "b", "way", "to", "store"] ["ask", "before", "b"] (defScope sForAsk) := ⟨rfl, rfl, rfl, by decide +kernel, rfl, by decide +kernel, by decide +kernel⟩
theorem ok_forAsk {f fN fM fL : Addr} {fd fdN fdM fdL : FuncData} {k : Nat} (F : Fun K "least_for_ask" "least_for_ask" sForAsk f fd)
    (GN : FnOk P w K mg base CX0 (k + 2) fN fdN ["way", "stores"] (spNeeded K need4)) (kN : PySem.W.keepIn K (.ref fN) = true) (bN : Binds K fdN ["way", "stores"] []) (gN : mg "needed" = some (.ref fN))
    (GM : FnOk P w K mg base CX0 (k + 2) fM fdM ["b", "stores"] (spNoMore K)) (kM : PySem.W.keepIn K (.ref fM) = true) (bM : Binds K fdM ["b", "stores"] []) (gM : mg "no_more_than" = some (.ref fM))
    (GL : FnOk P w K mg base CX0 (k + 2) fL fdL ["stores"] (spLeastOf K)) (kL : PySem.W.keepIn K (.ref fL) = true) (bL : Binds K fdL ["stores"] []) (gL : mg "least_of" = some (.ref fL)) :
    FnOk P w K mg base CX0 (k + 3) f fd ["ask", "before", "b"] (spForAsk K) := by
  refine F.ok scForAsk (fun vs H Q E h => ?_) (fun cdv A outer s H vs Q E hr h => ?_)
  · obtain ⟨x, y, b, B, a, L, N, rfl, _⟩ := h
    rfl
  · obtain ⟨x, y, b, B, a, L, N, rfl, hx, hy, hw, o, fw, lL, q⟩ := h
    refine ⟨_, pss_one (ps_ret (pe_call GL hr (by rfl) gL kL bL .nil pass0 (pa_cons (pe_call GM hr (by rfl) gM kM bM .nil pass0 (pa_cons (pv 2) (pa_cons
      (pe_lc2 (wi1 := iList K (tCall (spNeeded K need4) [] E0 (tCons (tVar 3) (tCons (tOp (rIxL K) (tVar 1) (tVar 4)) tNil)))) (own := [("way", 3), ("to", 4), ("store", 5)]) (vs1 := [5]) (g := gTup K 2 (gCons (gName 3) (gCons (gName 4) gNil))) (tt := tYes) (g1 := gName 5) (tt1 := tYes) rfl scForAsk.nd (pi_list (pv 0))
        (blkOk_by (N := ["ask", "before", "b", "way", "to", "store"]) (sc := defScope sForAsk) (by decide +kernel)) (by decide)
        (fun _ _ _ _ _ => by refine pg_tup rfl (pgs_cons ?_ (pgs_cons ?_ pgs_nil)); exact pg_name (i := 3) scForAsk.nd rfl (.inl rfl); exact pg_name (i := 4) scForAsk.nd rfl (.inl rfl)) (fun _ _ _ _ _ => pts_nil)
        (fun _ _ _ _ _ => by exact pi_list (pe_call GN hr (by rfl) gN kN bN .nil pass0 (pa_cons (pv 3) (pa_cons (pe_ix ix_list (pv 1) (pv 4) (fun _ _ => rfl)) pa_nil))))
        (fun _ _ _ _ _ => by exact pg_name (i := 5) scForAsk.nd rfl (.inl rfl)) (fun _ _ _ _ _ => pts_nil)
        (fun _ _ _ _ _ => by exact pv 5)) pa_nil))) pa_nil))), ?_⟩
    obtain ⟨l, vs, rfl, hL, hall⟩ := lst_of hx
    obtain ⟨m, us, rfl, hM, mall⟩ := lst_of hy
    have lv := mapD_len hall
    refine ⟨_, rfl, _, rfl, l, rfl, ⟨_, hL⟩, fun D nD => ?_⟩
    have sD := same_upd (o := .lst []) nD
    refine walk_gen (walk_list (K := K) (a := l) (xs := vs)) _ (fun j H1 => Same H H1 ∧ ∃ ps, H1 D = some (.lst ps) ∧ DpAll K H1 ps ((ndL (a.take j) L).map wayD)) ⟨sD, [], upd_same, .nil⟩ (fun j H1 _ ⟨s1, _⟩ => s1.seq hL) ?_ ?_
    · rintro j v H1 H1' lj ⟨s1, ps, hD, dps⟩ ⟨rfl, hj⟩
      obtain ⟨p, hp, dp⟩ := mapD_get hall hj
      obtain ⟨pa, px, rfl, hpT, dpx⟩ := pairP_of dp
      have mp := List.mem_of_getElem? hp
      obtain ⟨w4, pN⟩ := hw p mp
      obtain ⟨l0, hl0, c0⟩ := o.at pN
      obtain ⟨lv0, hlv0, dl0⟩ := mapD_at mall hl0
      have len0 := lL l0 (List.mem_of_getElem? hl0)
      have esnoc : ndL (a.take (j + 1)) L = ndL (a.take j) L ++ l0.map (need4 p.1) := by
        unfold ndL
        rw [take_snoc hp, List.flatMap_append, List.flatMap_cons, List.flatMap_nil, List.append_nil, List.getD_eq_getElem?_getD, hl0, Option.getD_some]
      have sub : (ndL (a.take (j + 1)) L).length ≤ (ndL a L).length := by
        have e : ndL a L = ndL (a.take (j + 1)) L ++ ndL (a.drop (j + 1)) L := by
          unfold ndL
          rw [← List.flatMap_append, List.take_append_drop]
        rw [e, List.length_append]
        omega
      rw [esnoc, List.length_append, List.length_map] at sub
      refine ⟨pa, _, rfl, s1.seqT hpT, rfl, _, _, rfl, _, _, rfl, rfl, rfl, ?_⟩
      refine ⟨_, rfl, _, rfl, _, rfl, m, us, p.2, lv0, rfl, rfl, s1.seq hM, atI_nat hlv0, px, lv0, p.1, l0, rfl, dp_same s1 dpx, dp_same s1 dl0, w4, fun t ht => ok4_len (c0.ok t ht), by omega, fun qn H3 qs s3 nq hq dqs => ⟨qn, rfl, ⟨_, SqL.of hq⟩, ?_⟩⟩
      have hD3 := s3 _ _ hD
      have nqD : qn ≠ D := (ne_of_none hD nq).symm
      have lq := sts_len dqs
      rw [List.length_map] at lq
      refine walk_gen (walk_list (K := K) (a := qn) (xs := qs)) _ (fun i H4 => Kp D H3 H4 ∧ ∃ ps, H4 D = some (.lst ps) ∧ DpAll K H4 ps ((ndL (a.take j) L ++ (l0.map (need4 p.1)).take i).map wayD)) ⟨Kp.refl _ _, ps, hD3, by rw [List.take_zero, List.append_nil]; exact dpAll_same s3 dps⟩ (fun i H4 _ ⟨k4, _⟩ => SqL.of (k4 _ _ hq nqD)) ?_ ?_
      · rintro i x H4 H4' li ⟨k4, ps4, hD4, dps4⟩ ⟨rfl, hi⟩
        obtain ⟨t, ht, dt⟩ := sts_get dqs hi
        have lp := sts_len dps4
        simp only [List.length_append, List.length_take, List.length_map] at lp
        refine ⟨rfl, ?_⟩
        refine ⟨_, rfl, ps4, hD4, small_line (by omega), fun b o e n => ?_, ps4 ++ [x], upd_same, ?_⟩
        · rw [upd_ne n]
          exact k4 b o e n
        · rw [take_snoc ht, ← List.append_assoc, List.map_append]
          exact dpAll_put hD4 (dpAll_app dps4 (.cons (dp_kp k4 hD3 dt (noL_way _)) .nil)) (noL_app _ [t])
      · rintro H4 ⟨k4, ps4, hD4, dps4⟩
        rw [show (l0.map (need4 p.1)).take qs.length = l0.map (need4 p.1) from take_all (by rw [List.length_map]; exact lq)] at dps4
        refine ⟨fun b o e => k4 b o (s3 b o (s1 b o e)) (ne_of_none e nD), ps4, hD4, ?_⟩
        rw [esnoc]
        exact dps4
    · rintro H1 ⟨s1, ps, hD, dps⟩
      rw [lv, List.take_length] at dps
      have ok := ndL_ok (a := a) (L := L) (fun p hp => (hw p hp).1) fun l hl s hs => by
        obtain ⟨r, hr⟩ := List.mem_iff_getElem?.mp hl
        exact (o.can r l hr).ok s hs
      refine ⟨.ref D, b, ndL a L, rfl, .lst (SqL.of hD) dps, fun t ht => ok4_len (ok t ht), by omega, fun v2 H2 s2 d2 => ?_⟩
      refine ⟨v2, (ndL a L).filter (inB b), rfl, d2, fun t ht => ok t (List.mem_filter.mp ht).1, Nat.lt_of_le_of_lt (List.length_filter_le _ _) fw, fun qq H3 qs M s3 nq hq dq can _ => ?_⟩
      exact q qq H3 qs M ((s1.trans s2).trans s3) ((s1.trans s2).free nq) hq dq (can.congr fun x hx => ndL_up o hw hx)
end
/-! ### one ask more, for each room -/
def sOneMore : Stmt := topS 13
/-- a list of ways that stands elsewhere stands without the one at a -/
theorem sts_rmv {K : PySem.W.Frag} {H : Hp} {a l : Addr} {us : List V} {S : List (List Int)} (h : Dp K H (.ref l) (stsD S)) (ha : H a = some (.lst us)) (ne : l ≠ a) : Dp K (rmv H a) (.ref l) (stsD S) := by
  cases h with
  | @lst _ vs _ hL hall =>
    refine .lst ?_ (dpAll_kp (rmv_kp H a) ha hall (noLAll_map noL_way _))
    rcases hL with (h | ⟨o, h⟩) | h
    · exact .inl (.inl (by rw [rmv_ne ne]; exact h))
    · exact .inl (.inr ⟨o, by rw [rmv_ne ne]; exact h⟩)
    · exact .inr h
theorem rmv_same2 {H H' : Hp} {a d : Addr} (s : Same H H') (nd : H d = none) : Same (rmv H a) (rmv (rmv H' a) d) := fun b o e => by
  obtain ⟨n, e⟩ := rmv_some e
  rw [rmv_ne (ne_of_none e nd), rmv_ne n]
  exact s _ _ e
theorem rmv_to {H H' : Hp} {a : Addr} (s : Same H H') : Same (rmv H a) (rmv H' a) := rmv_rmv fun b o _ e => s _ _ e
def spOneMore (K : PySem.W.Frag) : Sp := fun vs H Q _ => ∃ (x y : V) (b : Option Int) (R : Rooms) (L : List (List (List Int))) (j n m : Nat) (ll : Addr) (us : List V), vs = [x, y, boxV b] ∧ H ll = some (.lst us) ∧ Dp K (rmv H ll) x (roomsD R) ∧ Dp K (rmv H ll) y (lvD L) ∧
  RmOk R ∧ RowOk R.length (PB b R j) L ∧ FewP b R n m ∧ j < n ∧
  ∀ q H' M, Same H H' → H q = none → Dp K (rmv H' ll) (.ref q) (lvD M) → RowOk R.length (PB b R (j + 1)) M → Q (.ref q) H'
section
variable {P : Program} {w : World} {K : PySem.W.Frag} {mg : Str → Option Value} {base : Heap}
theorem scOneMore : FnScope ["rooms", "before", "b", "room", "there", "ask"] ["rooms", "before", "b"] (defScope sOneMore) := ⟨rfl, rfl, rfl, by decide +kernel, rfl, by decide +kernel, by decide +kernel⟩
theorem ok_oneMore {f fA fB : Addr} {fd fdA fdB : FuncData} {k : Nat} (F : Fun K "least_one_more" "least_one_more" sOneMore f fd)
    (GA : FnOk P w K mg base CX0 (k + 4) fA fdA ["ask", "before", "b"] (spForAsk K)) (kA : PySem.W.keepIn K (.ref fA) = true) (bA : Binds K fdA ["ask", "before", "b"] []) (gA : mg "least_for_ask" = some (.ref fA))
    (GB : FnOk P w K mg base CX0 (k + 4) fB fdB ["before", "needs"] (spInAll K)) (kB : PySem.W.keepIn K (.ref fB) = true) (bB : Binds K fdB ["before", "needs"] []) (gB : mg "least_in_all" = some (.ref fB)) (mz : mg "zip" = none) :
    FnOk P w K mg base CX0 (k + 5) f fd ["rooms", "before", "b"] (spOneMore K) := by
  refine F.ok scOneMore (fun vs H Q E h => ?_) (fun cdv A outer s H vs Q E hr h => ?_)
  · obtain ⟨x, y, b, R, L, j, n, m, ll, us, rfl, _⟩ := h
    rfl
  · obtain ⟨x, y, b, R, L, j, n, m, ll, us, rfl, hll, hx, hy, okR, oL, fw, jn, q⟩ := h
    refine ⟨_, pss_one (ps_ret (pe_lc (own := [("room", 3), ("there", 4)]) (g := gTup K 2 (gCons (gName 3) (gCons (gName 4) gNil))) (tt := tYes)
        (te := tCall (spInAll K) [] E0 (tCons (tVar 4) (tCons (tLc (iList K (tVar 3)) (gName 5) tYes (tCall (spForAsk K) [] E0 (tCons (tVar 5) (tCons (tVar 1) (tCons (tVar 2) tNil)))) [5]) tNil))) rfl scOneMore.nd (pi_zipA (by rfl) mz (pa_cons (pv 0) (pa_cons (pv 1) pa_nil)))
        (blkOk_by (N := ["rooms", "before", "b", "room", "there", "ask"]) (sc := defScope sOneMore) (by decide +kernel))
        (fun _ _ _ _ _ => by refine pg_tup rfl (pgs_cons ?_ (pgs_cons ?_ pgs_nil)); exact pg_name (i := 3) scOneMore.nd rfl (.inl rfl); exact pg_name (i := 4) scOneMore.nd rfl (.inl rfl))
        (fun _ _ _ _ _ => pts_nil)
        (fun _ _ _ _ _ => by exact (by
          refine pe_call GB hr (by rfl) gB kB bB .nil pass0 (pa_cons (pv 4) (pa_cons ?_ pa_nil))
          refine pe_lc (wi := iList K (tVar 3)) (own := [("ask", 5)]) (g := gName 5) (tt := tYes) (te := tCall (spForAsk K) [] E0 (tCons (tVar 5) (tCons (tVar 1) (tCons (tVar 2) tNil)))) ?_ ?_ ?_ ?_ ?_ ?_ ?_
          · rfl
          · exact scOneMore.nd
          · exact pi_list (pv 3)
          · exact blkOk_by (N := ["rooms", "before", "b", "room", "there", "ask"]) (sc := lcSc [(".0", .local), ("room", .local), ("there", .local), ("least_in_all", .globalImplicit), ("b", .cell), ("before", .cell)]) (by decide +kernel)
          · exact fun _ _ _ _ _ => by exact pg_name (i := 5) scOneMore.nd rfl (.inl rfl)
          · exact fun _ _ _ _ _ => pts_nil
          · exact fun _ _ _ _ _ => by exact pe_call GA hr (by rfl) gA kA bA .nil pass0 (pa_cons (pv 5) (pa_cons (pv 1) (pa_cons (pv 2) pa_nil))))))), ?_⟩
    obtain ⟨ra, rvs, rfl, hR0, rall⟩ := lst_of hx
    obtain ⟨ba, bvs, rfl, hB0, ball⟩ := lst_of hy
    have lr := mapD_len rall
    have lb := mapD_len ball
    have lbR : bvs.length = R.length := by rw [lb, oL.len]
    have toH : Same (rmv H ll) H := rmv_same fun b o _ e => e
    have hR := toH.seq hR0
    have hB := toH.seq hB0
    have m5 := fw.fv
    have msq := fw.sq
    have fewL : ∀ (r : Nat) (l : List (List Int)), L[r]? = some l → l.length ≤ m := fun r l hl => by
      have rR : r < R.length := by rw [← oL.len]; exact (List.getElem?_eq_some_iff.mp hl).1
      exact fw.all j jn r rR [] (fun a h => nomatch h) l ((oL.can r l hl).congr fun x _ => ⟨fun h => ⟨h, fun a ha => nomatch ha⟩, fun h => h.1⟩)
    refine ⟨_, rfl, _, rfl, ra, ba, rvs, bvs, rfl, .inl ⟨hR, hB, fun D nD => ?_⟩⟩
    have sD := same_upd (o := .lst []) nD
    have nDl : D ≠ ll := (ne_of_none hll nD).symm
    refine lc_it (walk_zip (K := K) (a := ra) (b := ba) (xs := rvs) (ys := bvs) (n := R.length) (by rw [lr, lbR, Nat.min_self])) (fun i H1 => Same H H1 ∧ ∃ ps Ls, H1 D = some (.lst ps) ∧ DpAll K (rmv (rmv H1 ll) D) ps (Ls.map stsD) ∧ Ls.length = i ∧ ∀ r l, Ls[r]? = some l → Canon l (PB b R (j + 1) r))
      ⟨sD, [], [], upd_same, .nil, rfl, fun r l h => nomatch h⟩ (fun i H1 _ ⟨s1, _⟩ => ⟨s1.seq hR, s1.seq hB⟩) ?_ ?_
    · rintro i v H1 H2 hi ⟨s1, ps, Ls, hD, dps, eLs, cLs⟩ ⟨T, v1, v2, rfl, nT, rfl, f1, f2⟩
      have sT := same_upd (o := .tup [v1, v2]) nT
      obtain ⟨room, hroom, droom⟩ := mapD_get rall f1
      obtain ⟨l0, hl0, dl0⟩ := mapD_get ball f2
      have mroom := List.mem_of_getElem? hroom
      have at_r := roomAt_of hroom
      have c0 := oL.can i l0 hl0
      have lasks := okR.asks room mroom
      obtain ⟨qa, qvs, rfl, hQ0, qall⟩ := lst_of droom
      have lq := mapD_len qall
      have hQ := toH.seq hQ0
      have lps := mapD_len dps
      have lRR := okR.few
      have s1T := s1.trans sT
      refine ⟨T, _, rfl, SqT.of upd_same, rfl, _, _, rfl, _, _, rfl, rfl, rfl, ?_⟩
      refine ⟨_, rfl, ?_⟩
      refine ⟨_, rfl, qa, rfl, ⟨_, s1T.seq hQ⟩, fun G nG => ?_⟩
      have sG := same_upd (o := .lst []) nG
      have hDT := sT _ _ hD
      have nGD : G ≠ D := (ne_of_none hDT nG).symm
      have hllT := s1T _ _ hll
      have nGl : G ≠ ll := (ne_of_none hllT nG).symm
      have nGH : H G = none := s1T.free nG
      -- the needs, ask by ask: their lists, what they are, of which ask
      refine lc_list (K := K) (a := qa) (xs := qvs) (fun t H3 => Same (upd H1 T (.tup [.ref qa, v2])) H3 ∧ ∃ TT : List (Addr × List (List Int) × PAsk), H3 G = some (.lst (TT.map fun t => V.ref t.1)) ∧ TT.map (fun t => t.2.2) = room.take t ∧
          ∀ t ∈ TT, Canon t.2.1 (NdB b (PB b R j) t.2.2) ∧ (∃ ys, rmv H3 G t.1 = some (.lst ys)) ∧ Dp K (rmv H3 G) (.ref t.1) (stsD t.2.1)) ⟨sG, [], upd_same, rfl, fun t h => nomatch h⟩ (fun t H3 _ ⟨s3, _⟩ => s3.seq (s1T.seq hQ)) ?_ ?_
      · rintro t v H3 ht ⟨s3, TT, hG, eT, hT⟩
        obtain ⟨a, ha, da⟩ := mapD_get qall ht
        have ma := List.mem_of_getElem? ha
        have l5 := okR.five room mroom a ma
        have lw := okR.pair room mroom a ma
        have s13 := s1T.trans s3
        have lT : TT.length ≤ 1000 := by
          have := congrArg List.length eT
          rw [List.length_map, List.length_take] at this
          omega
        have nl := ndL_len (a := a) (L := L) (m := m) fun l hl => by
          obtain ⟨r, hr⟩ := List.mem_iff_getElem?.mp hl
          exact fewL r l hr
        refine ⟨rfl, ?_⟩
        refine ⟨_, rfl, _, rfl, _, rfl, v, .ref ba, b, PB b R j, a, L, R.length, rfl, dp_same (toH.trans s13) da, dp_same (toH.trans s13) hy, lw, oL, ?_, fun l hl => ?_, fun qn H4 qs M s4 nq hq dq can => ?_⟩
        · have : a.length * m ≤ 5 * m := Nat.mul_le_mul_right m l5
          omega
        · obtain ⟨r, hr⟩ := List.mem_iff_getElem?.mp hl
          have := fewL r l hr
          omega
        · have hG4 := s4 _ _ hG
          have nqG : qn ≠ G := (ne_of_none hG nq).symm
          refine ⟨_, hG4, small_line (by rw [List.length_map]; omega), fun b o e => ?_, TT ++ [(qn, M, a)], by rw [upd_same, List.map_append]; rfl, ?_, fun t ht => ?_⟩
          · rw [upd_ne (ne_of_none e nG)]
            exact s4 _ _ (s3 _ _ e)
          · rw [List.map_append, eT, take_snoc ha]
            rfl
          · have kd : Kp G H4 (rmv (upd H4 G (.lst (TT.map (fun t => V.ref t.1) ++ [.ref qn]))) G) := fun b o e n => by rw [rmv_ne n, upd_ne n]; exact e
            have rr : Same (rmv H3 G) (rmv (upd H4 G (.lst (TT.map (fun t => V.ref t.1) ++ [.ref qn]))) G) := rmv_rmv fun b o n e => by rw [upd_ne n]; exact s4 _ _ e
            rcases List.mem_append.mp ht with ht | ht
            · obtain ⟨c1, ⟨ys, c2⟩, c3⟩ := hT t ht
              exact ⟨c1, ⟨ys, rr _ _ c2⟩, dp_same rr c3⟩
            · rw [List.mem_singleton.mp ht]
              exact ⟨can, ⟨qs, kd _ _ hq nqG⟩, .lst (SqL.of (kd _ _ hq nqG)) (dpAll_kp kd hG4 dq (noLAll_map noL_way _))⟩
      · rintro H3 ⟨s3, TT, hG, eT, hT⟩
        rw [lq, List.take_length] at eT
        have toG : Same (rmv H3 G) H3 := rmv_same fun b o _ e => e
        have memT : ∀ t ∈ TT, t.2.2 ∈ room := fun t ht => by
          rw [← eT]
          exact List.mem_map.mpr ⟨t, ht, rfl⟩
        have s13 := s1T.trans s3
        have iR : i < R.length := hi
        refine ⟨PAsk, v2, G, l0, PB b R j i, NdB b (PB b R j), TT, m, rfl, dp_same (toH.trans s13) dl0, SqL.of hG, ?_, fun t ht => ?_, c0, msq, fun as sub => fw.all j jn i iR as (by rw [at_r]; rw [eT] at sub; exact sub), fun v H4 M s4 fr dv can => ?_⟩
        · have := congrArg List.length eT
          rw [List.length_map] at this
          omega
        · obtain ⟨c1, ⟨ys, c2⟩, c3⟩ := hT t ht
          exact ⟨c1, ⟨ys, toG _ _ c2⟩, dp_same toG c3, fw.one j jn i iR _ (by rw [at_r]; exact memT t ht) _ c1⟩
        · have hD3 := s3 _ _ hDT
          have hD4 := s4 _ _ hD3
          have s14 := s13.trans s4
          have hl4 := s14 _ _ hll
          have dv4 : Dp K (rmv (rmv H4 ll) D) v (stsD M) := by
            rcases fr with ⟨rfl, rfl⟩ | ⟨q0, rfl, nq0⟩
            · exact dp_same (rmv_same2 s14 nD) dl0
            · have nl : q0 ≠ ll := (ne_of_none (s13 _ _ hll) nq0).symm
              have nd : q0 ≠ D := (ne_of_none hD3 nq0).symm
              exact sts_rmv (sts_rmv dv hl4 nl) (by rw [rmv_ne nDl]; exact hD4) nd
          refine ⟨_, hD4, small_line (by omega), fun b o e => ?_, ps ++ [v], Ls ++ [M], upd_same, ?_, ?_, fun r l hl => ?_⟩
          · rw [upd_ne (ne_of_none e nD)]
            exact s14 _ _ e
          · have s24 := (sT.trans s3).trans s4
            have rr : Same (rmv (rmv H1 ll) D) (rmv (rmv (upd H4 D (.lst (ps ++ [v]))) ll) D) := rmv_rmv fun b o n e => by
              obtain ⟨n2, e⟩ := rmv_some e
              rw [rmv_ne n2, upd_ne n]
              exact s24 _ _ e
            have rr2 : Same (rmv (rmv H4 ll) D) (rmv (rmv (upd H4 D (.lst (ps ++ [v]))) ll) D) := rmv_rmv fun b o n e => by
              obtain ⟨n2, e⟩ := rmv_some e
              rw [rmv_ne n2, upd_ne n]
              exact e
            exact dpAll_app1 (dpAll_same rr dps) (dp_same rr2 dv4)
          · rw [List.length_append, eLs]
            rfl
          · by_cases hr : r < Ls.length
            · rw [List.getElem?_append_left hr] at hl
              exact cLs r l hl
            · have e : r = Ls.length := by
                have := (List.getElem?_eq_some_iff.mp hl).1
                rw [List.length_append, List.length_singleton] at this
                omega
              subst e
              rw [List.getElem?_append_right (Nat.le_refl _), Nat.sub_self] at hl
              cases hl
              rw [eLs]
              refine can.congr fun x hx => ?_
              rw [eT, ← at_r]
              exact Iff.rfl
    · rintro H1 ⟨s1, ps, Ls, hD, dps, eLs, cLs⟩
      refine q D H1 Ls s1 nD ?_ ⟨eLs, cLs⟩
      exact .lst (SqL.of (by rw [rmv_ne nDl]; exact hD)) (dpAll_same (rmv_same fun b o _ e => e) dps)
end
/-! ### what is found out of a plan: the object -/
def sChart : Stmt := topS 12
def sChInit : Stmt := inClass sChart 0
def sChLeast : Stmt := inClass sChart 1
def sChLasts : Stmt := inClass sChart 5
def sChTold : Stmt := inClass sChart 8
/-- a target that is an attribute -/
def gFld (K : PySem.W.Frag) (ta : TE) (f : Str) : TG := fun v σ H Q => ta σ H fun x H1 => ∃ a C dx fs, x = .ref a ∧ H1 a = some (.ins C dx fs) ∧ L2.Cls K C ∧ NoAttr K C f ∧ fs.length < 1000 ∧ Q σ (upd H1 a (.ins C dx (putF f v fs)))
theorem pg_fld {X : Cx} {o : Expr} {f : Str} {pos : Pos} {ta : TE} (ha : PE X o ta) : PG X (.Attribute o f pos) (gFld X.K ta f) := by
  refine ⟨fun pins s σ H v u Q I r h => ?_⟩
  have e : assign (.Attribute o f pos) X.env u = (do
      let ov ← holding [u] (eval o X.env)
      standAt pos.atName
      holding [u, ov] (setAttr ov f u)
      release [u, ov] []) := rfl
  rw [e]
  refine wpAny_bind (wpAny_holding (thn (ha.run pins s σ H _ I h) fun ov s1 ⟨x, H1, I1, rx, a, C, dx, fs, ex, ea, c, n, l, q⟩ => ?_))
  subst ex
  obtain rfl : ov = Value.ref a := rx
  exact wpAny_bind (wpAny_standAt (wpAny_bind (wpAny_holding (setattr_ok I1 ea c n l r fun s2 I2 => wpAny_release ⟨σ, _, I2, q⟩))))
/-! data that doesn't lean on an object -/
theorem Kp.seqI {K : PySem.W.Frag} {p a C dx : Addr} {H H' : Hp} {fs : List (Str × V)} {xs : List V} (e : Kp p H H') (hp : H p = some (.ins C dx fs)) (h : SqL K H a xs) : SqL K H' a xs := by
  rcases h with (h | ⟨o, h⟩) | h
  · exact .inl (.inl (e _ _ h fun z => by rw [z, hp] at h; cases h))
  · exact .inl (.inr ⟨o, e _ _ h fun z => by rw [z, hp] at h; cases h⟩)
  · exact .inr h
theorem Kp.seqTI {K : PySem.W.Frag} {p a C dx : Addr} {H H' : Hp} {fs : List (Str × V)} {xs : List V} (e : Kp p H H') (hp : H p = some (.ins C dx fs)) (h : SqT K H a xs) : SqT K H' a xs := by
  rcases h with (h | ⟨o, h⟩) | h
  · exact .inl (.inl (e _ _ h fun z => by rw [z, hp] at h; cases h))
  · exact .inl (.inr ⟨o, e _ _ h fun z => by rw [z, hp] at h; cases h⟩)
  · exact .inr h
mutual
theorem dp_ki {K : PySem.W.Frag} {p C dx : Addr} {H H' : Hp} {fs : List (Str × V)} (s : Kp p H H') (hp : H p = some (.ins C dx fs)) : ∀ {v : V} {d : PyData}, Dp K H v d → Dp K H' v d
  | _, _, .non => .non
  | _, _, .bl b => .bl b
  | _, _, .int i => .int i
  | _, _, .str x => .str x
  | _, _, .lst q r => .lst (s.seqI hp q) (dpAll_ki s hp r)
  | _, _, .tup q r => .tup (s.seqTI hp q) (dpAll_ki s hp r)
theorem dpAll_ki {K : PySem.W.Frag} {p C dx : Addr} {H H' : Hp} {fs : List (Str × V)} (s : Kp p H H') (hp : H p = some (.ins C dx fs)) : ∀ {v : List V} {d : List PyData}, DpAll K H v d → DpAll K H' v d
  | _, _, .nil => .nil
  | _, _, .cons q r => .cons (dp_ki s hp q) (dpAll_ki s hp r)
end
/-! two lists of lists alike -/
theorem lv_flat : ∀ L : List (List (List Int)), PyData.depthAll (L.map stsD) ≤ 4 ∧ PyData.canLayAll0 (L.map stsD) = true
  | [] => ⟨Nat.zero_le _, rfl⟩
  | S :: L => by
    obtain ⟨h1, h2⟩ := lv_flat L
    obtain ⟨w1, w2⟩ := sts_flat S
    refine ⟨?_, by simp [PyData.canLayAll0, PyData.canLay0, h2, w2]⟩
    show max (PyData.depth (stsD S)) (PyData.depthAll (L.map stsD)) ≤ 4
    have e : PyData.depth (stsD S) ≤ 4 := by
      simp only [PyData.depth]
      omega
    omega
theorem lvs_flat : ∀ L : List (List (List (List Int))), PyData.depthAll (L.map lvD) ≤ 5 ∧ PyData.canLayAll0 (L.map lvD) = true
  | [] => ⟨Nat.zero_le _, rfl⟩
  | S :: L => by
    obtain ⟨h1, h2⟩ := lvs_flat L
    obtain ⟨w1, w2⟩ := lv_flat S
    refine ⟨?_, by simp [PyData.canLayAll0, PyData.canLay0, h2, w2]⟩
    show max (PyData.depth (lvD S)) (PyData.depthAll (L.map lvD)) ≤ 5
    have e : PyData.depth (lvD S) ≤ 5 := by
      simp only [PyData.depth]
      omega
    omega
theorem lv_shaped (L : List (List (List Int))) : SeqAt.shaped (lvD L) = true := by
  obtain ⟨h1, h2⟩ := lv_flat L
  unfold SeqAt.shaped
  rw [Bool.and_eq_true, decide_eq_true_iff]
  refine ⟨by simp only [PyData.canLay0]; exact h2, ?_⟩
  simp only [PyData.depth]
  omega
theorem lvs_shaped (L : List (List (List (List Int)))) : SeqAt.shaped (.list (L.map lvD)) = true := by
  obtain ⟨h1, h2⟩ := lvs_flat L
  unfold SeqAt.shaped
  rw [Bool.and_eq_true, decide_eq_true_iff]
  refine ⟨by simp only [PyData.canLay0]; exact h2, ?_⟩
  simp only [PyData.depth]
  omega
theorem eqv_lvA : ∀ S T : List (List (List Int)), PyData.eqvAll (S.map stsD) (T.map stsD) = true → S = T
  | [], [], _ => rfl
  | [], _ :: _, h => by simp [PyData.eqvAll] at h
  | _ :: _, [], h => by simp [PyData.eqvAll] at h
  | a :: l, b :: m, h => by
    simp only [List.map_cons, PyData.eqvAll, Bool.and_eq_true] at h
    rw [eqv_sts h.1, eqv_lvA l m h.2]
theorem eqv_lv {S T : List (List (List Int))} (h : PyData.eqv (lvD S) (lvD T) = true) : S = T := eqv_lvA S T (by simpa only [PyData.eqv] using h)
theorem eqv_lvsA : ∀ S T : List (List (List (List Int))), PyData.eqvAll (S.map lvD) (T.map lvD) = true → S = T
  | [], [], _ => rfl
  | [], _ :: _, h => by simp [PyData.eqvAll] at h
  | _ :: _, [], h => by simp [PyData.eqvAll] at h
  | a :: l, b :: m, h => by
    simp only [List.map_cons, PyData.eqvAll, Bool.and_eq_true] at h
    rw [eqv_lv h.1, eqv_lvsA l m h.2]
theorem eqv_lvs {S T : List (List (List (List Int)))} (h : PyData.eqv (.list (S.map lvD)) (.list (T.map lvD)) = true) : S = T := eqv_lvsA S T (by simpa only [PyData.eqv] using h)
/-! ### its state -/
/-- what is there of each chart's class -/
structure ChTxt (K : PySem.W.Frag) (C : Addr) : Prop where
  cl : L2.Cls K C
  nK : NoAttr K C "_kinds"
  nR : NoAttr K C "_rooms"
  nL : NoAttr K C "_lists"
  nB : NoAttr K C "_boxes"
def cf (kd : Nat) (rv : V) (ll bb : Addr) : List (Str × V) := putF "_boxes" (.ref bb) (putF "_lists" (.ref ll) (putF "_rooms" rv (putF "_kinds" (.int (kd : Int)) [])))
theorem cf_get (kd : Nat) (rv : V) (ll bb : Addr) (f : Str) : (cf kd rv ll bb).lookup f = if f = "_boxes" then some (.ref bb) else if f = "_lists" then some (.ref ll) else if f = "_rooms" then some rv else if f = "_kinds" then some (.int (kd : Int)) else none := by
  unfold cf
  rw [lookup_putF, lookup_putF, lookup_putF, lookup_putF]
  rfl
theorem cf_kinds (kd : Nat) (rv : V) (ll bb : Addr) : (cf kd rv ll bb).lookup ("_kinds" : Str) = some (.int (kd : Int)) := by
  rw [cf_get, if_neg (by decide +kernel), if_neg (by decide +kernel), if_neg (by decide +kernel), if_pos rfl]
theorem cf_rooms (kd : Nat) (rv : V) (ll bb : Addr) : (cf kd rv ll bb).lookup ("_rooms" : Str) = some rv := by
  rw [cf_get, if_neg (by decide +kernel), if_neg (by decide +kernel), if_pos rfl]
theorem cf_lists (kd : Nat) (rv : V) (ll bb : Addr) : (cf kd rv ll bb).lookup ("_lists" : Str) = some (.ref ll) := by
  rw [cf_get, if_neg (by decide +kernel), if_pos rfl]
theorem cf_boxes (kd : Nat) (rv : V) (ll bb : Addr) : (cf kd rv ll bb).lookup ("_boxes" : Str) = some (.ref bb) := by
  rw [cf_get, if_pos rfl]
theorem cf_no (kd : Nat) (rv : V) (ll bb : Addr) {f : Str} (h1 : ¬ f = "_boxes") (h2 : ¬ f = "_lists") (h3 : ¬ f = "_rooms") (h4 : ¬ f = "_kinds") : (cf kd rv ll bb).lookup f = none := by
  rw [cf_get, if_neg h1, if_neg h2, if_neg h3, if_neg h4]
structure ChartIn (K : PySem.W.Frag) (C : Addr) (H : Hp) (p dx : Addr) (rv : V) (ll bb : Addr) (kd : Nat) (R : Rooms) (us : List V) (Ls : List (List (List (List Int)))) : Prop where
  hp : H p = some (.ins C dx (cf kd rv ll bb))
  hl : H ll = some (.lst us)
  dl : DpAll K (rmv H ll) us (Ls.map lvD)
  dr : Dp K (rmv H ll) rv (roomsD R)
  one : 1 ≤ Ls.length
  lv : ∀ (j : Nat) (L : List (List (List Int))), Ls[j]? = some L → RowOk R.length (PB none R j) L
theorem ChartIn.np {K : PySem.W.Frag} {C : Addr} {H : Hp} {p dx : Addr} {rv : V} {ll bb : Addr} {kd : Nat} {R : Rooms} {us : List V} {Ls : List (List (List (List Int)))} (c : ChartIn K C H p dx rv ll bb kd R us Ls) : p ≠ ll := by
  intro e
  have := c.hp
  rw [e, c.hl] at this
  cases this
theorem ChartIn.same {K : PySem.W.Frag} {C : Addr} {H H' : Hp} {p dx : Addr} {rv : V} {ll bb : Addr} {kd : Nat} {R : Rooms} {us : List V} {Ls : List (List (List (List Int)))} (c : ChartIn K C H p dx rv ll bb kd R us Ls) (s : Same H H') : ChartIn K C H' p dx rv ll bb kd R us Ls :=
  ⟨s _ _ c.hp, s _ _ c.hl, dpAll_same (rmv_to s) c.dl, dp_same (rmv_to s) c.dr, c.one, c.lv⟩
theorem ChartIn.len {K : PySem.W.Frag} {C : Addr} {H : Hp} {p dx : Addr} {rv : V} {ll bb : Addr} {kd : Nat} {R : Rooms} {us : List V} {Ls : List (List (List (List Int)))} (c : ChartIn K C H p dx rv ll bb kd R us Ls) : us.length = Ls.length := mapD_len c.dl
def spChLeast (K : PySem.W.Frag) (C : Addr) : Sp := fun vs H Q _ => ∃ (p dx : Addr) (rv : V) (ll bb : Addr) (kd : Nat) (R : Rooms) (us : List V) (Ls : List (List (List (List Int)))) (n m : Nat),
  vs = [.ref p, .int (n : Int)] ∧ ChartIn K C H p dx rv ll bb kd R us Ls ∧ RmOk R ∧ FewP none R n m ∧ n ≤ 1000 ∧ Ls.length ≤ 2000 ∧
  ∀ (v : V) (H' : Hp) (us' : List V) (Ls' : List (List (List (List Int)))) (M : List (List (List Int))), Kp ll H H' → ChartIn K C H' p dx rv ll bb kd R us' Ls' → Ls.length ≤ Ls'.length → Ls'.length ≤ max Ls.length (n + 1) → Dp K (rmv H' ll) v (lvD M) → RowOk R.length (PB none R n) M → Q v H'
def standD (r : Nat) (s : List Int) : PyData := .tuple [.int (r : Int), wayD s]
def spChLasts (K : PySem.W.Frag) (C : Addr) : Sp := fun vs H Q _ => ∃ (p dx : Addr) (rv : V) (ll bb : Addr) (kd : Nat) (R : Rooms) (us : List V) (Ls : List (List (List (List Int)))) (n m r : Nat) (y : V) (s : List Int),
  vs = [.ref p, y, .int (n : Int)] ∧ ChartIn K C H p dx rv ll bb kd R us Ls ∧ RmOk R ∧ FewP none R n m ∧ n ≤ 1000 ∧ Ls.length ≤ 2000 ∧ Dp K H y (standD r s) ∧ r < R.length ∧ 1 ≤ s.length ∧ s.length ≤ 4 ∧ (∀ z ∈ s, 0 ≤ z) ∧
  ∀ (b : Bool) (H' : Hp) (us' : List V) (Ls' : List (List (List (List Int)))), Kp ll H H' → ChartIn K C H' p dx rv ll bb kd R us' Ls' → Ls.length ≤ Ls'.length → Ls'.length ≤ max Ls.length (n + 1) → (b = true ↔ PB none R n r (four s)) → Q (.bl b) H'
def spChTold (K : PySem.W.Frag) (C : Addr) : Sp := fun vs H Q _ => ∃ (p dx : Addr) (rv : V) (ll bb : Addr) (kd : Nat) (y : V) (L : List (List (List Int))),
  vs = [.ref p, y] ∧ H p = some (.ins C dx (cf kd rv ll bb)) ∧ Dp K H y (lvD L) ∧ kd ≤ 4 ∧ 1 ≤ kd ∧ L.length ≤ 5000 ∧ (∀ l ∈ L, l.length ≤ 20000 ∧ ∀ t ∈ l, t.length = 4) ∧
  ∀ (q : Addr) (H' : Hp) (as : List Addr), Same H H' → H q = none → H' q = some (.lst (as.map V.ref)) → as.length = L.length → as.Nodup → q ∉ as → (∀ (i : Nat) (a : Addr) (l : List (List Int)), as[i]? = some a → L[i]? = some l → H a = none ∧ ∃ ps, H' a = some (.lst ps) ∧ DpAll K H' ps ((l.map fun x => x.take kd).map wayD)) → Q (.ref q) H'
theorem sIx_m2 (n : Nat) : HT.sIx n 0 (some (-2)) = n - 2 := by
  show (if (-2 : Int) < 0 then ((-2 : Int) + (n : Int)).toNat else min (-2 : Int).toNat n) = n - 2
  rw [if_pos (by decide)]
  omega
theorem cut_last2 {us : List V} : cutV us (some (-2)) none = us.drop (us.length - 2) := by
  unfold cutV
  rw [HT.sIx_none, sIx_m2, List.take_of_length_le (by rw [List.length_drop]; exact Nat.le_refl _)]
theorem dpAll_dropN {K : PySem.W.Frag} {H : Hp} : ∀ {vs : List V} {ds : List PyData} (n : Nat), DpAll K H vs ds → DpAll K H (vs.drop n) (ds.drop n)
  | _, _, 0, h => h
  | _, _, _ + 1, .nil => .nil
  | _, _, n + 1, .cons _ r => by
    rw [List.drop_succ_cons, List.drop_succ_cons]
    exact dpAll_dropN n r
section
variable {P : Program} {w : World} {K : PySem.W.Frag} {mg : Str → Option Value} {base : Heap}
theorem scChLeast : FnScope ["self", "n", "last"] ["self", "n"] (defScope sChLeast) := ⟨rfl, rfl, rfl, by decide +kernel, rfl, by decide +kernel, by decide +kernel⟩
theorem ok_chLeast {f fO C : Addr} {fd fdO : FuncData} {k : Nat} (F : Fun K "least" "Chart.least" sChLeast f fd) (T : ChTxt K C)
    (GO : FnOk P w K mg base CX0 (k + 5) fO fdO ["rooms", "before", "b"] (spOneMore K)) (kO : PySem.W.keepIn K (.ref fO) = true) (bO : Binds K fdO ["rooms", "before", "b"] []) (gO : mg "least_one_more" = some (.ref fO))
    (ml : mg "len" = none) : FnOk P w K mg base CX0 (k + 6) f fd ["self", "n"] (spChLeast K C) := by
  refine F.ok scChLeast (fun vs H Q E h => ?_) (fun cdv A outer s H vs Q E hr h => ?_)
  · obtain ⟨p, dx, rv, ll, bb, kd, R, us, Ls, n, m, rfl, _⟩ := h
    rfl
  · obtain ⟨p, dx, rv, ll, bb, kd, R, us, Ls, n, m, rfl, c, okR, fw, n1, lL, q⟩ := h
    refine ⟨_, pss_cons (ps_while PassesOwn.never (pt_cmpR op_le (pe_callB call_len_seq (by rfl) ml PySem.boot_len (pa_cons (pe_fld (pv 0) rfl) pa_nil)) (pv 1) (nomark _))
      (pss_cons (ps_set (i := 2) scChLeast.nd rfl (.inl rfl) (pe_ix ix_list (pe_fld (pv 0) rfl) (pe_un un_neg pe_int) (fun _ _ => rfl)))
      (pss_cons (ps_if (pt_cmpR (op_eqD hr.units) (pe_slice sl_list (pe_fld (pv 0) rfl) (po_some (pe_un un_neg pe_int)) po_none) (pe_lst (pa_cons (pv 2) (pa_cons (pv 2) pa_nil))) (nomark _)) (pss_one (ps_ret (pv 2))) pss_nil)
      (pss_one (ps_expr (pe_bm PySem.F.plainAttrs_list PySem.F.slot_list_append PySem.F.type_list_append mt_append (pe_fld (pv 0) rfl) (pa_cons (pe_call GO hr (by rfl) gO kO bO .nil pass0 (pa_cons (pe_fld (pv 0) rfl) (pa_cons (pv 2) (pa_cons pe_non pa_nil)))) pa_nil)))))))
      (pss_one (ps_ret (pe_ix ix_list (pe_fld (pv 0) rfl) (pv 1) (fun _ _ => rfl)))), ?_⟩
    refine ⟨fun t σ H1 => ∃ (y2 : Option V) (us1 : List V) (Ls1 : List (List (List (List Int)))), σ = [some (.ref p), some (.int (n : Int)), y2] ∧ Kp ll H H1 ∧ ChartIn K C H1 p dx rv ll bb kd R us1 Ls1 ∧ Ls.length ≤ Ls1.length ∧ Ls1.length ≤ max Ls.length (n + 1) ∧ t = n + 1 - Ls1.length,
      ⟨_, none, us, Ls, rfl, Kp.refl _ _, c, Nat.le_refl _, Nat.le_max_left _ _, rfl⟩, ?_⟩
    rintro t σ H1 ⟨y2, us1, Ls1, rfl, k1, c1, l1, l2, rfl⟩
    have lu := c1.len
    refine ⟨_, rfl, p, C, dx, _, _, rfl, c1.hp, T.cl, T.nL, cf_lists _ _ _ _, ll, us1, rfl, .inl (SqL.of c1.hl), _, rfl, _, (n : Int), rfl, rfl, _, rfl, ?_⟩
    by_cases cn : ¬ (us1.length : Int) ≤ (n : Int)
    · rw [decide_eq_false cn]
      refine ifF rfl ?_
      have nl : n < Ls1.length := by omega
      obtain ⟨vn, hvn, dvn⟩ := mapD_at c1.dl (List.getElem?_eq_getElem nl)
      refine ⟨_, rfl, p, C, dx, _, _, rfl, c1.hp, T.cl, T.nL, cf_lists _ _ _ _, _, rfl, ll, us1, (n : Int), vn, rfl, rfl, SqL.of c1.hl, atI_nat hvn, ?_⟩
      exact q vn H1 us1 Ls1 _ k1 c1 l1 l2 dvn (c1.lv n _ (List.getElem?_eq_getElem nl))
    have cn := Classical.not_not.mp cn
    rw [decide_eq_true cn]
    refine ifT rfl ⟨fun σ' H' => ∃ m', m' < n + 1 - Ls1.length ∧ ∃ (y2 : Option V) (us1 : List V) (Ls1 : List (List (List (List Int)))), σ' = [some (.ref p), some (.int (n : Int)), y2] ∧ Kp ll H H' ∧ ChartIn K C H' p dx rv ll bb kd R us1 Ls1 ∧ Ls.length ≤ Ls1.length ∧ Ls1.length ≤ max Ls.length (n + 1) ∧ m' = n + 1 - Ls1.length, fun _ _ z => z, ?_⟩
    -- the last one
    obtain ⟨Us, Lz, eLs⟩ : ∃ Us Lz, Ls1 = Us ++ [Lz] := ⟨Ls1.dropLast, Ls1.getLast (by intro z; have := c1.one; rw [z] at this; simp at this), (List.dropLast_concat_getLast _).symm⟩
    have lUs : Ls1.length = Us.length + 1 := by rw [eLs]; simp
    have tL : Ls1[Us.length]? = some Lz := by rw [eLs]; simp
    obtain ⟨vz, hvz, dvz⟩ := mapD_at c1.dl tL
    obtain ⟨ws, eus⟩ : ∃ ws, us1 = ws ++ [vz] := by
      refine ⟨us1.take Us.length, ?_⟩
      have e := take_snoc hvz
      rw [List.take_of_length_le (by omega)] at e
      exact e
    have atz : atI us1 (-1) = some vz := by
      rw [eus]
      exact atI_last _ _
    have rz := c1.lv _ _ tL
    refine ⟨_, rfl, p, C, dx, _, _, rfl, c1.hp, T.cl, T.nL, cf_lists _ _ _ _, 1, rfl, ll, us1, _, vz, rfl, rfl, SqL.of c1.hl, atz, ?_⟩
    have toL : Same (rmv H1 ll) H1 := rmv_same fun b o _ e => e
    have dz1 := dp_same toL dvz
    -- if self._lists[-2:] == [last, last]
    refine ⟨_, rfl, p, C, dx, _, _, rfl, c1.hp, T.cl, T.nL, cf_lists _ _ _ _, 2, rfl, _, rfl, ll, us1, rfl, SqL.of c1.hl, fun S nS => ?_⟩
    have sS := same_upd (o := .lst (cutV us1 (some (-2)) none)) nS
    refine ⟨_, rfl, _, rfl, by show 2 ≤ sizeLine; decide, fun S2 nS2 => ?_⟩
    have sS2 := same_upd (o := .lst [vz, vz]) nS2
    have s02 := sS.trans sS2
    have nS' : ll ≠ S := ne_of_none c1.hl nS
    have nS2' : ll ≠ S2 := ne_of_none (sS _ _ c1.hl) nS2
    have dS : Dp K (upd (upd H1 S (.lst (cutV us1 (some (-2)) none))) S2 (.lst [vz, vz])) (.ref S) (.list ((Ls1.drop (Ls1.length - 2)).map lvD)) := by
      refine .lst (SqL.of (sS2 _ _ upd_same)) ?_
      have e1 : us1.drop (Ls1.length - 2) = cutV us1 (some (-2)) none := by rw [cut_last2, lu]
      have z := dpAll_dropN (Ls1.length - 2) (dpAll_same (toL.trans s02) c1.dl)
      rw [e1] at z
      rw [List.map_drop]
      exact z
    have dz2 := dp_same s02 dz1
    have dS2 : Dp K (upd (upd H1 S (.lst (cutV us1 (some (-2)) none))) S2 (.lst [vz, vz])) (.ref S2) (.list ([Lz, Lz].map lvD)) := .lst (SqL.of upd_same) (.cons dz2 (.cons dz2 .nil))
    refine ⟨_, _, dS, dS2, lvs_shaped _, lvs_shaped _, _, rfl, ite2 (fun ee => ?_) fun _ => ?_⟩
    · have e := eqv_lvs ee
      have l2' : 2 ≤ Ls1.length := by
        have := congrArg List.length e
        rw [List.length_drop] at this
        simp only [List.length_cons, List.length_nil] at this
        omega
      have tL2 : Ls1[Us.length - 1]? = some Lz := by
        have h0 : (Ls1.drop (Ls1.length - 2))[0]? = some Lz := by rw [e]; rfl
        rw [List.getElem?_drop] at h0
        rw [← h0, show Us.length - 1 = Ls1.length - 2 + 0 by omega]
      have r1 := c1.lv _ _ tL2
      have r2 : RowOk R.length (PB none R (Us.length - 1 + 1)) Lz := by
        rw [show Us.length - 1 + 1 = Us.length by omega]
        exact rz
      have rn := RowOk.rest r1 r2 (n - (Us.length - 1))
      rw [show Us.length - 1 + (n - (Us.length - 1)) = n by omega] at rn
      exact ⟨_, rfl, q vz _ us1 Ls1 Lz (k1.same s02) (c1.same s02) l1 l2 (dp_same (rmv_to s02) dvz) rn⟩
    · -- self._lists.append(least_one_more(self._rooms, last, None))
      have c2 := c1.same s02
      have lUn : Us.length < n := by omega
      refine ⟨_, rfl, p, C, dx, _, _, rfl, c2.hp, T.cl, T.nL, cf_lists _ _ _ _, .inl ⟨rfl, _, SqL.of c2.hl⟩, ?_⟩
      refine ⟨_, rfl, p, C, dx, _, _, rfl, c2.hp, T.cl, T.nR, cf_rooms _ _ _ _, _, rfl, ?_⟩
      refine ⟨rv, vz, none, R, Lz, Us.length, n, m, ll, us1, rfl, c2.hl, c2.dr, dp_same (rmv_to s02) dvz, okR, rz, fw, lUn, fun qn H3 M s3 nq dM rM => ?_⟩
      have c3 := c2.same s3
      have nql : qn ≠ ll := (ne_of_none c2.hl nq).symm
      refine ⟨ll, us1, _, rfl, rfl, c3.hl, small_line (by omega), ?_⟩
      refine ⟨n + 1 - (Ls1 ++ [M]).length, by rw [List.length_append, List.length_singleton]; omega, _, us1 ++ [.ref qn], Ls1 ++ [M], rfl, ?_, ⟨?_, upd_same, ?_, ?_, ?_, fun j L hj => ?_⟩, ?_, ?_, rfl⟩
      · exact (k1.same (s02.trans s3)).trans (kp_upd ll H3 _)
      · rw [upd_ne c3.np]
        exact c3.hp
      · rw [List.map_append]
        have rr : Same (rmv H3 ll) (rmv (upd H3 ll (.lst (us1 ++ [.ref qn]))) ll) := rmv_rmv fun b o n e => by rw [upd_ne n]; exact e
        exact dpAll_same rr (dpAll_app c3.dl (.cons dM .nil))
      · have rr : Same (rmv H3 ll) (rmv (upd H3 ll (.lst (us1 ++ [.ref qn]))) ll) := rmv_rmv fun b o n e => by rw [upd_ne n]; exact e
        exact dp_same rr c3.dr
      · rw [List.length_append]
        exact Nat.le_trans c1.one (Nat.le_add_right _ _)
      · by_cases hr : j < Ls1.length
        · rw [List.getElem?_append_left hr] at hj
          exact c1.lv j L hj
        · have e : j = Ls1.length := by
            have := (List.getElem?_eq_some_iff.mp hj).1
            rw [List.length_append, List.length_singleton] at this
            omega
          subst e
          rw [List.getElem?_append_right (Nat.le_refl _), Nat.sub_self] at hj
          cases hj
          rw [lUs]
          exact rM
      · rw [List.length_append]
        exact Nat.le_trans l1 (Nat.le_add_right _ _)
      · rw [List.length_append, List.length_singleton]
        omega
end
section
variable {P : Program} {w : World} {K : PySem.W.Frag} {mg : Str → Option Value} {base : Heap}
theorem scChLasts : FnScope ["self", "stand", "n", "room", "store", "there", "number"] ["self", "stand", "n"] (defScope sChLasts) := ⟨rfl, rfl, rfl, by decide +kernel, rfl, by decide +kernel, by decide +kernel⟩
theorem ok_chLasts {f fL fI fC C : Addr} {fd fdL fdI fdC : FuncData} {k : Nat} (F : Fun K "lasts" "Chart.lasts" sChLasts f fd) (T : ChTxt K C)
    (GL : FnOk P w K mg base CX0 (k + 6) fL fdL ["self", "n"] (spChLeast K C)) (mL : Meth K C "least" fL) (bL : Binds K fdL ["self", "n"] [])
    (GI : FnOk P w K mg base CX0 (k + 6) fI fdI ["numbers"] (spInFour K)) (kI : PySem.W.keepIn K (.ref fI) = true) (bI : Binds K fdI ["numbers"] []) (gI : mg "in_four" = some (.ref fI))
    (GC : FnOk P w K mg base CX0 (k + 6) fC fdC ["store", "stores"] (spCovOne K)) (kC : PySem.W.keepIn K (.ref fC) = true) (bC : Binds K fdC ["store", "stores"] []) (gC : mg "covers_one" = some (.ref fC))
    (ml : mg "len" = none) (mr : mg "range" = none) (mm : mg "min" = none) : FnOk P w K mg base CX0 (k + 7) f fd ["self", "stand", "n"] (spChLasts K C) := by
  refine F.ok scChLasts (fun vs H Q E h => ?_) (fun cdv A outer s0 H vs Q E hr h => ?_)
  · obtain ⟨p, dx, rv, ll, bb, kd, R, us, Ls, n, m, r, y, s, rfl, _⟩ := h
    rfl
  · obtain ⟨p, dx, rv, ll, bb, kd, R, us, Ls, n, m, r, y, s, rfl, c, okR, fw, n1, lL, dy, rR, s1, s4, sp0, q⟩ := h
    refine ⟨_, pss_cons (ps_asg (pv 1) (pg_tup (by rfl) (pgs_cons (pg_name (i := 3) scChLasts.nd rfl (.inl rfl)) (pgs_cons (pg_name (i := 4) scChLasts.nd rfl (.inl rfl)) pgs_nil))))
      (pss_cons (ps_set (i := 5) scChLasts.nd rfl (.inl rfl) (pe_call GI hr (by rfl) gI kI bI .nil pass0 (pa_cons (pv 4) pa_nil)))
      (pss_cons (ps_for PassesOwn.never rfl (pi_range2 (by rfl) mr (pa_cons (pe_callB (call_min2 rfl) (by rfl) mm (by decide +kernel) (pa_cons (pv 2) (pa_cons (pe_op op_sub (pe_callB call_len_seq (by rfl) ml PySem.boot_len (pa_cons (pe_fld (pv 0) rfl) pa_nil)) pe_int) pa_nil))) (pa_cons (pe_op op_add (pv 2) pe_int) pa_nil))) (pg_name (i := 6) scChLasts.nd rfl (.inl rfl))
        (pss_one (ps_if (pt_not (pt_val (pe_call GC hr (by rfl) gC kC bC .nil pass0 (pa_cons (pv 5) (pa_cons (pe_ix ix_list (pe_meth (pv 0) T.cl mL GL hr bL .nil pass0 (pa_cons (pv 6) pa_nil)) (pv 3) (fun _ _ => rfl)) pa_nil))))) (pss_one (ps_ret pe_bl)) pss_nil)))
      (pss_one (ps_ret pe_bl)))), ?_⟩
    cases dy with
    | @tup ya yvs _ hY yall =>
    cases yall with
    | @cons v1 _ _ _ d1 r1 =>
    cases r1 with
    | @cons v2 _ _ _ d2 r2 =>
    cases r2
    cases d1
    have lu := c.len
    have c1 := c.one
    refine ⟨_, rfl, ya, _, rfl, hY, rfl, _, _, rfl, _, _, rfl, rfl, ?_⟩
    refine ⟨_, rfl, v2, s, rfl, d2, s1, s4, fun tv H1 sm1 dT => ?_⟩
    have ok := four_ok s1 s4 sp0
    have cc := c.same sm1
    refine ⟨_, rfl, _, rfl, p, C, dx, _, _, rfl, cc.hp, T.cl, T.nL, cf_lists _ _ _ _, ll, us, rfl, .inl (SqL.of cc.hl), _, _, rfl, rfl, _, _, rfl, ?_⟩
    -- the least of both
    obtain ⟨lo, elo, lon⟩ : ∃ lo : Nat, (if (us.length : Int) - 1 < (n : Int) then (us.length : Int) - 1 else (n : Int)) = (lo : Int) ∧ lo ≤ n := by
      by_cases h : (us.length : Int) - 1 < (n : Int)
      · exact ⟨us.length - 1, by rw [if_pos h]; omega, by omega⟩
      · exact ⟨n, by rw [if_neg h], Nat.le_refl _⟩
    rw [elo]
    refine ⟨_, rfl, _, _, rfl, rfl, _, _, rfl, ⟨by omega, by omega, by omega, by omega⟩, ?_⟩
    rw [show ((n : Int) + 1 - (lo : Int)).toNat = n + 1 - lo by omega]
    refine for_range (lo := (lo : Int)) (n := n + 1 - lo) (fun j σ H2 => ∃ (y6 : Option V) (us2 : List V) (Ls2 : List (List (List (List Int)))), σ = [some (.ref p), some (.ref ya), some (.int (n : Int)), some (.int (r : Int)), some v2, some tv, y6] ∧ Kp ll H1 H2 ∧ ChartIn K C H2 p dx rv ll bb kd R us2 Ls2 ∧ Ls.length ≤ Ls2.length ∧ Ls2.length ≤ max Ls.length (n + 1) ∧ (j = 0 ∨ PB none R (lo + j - 1) r (four s)))
      ⟨none, us, Ls, rfl, Kp.refl _ _, cc, Nat.le_refl _, Nat.le_max_left _ _, .inl rfl⟩ ?_ ?_
    · rintro j σ H2 hj ⟨y6, us2, Ls2, rfl, k2, c2, l1, l2, pj⟩
      have tvD : Dp K H2 tv (wayD (four s)) := dp_kp k2 cc.hl dT (noL_way _)
      have le1 : lo + j ≤ n := by omega
      refine ⟨_, rfl, _, rfl, ?_⟩
      refine ⟨p, dx, _, rfl, c2.hp, cf_no _ _ _ _ (by decide +kernel) (by decide +kernel) (by decide +kernel) (by decide +kernel), _, rfl, ?_⟩
      refine ⟨p, dx, rv, ll, bb, kd, R, us2, Ls2, lo + j, m, by rw [Int.natCast_add]; rfl, c2, okR, ⟨fw.sq, fw.fv, fun i hi => fw.all i (by omega), fun i hi => fw.one i (by omega)⟩, by omega, by omega, fun v H3 us3 Ls3 M k3 c3 l3 l4 dv rM => ?_⟩
      obtain ⟨l, hl, can⟩ := rM.at rR
      obtain ⟨va, vvs, rfl, hV0, vall⟩ := lst_of dv
      have toL : Same (rmv H3 ll) H3 := rmv_same fun b o _ e => e
      obtain ⟨lv, hlv, dlv⟩ := mapD_at vall hl
      have tvD3 : Dp K H3 tv (wayD (four s)) := dp_kp k3 c2.hl tvD (noL_way _)
      refine ⟨_, rfl, va, vvs, (r : Int), lv, rfl, rfl, toL.seq hV0, atI_nat hlv, ?_⟩
      refine ⟨tv, lv, four s, l, rfl, tvD3, dp_same toL dlv, ok4_len ok, fun t ht => ok4_len (can.ok t ht), fun H4 s4' => ?_⟩
      have up := (can.up _ ok).symm.trans anyLe_iff.symm
      refine ⟨_, rfl, ?_⟩
      have c4 := c3.same s4'
      have kk : Kp ll H H4 := (sm1.kp.trans (k2.trans k3)).same s4'
      have l5 : Ls3.length ≤ max Ls.length (n + 1) := by omega
      cases cv : anyLe (four s) l with
      | false =>
        rw [cv] at up
        refine ifT rfl (q false H4 us3 Ls3 kk c4 (by omega) l5 ⟨fun z => Bool.noConfusion z, fun z => ?_⟩)
        exact absurd (up.mp (z.le le1)) (by decide)
      | true =>
        rw [cv] at up
        refine ifF rfl ⟨_, us3, Ls3, rfl, (k2.trans k3).same s4', c4, by omega, l5, .inr ?_⟩
        rw [show lo + (j + 1) - 1 = lo + j by omega]
        exact up.mpr rfl
    · rintro σ H2 ⟨y6, us2, Ls2, rfl, k2, c2, l1, l2, pj⟩
      refine q true H2 us2 Ls2 (sm1.kp.trans k2) c2 l1 l2 ⟨fun _ => ?_, fun _ => rfl⟩
      rcases pj with z | z
      · omega
      · rw [show lo + (n + 1 - lo) - 1 = n by omega] at z
        exact z
end
section
variable {P : Program} {w : World} {K : PySem.W.Frag} {mg : Str → Option Value} {base : Heap}
theorem scChTold : FnScope ["self", "lists", "stores", "store"] ["self", "lists"] (defScope sChTold) := ⟨rfl, rfl, rfl, by decide +kernel, rfl, by decide +kernel, by decide +kernel⟩
theorem ok_chTold {f C : Addr} {fd : FuncData} {k : Nat} (F : Fun K "told" "Chart.told" sChTold f fd) (T : ChTxt K C) : FnOk P w K mg base CX0 (k + 1) f fd ["self", "lists"] (spChTold K C) := by
  refine F.ok scChTold (fun vs H Q E h => ?_) (fun cdv A outer s0 H vs Q E hr h => ?_)
  · obtain ⟨p, dx, rv, ll, bb, kd, y, L, rfl, _⟩ := h
    rfl
  · obtain ⟨p, dx, rv, ll, bb, kd, y, L, rfl, hp, dy, k4, k1, lL, okL, q⟩ := h
    refine ⟨_, pss_one (ps_ret (pe_lc (own := [("stores", 2)]) (g := gName 2) (tt := tYes) (te := tLc (iList K (tVar 2)) (gName 3) tYes (tSl (rSlA K) (tVar 3) tNoPart (tPart (tFld K (tVar 0) "_kinds"))) [3]) rfl scChTold.nd (pi_list (pv 1))
        (blkOk_by (N := ["self", "lists", "stores", "store"]) (sc := defScope sChTold) (by decide +kernel))
        (fun _ _ _ _ _ => by exact pg_name (i := 2) scChTold.nd rfl (.inl rfl)) (fun _ _ _ _ _ => pts_nil)
        (fun _ _ _ _ _ => by exact (by
          refine pe_lc (wi := iList K (tVar 2)) (own := [("store", 3)]) (g := gName 3) (tt := tYes) (te := tSl (rSlA K) (tVar 3) tNoPart (tPart (tFld K (tVar 0) "_kinds"))) ?_ ?_ ?_ ?_ ?_ ?_ ?_
          · rfl
          · exact scChTold.nd
          · exact pi_list (pv 2)
          · exact blkOk_by (N := ["self", "lists", "stores", "store"]) (sc := lcSc [(".0", .local), ("stores", .local), ("self", .cell)]) (by decide +kernel)
          · exact fun _ _ _ _ _ => by exact pg_name (i := 3) scChTold.nd rfl (.inl rfl)
          · exact fun _ _ _ _ _ => pts_nil
          · exact fun _ _ _ _ _ => by exact pe_slice (r := rSlA K) sl_tupA (pv 3) po_none (po_some (pe_fld (pv 0) rfl)))))), ?_⟩
    obtain ⟨ya, yvs, rfl, hY, yall⟩ := lst_of dy
    have ly := mapD_len yall
    refine ⟨_, rfl, ya, rfl, ⟨_, hY⟩, fun D nD => ?_⟩
    have sD := same_upd (o := .lst []) nD
    refine lc_list (K := K) (a := ya) (xs := yvs) (fun j H1 => Same H H1 ∧ ∃ as : List Addr, H1 D = some (.lst (as.map V.ref)) ∧ as.length = j ∧ as.Nodup ∧ D ∉ as ∧ ∀ (i : Nat) (a : Addr) (l : List (List Int)), as[i]? = some a → L[i]? = some l → H a = none ∧ ∃ ps, H1 a = some (.lst ps) ∧ DpAll K H1 ps ((l.map fun x => x.take kd).map wayD))
      ⟨sD, [], upd_same, rfl, List.nodup_nil, List.not_mem_nil, fun i a l h => nomatch h⟩ (fun j H1 _ ⟨s1, _⟩ => s1.seq hY) ?_ ?_
    · rintro j v H1 hj ⟨s1, as, hD, las, nd, nDa, all⟩
      obtain ⟨l, hl, dl⟩ := mapD_get yall hj
      have jl := (List.getElem?_eq_some_iff.mp hl).1
      obtain ⟨l20, l4⟩ := okL l (List.mem_of_getElem? hl)
      obtain ⟨la, lvs, rfl, hl0, lall⟩ := lst_of dl
      have ll := mapD_len lall
      refine ⟨rfl, ?_⟩
      refine ⟨_, rfl, la, rfl, ⟨_, s1.seq hl0⟩, fun G nG => ?_⟩
      have sG := same_upd (o := .lst []) nG
      have nGH := s1.free nG
      have nDG : D ≠ G := ne_of_none hD nG
      refine lc_list (K := K) (a := la) (xs := lvs) (fun t H3 => Same H1 H3 ∧ ∃ ps, H3 G = some (.lst ps) ∧ DpAll K H3 ps (((l.take t).map fun x => x.take kd).map wayD)) ⟨sG, [], upd_same, .nil⟩ (fun j H3 _ ⟨s3, _⟩ => s3.seq (s1.seq hl0)) ?_ ?_
      · rintro t v H3 ht ⟨s3, ps, hG, dps⟩
        obtain ⟨u, hu, du⟩ := sts_get lall ht
        obtain ⟨ta, rfl, hT⟩ := way_of du
        have u4 := l4 u (List.mem_of_getElem? hu)
        have lp := sts_len dps
        simp only [List.length_map, List.length_take] at lp
        have s13 := s1.trans s3
        refine ⟨rfl, ?_⟩
        have fin : ∀ (b : Addr) (H4 : Hp), Same H3 H4 → SqT K H4 b ((u.take kd).map V.int) → ∃ acc, H4 G = some (.lst acc) ∧ acc.length < sizeLine ∧ (Same H1 (upd H4 G (.lst (acc ++ [.ref b]))) ∧ ∃ ps, upd H4 G (.lst (acc ++ [.ref b])) G = some (.lst ps) ∧ DpAll K (upd H4 G (.lst (acc ++ [.ref b]))) ps (((l.take (t + 1)).map fun x => x.take kd).map wayD)) := fun b H4 s4 hb => by
          refine ⟨ps, s4 _ _ hG, small_line (by omega), fun b o e => ?_, ps ++ [.ref b], upd_same, ?_⟩
          · rw [upd_ne (ne_of_none e nG)]
            exact s4 _ _ (s3 _ _ e)
          · rw [take_snoc hu, List.map_append, List.map_append]
            exact dpAll_put (s4 _ _ hG) (dpAll_app (dpAll_same s4 dps) (.cons (of_way hb) .nil)) (noL_app _ [u.take kd])
        refine ⟨_, rfl, _, rfl, p, C, dx, _, _, rfl, s13 _ _ hp, T.cl, T.nK, cf_kinds _ _ _ _, ?_⟩
        refine ⟨kd, rfl, ta, _, rfl, s13.seqT hT, fun c => ?_, fun c p np => ?_⟩
        · refine fin ta H3 (Same.refl _) ?_
          have e : kd = 4 := by
            have c2 := c.2
            rw [show HT.sIx (u.map V.int).length (u.map V.int).length (some (kd : Int)) = min kd (u.map V.int).length from HT.sIx_nat _ _ kd, List.length_map, u4] at c2
            omega
          rw [e, List.take_of_length_le (by omega)]
          exact s13.seqT hT
        · refine fin p _ (same_upd np) ?_
          rw [cut_take (by omega)]
          exact SqT.of upd_same
      · rintro H3 ⟨s3, ps, hG, dps⟩
        rw [ll, List.take_length] at dps
        have hD3 := s3 _ _ hD
        have nGa : G ∉ as := fun h => by
          obtain ⟨i, hi⟩ := List.mem_iff_getElem?.mp h
          have il := (List.getElem?_eq_some_iff.mp hi).1
          obtain ⟨_, ps0, e0, _⟩ := all i G _ hi (List.getElem?_eq_getElem (by omega : i < L.length))
          rw [e0] at nG
          cases nG
        refine ⟨as.map V.ref, hD3, small_line (by rw [List.length_map]; omega), fun b o e => ?_, as ++ [G], by rw [upd_same, List.map_append]; rfl, by rw [List.length_append, las]; rfl, ?_, ?_, fun i a l' hi hl' => ?_⟩
        · rw [upd_ne (ne_of_none e nD)]
          exact s3 _ _ (s1 _ _ e)
        · refine List.nodup_append.mpr ⟨nd, by simp, fun a ha b hb => ?_⟩
          rw [List.mem_singleton.mp hb]
          exact fun z => nGa (z ▸ ha)
        · intro h
          rcases List.mem_append.mp h with h | h
          · exact nDa h
          · exact nDG (List.mem_singleton.mp h)
        · have nl : ∀ l : List (List Int), noLAll ((l.map fun x => x.take kd).map wayD) = true := fun l => noLAll_map noL_way _
          by_cases hr : i < as.length
          · rw [List.getElem?_append_left hr] at hi
            obtain ⟨n0, ps0, e0, d0⟩ := all i a l' hi hl'
            have nDa' : a ≠ D := fun z => nDa (z ▸ List.mem_of_getElem? hi)
            exact ⟨n0, ps0, by rw [upd_ne nDa']; exact s3 _ _ e0, dpAll_put hD3 (dpAll_same s3 d0) (nl l')⟩
          · have e : i = as.length := by
              have := (List.getElem?_eq_some_iff.mp hi).1
              rw [List.length_append, List.length_singleton] at this
              omega
            subst e
            rw [List.getElem?_append_right (Nat.le_refl _), Nat.sub_self] at hi
            cases hi
            rw [las, hl] at hl'
            cases hl'
            exact ⟨nGH, ps, by rw [upd_ne nDG.symm]; exact hG, dpAll_put hD3 dps (nl l)⟩
    · rintro H1 ⟨s1, as, hD, las, nd, nDa, all⟩
      exact q D H1 as s1 nD hD (by omega) nd nDa all
end
/-! ### a plan as it is handed in -/
def askT (a : PAsk) : PyData := .tuple (a.map pairP)
def roomT (r : List PAsk) : PyData := .tuple (r.map askT)
def planD (kd : Nat) (P : Rooms) : PyData := .tuple [.int (kd : Int), .tuple (P.map roomT)]
def ask4 (a : PAsk) : PAsk := a.map fun q => (four q.1, q.2)
def R4 (P : Rooms) : Rooms := P.map fun r => r.map ask4
structure PlOk (P : Rooms) (kd : Nat) : Prop where
  k1 : 1 ≤ kd
  k4 : kd ≤ 4
  one : 1 ≤ P.length
  few : P.length ≤ 100
  asks : ∀ l ∈ P, l.length ≤ 1000
  five : ∀ l ∈ P, ∀ a ∈ l, a.length ≤ 5
  pair : ∀ l ∈ P, ∀ a ∈ l, ∀ p ∈ a, p.1.length = kd ∧ p.2 < P.length
theorem PlOk.rooms {P : Rooms} {kd : Nat} (o : PlOk P kd) : RmOk (R4 P) := by
  have k4 := o.k4
  have few := o.few
  have e : (R4 P).length = P.length := List.length_map ..
  refine ⟨by omega, fun l hl => ?_, fun l hl a ha => ?_, fun l hl a ha p hp => ?_⟩
  · obtain ⟨l0, h0, rfl⟩ := List.mem_map.mp hl
    rw [List.length_map]
    exact o.asks l0 h0
  · obtain ⟨l0, h0, rfl⟩ := List.mem_map.mp hl
    obtain ⟨a0, h1, rfl⟩ := List.mem_map.mp ha
    unfold ask4
    rw [List.length_map]
    exact o.five l0 h0 a0 h1
  · obtain ⟨l0, h0, rfl⟩ := List.mem_map.mp hl
    obtain ⟨a0, h1, rfl⟩ := List.mem_map.mp ha
    obtain ⟨p0, h2, rfl⟩ := List.mem_map.mp hp
    obtain ⟨e1, e2⟩ := o.pair l0 h0 a0 h1 p0 h2
    exact ⟨four_len (by omega), by rw [e]; exact e2⟩
def zeroL (n : Nat) : List (List (List Int)) := List.replicate n [[0, 0, 0, 0]]
theorem zeroL_ok (R : Rooms) : RowOk R.length (PB none R 0) (zeroL R.length) := by
  refine ⟨List.length_replicate, fun r l hl => ?_⟩
  have e := List.eq_of_mem_replicate (List.mem_of_getElem? hl)
  rw [e]
  exact (canon_zero []).congr fun x hx => ⟨fun _ => True.intro, fun _ => True.intro⟩
def spChInit (K : PySem.W.Frag) (C : Addr) : Sp := fun vs H Q _ => ∃ (p dx : Addr) (y : V) (P : Rooms) (kd : Nat), vs = [.ref p, y] ∧ H p = some (.ins C dx []) ∧ Dp K H y (planD kd P) ∧ PlOk P kd ∧
  ∀ (H' : Hp) (rv : V) (ll bb : Addr) (us : List V), Kp p H H' → H ll = none → H bb = none → H' bb = some (.dK []) → ChartIn K C H' p dx rv ll bb kd (R4 P) us [zeroL P.length] → Q .non H'
section
variable {P : Program} {w : World} {K : PySem.W.Frag} {mg : Str → Option Value} {base : Heap}
theorem scChInit : FnScope ["self", "plan", "rooms", "room", "ask", "way", "to", "_"] ["self", "plan"] (defScope sChInit) := ⟨rfl, rfl, rfl, by decide +kernel, rfl, by decide +kernel, by decide +kernel⟩
theorem ok_chInit {f fI C an : Addr} {fd fdI : FuncData} {k : Nat} (F : Fun K "__init__" "Chart.__init__" sChInit f fd) (T : ChTxt K C)
    (GI : FnOk P w K mg base CX0 (k + 1) fI fdI ["numbers"] (spInFour K)) (kI : PySem.W.keepIn K (.ref fI) = true) (bI : Binds K fdI ["numbers"] []) (gI : mg "in_four" = some (.ref fI))
    (gN : mg "NOTHING" = some (.ref an)) (hN : ∀ H : Hp, Dp K H (.ref an) (wayD [0, 0, 0, 0])) : FnOk P w K mg base CX0 (k + 2) f fd ["self", "plan"] (spChInit K C) := by
  refine F.ok scChInit (fun vs H Q E h => ?_) (fun cdv A outer s0 H vs Q E hr h => ?_)
  · obtain ⟨p, dx, y, P, kd, rfl, _⟩ := h
    rfl
  · obtain ⟨p, dx, y, P, kd, rfl, hp, dy, o, q⟩ := h
    refine ⟨_, pss_cons (ps_asg (pv 1) (pg_tup (by rfl) (pgs_cons (pg_fld (pv 0)) (pgs_cons (pg_name (i := 2) scChInit.nd rfl (.inl rfl)) pgs_nil))))
      (pss_cons (ps_fld (pv 0) (pe_lc (own := [("room", 3)]) (g := gName 3) (tt := tYes) (te := tLc (iTup K (tVar 3)) (gName 4) tYes (tLc (iTup K (tVar 4)) (gTup K 2 (gCons (gName 5) (gCons (gName 6) gNil))) tYes (tTup (tCons (tCall (spInFour K) [] E0 (tCons (tVar 5) tNil)) (tCons (tVar 6) tNil))) [5, 6]) [4]) rfl scChInit.nd (pi_tup (pv 2))
          (blkOk_by (N := ["self", "plan", "rooms", "room", "ask", "way", "to", "_"]) (sc := defScope sChInit) (by decide +kernel))
          (fun _ _ _ _ _ => by exact pg_name (i := 3) scChInit.nd rfl (.inl rfl)) (fun _ _ _ _ _ => pts_nil)
          (fun _ _ _ _ _ => by exact (by
            refine pe_lc (wi := iTup K (tVar 3)) (own := [("ask", 4)]) (g := gName 4) (tt := tYes) (te := tLc (iTup K (tVar 4)) (gTup K 2 (gCons (gName 5) (gCons (gName 6) gNil))) tYes (tTup (tCons (tCall (spInFour K) [] E0 (tCons (tVar 5) tNil)) (tCons (tVar 6) tNil))) [5, 6]) ?_ ?_ ?_ ?_ ?_ ?_ ?_
            · rfl
            · exact scChInit.nd
            · exact pi_tup (pv 3)
            · exact blkOk_by (N := ["self", "plan", "rooms", "room", "ask", "way", "to", "_"]) (sc := lcSc [(".0", .local), ("room", .local)]) (by decide +kernel)
            · exact fun _ _ _ _ _ => by exact pg_name (i := 4) scChInit.nd rfl (.inl rfl)
            · exact fun _ _ _ _ _ => pts_nil
            · intro _ _ _ _ _
              refine pe_lc (wi := iTup K (tVar 4)) (own := [("way", 5), ("to", 6)]) (g := gTup K 2 (gCons (gName 5) (gCons (gName 6) gNil))) (tt := tYes) (te := tTup (tCons (tCall (spInFour K) [] E0 (tCons (tVar 5) tNil)) (tCons (tVar 6) tNil))) ?_ ?_ ?_ ?_ ?_ ?_ ?_
              · rfl
              · exact scChInit.nd
              · exact pi_tup (pv 4)
              · exact blkOk_by (N := ["self", "plan", "rooms", "room", "ask", "way", "to", "_"]) (sc := lcSc [(".0", .local), ("ask", .local)]) (by decide +kernel)
              · exact fun _ _ _ _ _ => by refine pg_tup rfl (pgs_cons ?_ (pgs_cons ?_ pgs_nil)); exact pg_name (i := 5) scChInit.nd rfl (.inl rfl); exact pg_name (i := 6) scChInit.nd rfl (.inl rfl)
              · exact fun _ _ _ _ _ => pts_nil
              · exact fun _ _ _ _ _ => by exact pe_tup (pa_cons (pe_call GI hr (by rfl) gI kI bI .nil pass0 (pa_cons (pv 5) pa_nil)) (pa_cons (pv 6) pa_nil))))) rfl)
      (pss_cons (ps_fld (pv 0) (pe_lst (pa_cons (pe_lc (own := [("_", 7)]) (g := gName 7) (tt := tYes) (te := tLst (tCons (tC (.ref an)) tNil)) rfl scChInit.nd (pi_tup (pv 2))
          (blkOk_by (N := ["self", "plan", "rooms", "room", "ask", "way", "to", "_"]) (sc := defScope sChInit) (by decide +kernel))
          (fun _ _ _ _ _ => by exact pg_name (i := 7) scChInit.nd rfl (.inl rfl)) (fun _ _ _ _ _ => pts_nil)
          (fun _ _ _ _ _ => by exact pe_lst (pa_cons (pe_glob (v := .ref an) (by rfl) gN rfl) pa_nil))) pa_nil)) rfl)
      (pss_one (ps_fld (pv 0) pe_dnewK rfl)))), ?_⟩
    have k1 := o.k1
    have k4 := o.k4
    cases dy with
    | @tup ya yvs _ hY yall =>
    cases yall with
    | @cons v1 _ _ _ d1 r1 =>
    cases r1 with
    | @cons v2 _ _ _ d2 r2 =>
    cases r2
    cases d1
    obtain ⟨ra, rvs, rfl, hR0, rall0⟩ := tup_of d2
    -- self._kinds, rooms = plan
    have kK := kp_upd p H (.ins C dx (putF "_kinds" (.int (kd : Int)) []))
    refine ⟨_, rfl, ya, _, rfl, hY, rfl, _, _, rfl, _, rfl, p, C, dx, [], rfl, hp, T.cl, T.nK, by show 0 < 1000; decide, _, _, rfl, rfl, ?_⟩
    have hR := kK.seqTI hp hR0
    have rall := dpAll_ki kK hp rall0
    have hp1 : (upd H p (.ins C dx (putF "_kinds" (.int (kd : Int)) []))) p = some (.ins C dx (putF "_kinds" (.int (kd : Int)) [])) := upd_same
    generalize (upd H p (.ins C dx (putF "_kinds" (.int (kd : Int)) []))) = H1 at hR rall hp1 kK ⊢
    clear hR0 rall0
    have lr := mapD_len rall
    have few := o.few
    -- self._rooms
    refine ⟨_, rfl, ra, rfl, ⟨_, hR⟩, fun D nD => ?_⟩
    have sD := same_upd (o := .lst []) nD
    refine lc_tup (K := K) (a := ra) (xs := rvs) (fun j H2 => Same H1 H2 ∧ ∃ ps, H2 D = some (.lst ps) ∧ DpAll K (rmv H2 D) ps ((R4 (P.take j)).map roomD)) ⟨sD, [], upd_same, .nil⟩ (fun j H2 _ ⟨s2, _⟩ => s2.seqT hR) ?_ ?_
    · rintro j v H2 hj ⟨s2, ps, hD, dps⟩
      obtain ⟨room, hroom, droom⟩ := mapD_get rall hj
      have mroom := List.mem_of_getElem? hroom
      have jl := (List.getElem?_eq_some_iff.mp hroom).1
      obtain ⟨qa, qvs, rfl, hQ, qall⟩ := tup_of droom
      have lq := mapD_len qall
      have lps := mapD_len dps
      unfold R4 at lps
      simp only [List.length_map, List.length_take] at lps
      have la := o.asks room mroom
      refine ⟨rfl, ?_⟩
      refine ⟨_, rfl, qa, rfl, ⟨_, s2.seqT hQ⟩, fun G nG => ?_⟩
      have sG := same_upd (o := .lst []) nG
      have nDG : D ≠ G := ne_of_none hD nG
      refine lc_tup (K := K) (a := qa) (xs := qvs) (fun t H3 => Same H2 H3 ∧ ∃ ps, H3 G = some (.lst ps) ∧ DpAll K (rmv (rmv H3 D) G) ps (((room.take t).map ask4).map paskD)) ⟨sG, [], upd_same, .nil⟩ (fun t H3 _ ⟨s3, _⟩ => s3.seqT (s2.seqT hQ)) ?_ ?_
      · rintro t v H3 ht ⟨s3, ps3, hG, dps3⟩
        obtain ⟨a, ha, da⟩ := mapD_get qall ht
        have ma := List.mem_of_getElem? ha
        have tl := (List.getElem?_eq_some_iff.mp ha).1
        have l5 := o.five room mroom a ma
        obtain ⟨aa, avs, rfl, hA, aall⟩ := tup_of da
        have lav := mapD_len aall
        have s23 := s2.trans s3
        have lp3 := mapD_len dps3
        simp only [List.length_map, List.length_take] at lp3
        refine ⟨rfl, ?_⟩
        refine ⟨_, rfl, aa, rfl, ⟨_, s23.seqT hA⟩, fun J nJ => ?_⟩
        have sJ := same_upd (o := .lst []) nJ
        have hD3 := s3 _ _ hD
        have nDJ : D ≠ J := ne_of_none hD3 nJ
        have nGJ : G ≠ J := ne_of_none hG nJ
        refine lc_tup (K := K) (a := aa) (xs := avs) (fun i H4 => Same H3 H4 ∧ ∃ ps, H4 J = some (.lst ps) ∧ DpAll K H4 ps ((ask4 (a.take i)).map pairP)) ⟨sJ, [], upd_same, .nil⟩ (fun i H4 _ ⟨s4, _⟩ => s4.seqT (s23.seqT hA)) ?_ ?_
        · rintro i v H4 hi ⟨s4, ps4, hJ, dps4⟩
          obtain ⟨pr, hpr, dpr⟩ := mapD_get aall hi
          obtain ⟨pa, px, rfl, hpT, dpx⟩ := pairP_of dpr
          obtain ⟨w4, pN⟩ := o.pair room mroom a ma pr (List.mem_of_getElem? hpr)
          have s24 := s23.trans s4
          have lp4 := mapD_len dps4
          unfold ask4 at lp4
          simp only [List.length_map, List.length_take] at lp4
          refine ⟨pa, _, rfl, s24.seqT hpT, rfl, _, _, rfl, _, _, rfl, rfl, rfl, ?_⟩
          refine ⟨_, rfl, px, pr.1, rfl, dp_same s24 dpx, by omega, by omega, fun wv H5 s5 dw => ?_⟩
          refine ⟨_, rfl, by show 2 ≤ sizeLine; decide, fun U nU => ?_⟩
          have sU := same_upd (o := .tup [wv, V.int (pr.2 : Int)]) nU
          have hJ5 := sU _ _ (s5 _ _ hJ)
          have dU := dp_tup nU (.cons dw (.cons (.int (pr.2 : Int)) .nil))
          refine ⟨ps4, hJ5, small_line (by omega), fun b ob e => ?_, ps4 ++ [.ref U], upd_same, ?_⟩
          · rw [upd_ne (ne_of_none e nJ)]
            exact sU _ _ (s5 _ _ (s4 _ _ e))
          · have e1 : ask4 (a.take (i + 1)) = ask4 (a.take i) ++ [(four pr.1, pr.2)] := by
              unfold ask4
              rw [take_snoc hpr, List.map_append]
              rfl
            rw [e1]
            exact dpAll_put hJ5 (dpAll_app1 (dpAll_same (s5.trans sU) dps4) (show Dp K _ _ (pairP (four pr.1, pr.2)) from dU)) (noLAll_map noL_pairP _)
        · rintro H4 ⟨s4, ps4, hJ, dps4⟩
          rw [lav, List.take_length] at dps4
          have hG4 := s4 _ _ hG
          have hD4 := s4 _ _ hD3
          refine ⟨ps3, hG4, small_line (by omega), fun b ob e => ?_, ps3 ++ [.ref J], upd_same, ?_⟩
          · rw [upd_ne (ne_of_none e nG)]
            exact s4 _ _ (s3 _ _ e)
          · have e1 : (room.take (t + 1)).map ask4 = (room.take t).map ask4 ++ [ask4 a] := by
              rw [take_snoc ha, List.map_append]
              rfl
            rw [e1]
            have rr : Same (rmv (rmv H3 D) G) (rmv (rmv (upd H4 G (.lst (ps3 ++ [.ref J]))) D) G) := rmv_rmv fun b ob n e => by
              obtain ⟨n2, e⟩ := rmv_some e
              rw [rmv_ne n2, upd_ne n]
              exact s4 _ _ e
            refine dpAll_app1 (dpAll_same rr dps3) ?_
            have kG : Kp G H4 (upd H4 G (.lst (ps3 ++ [.ref J]))) := kp_upd G H4 _
            have d1 : DpAll K (upd H4 G (.lst (ps3 ++ [.ref J]))) ps4 ((ask4 a).map pairP) := dpAll_put hG4 dps4 (noLAll_map noL_pairP _)
            have hD5 : (upd H4 G (.lst (ps3 ++ [.ref J]))) D = some (.lst ps) := by rw [upd_ne nDG]; exact hD4
            have d2 := dpAll_kp (rmv_kp _ D) hD5 d1 (noLAll_map noL_pairP _)
            have hG5 : (rmv (upd H4 G (.lst (ps3 ++ [.ref J]))) D) G = some (.lst (ps3 ++ [.ref J])) := by rw [rmv_ne nDG.symm]; exact upd_same
            have d3 := dpAll_kp (rmv_kp _ G) hG5 d2 (noLAll_map noL_pairP _)
            exact .lst (SqL.of (by rw [rmv_ne nGJ.symm, rmv_ne nDJ.symm, upd_ne nGJ.symm]; exact hJ)) d3
      · rintro H3 ⟨s3, ps3, hG, dps3⟩
        rw [lq, List.take_length] at dps3
        have hD3 := s3 _ _ hD
        refine ⟨ps, hD3, small_line (by omega), fun b ob e => ?_, ps ++ [.ref G], upd_same, ?_⟩
        · rw [upd_ne (ne_of_none e nD)]
          exact s3 _ _ (s2 _ _ e)
        · have e1 : R4 (P.take (j + 1)) = R4 (P.take j) ++ [room.map ask4] := by
            unfold R4
            rw [take_snoc hroom, List.map_append]
            rfl
          rw [e1]
          have rr : Same (rmv H2 D) (rmv (upd H3 D (.lst (ps ++ [.ref G]))) D) := rmv_rmv fun b ob n e => by rw [upd_ne n]; exact s3 _ _ e
          refine dpAll_app1 (dpAll_same rr dps) ?_
          have rr2 : Same (rmv (rmv H3 D) G) (rmv (upd H3 D (.lst (ps ++ [.ref G]))) D) := fun b ob e => by
            obtain ⟨n1, e⟩ := rmv_some e
            obtain ⟨n2, e⟩ := rmv_some e
            rw [rmv_ne n2, upd_ne n2]
            exact e
          exact .lst (SqL.of (by rw [rmv_ne nDG.symm, upd_ne nDG.symm]; exact hG)) (dpAll_same rr2 dps3)
    · rintro H2 ⟨s2, ps, hD, dps⟩
      rw [lr, List.take_length] at dps
      have dD : Dp K H2 (.ref D) (roomsD (R4 P)) := .lst (SqL.of hD) (dpAll_same (rmv_same fun b ob _ e => e) dps)
      have hp2 := s2 _ _ hp1
      refine ⟨_, rfl, p, C, dx, _, rfl, hp2, T.cl, T.nR, by show 1 < 1000; decide, ?_⟩
      have kR := kp_upd p H2 (.ins C dx (putF "_rooms" (.ref D) (putF "_kinds" (.int (kd : Int)) [])))
      have dD3 := dp_ki kR hp2 dD
      have hR3 := kR.seqTI hp2 (s2.seqT hR)
      have hp3 : (upd H2 p (.ins C dx (putF "_rooms" (.ref D) (putF "_kinds" (.int (kd : Int)) [])))) p = some (.ins C dx (putF "_rooms" (.ref D) (putF "_kinds" (.int (kd : Int)) []))) := upd_same
      have kk3 : Kp p H (upd H2 p (.ins C dx (putF "_rooms" (.ref D) (putF "_kinds" (.int (kd : Int)) [])))) := (kK.same s2).trans kR
      generalize (upd H2 p (.ins C dx (putF "_rooms" (.ref D) (putF "_kinds" (.int (kd : Int)) [])))) = H3 at dD3 hR3 hp3 kk3 ⊢
      -- self._lists
      refine ⟨_, rfl, ra, rfl, ⟨_, hR3⟩, fun G nG => ?_⟩
      have sG := same_upd (o := .lst []) nG
      refine lc_tup (K := K) (a := ra) (xs := rvs) (fun j H4 => Same H3 H4 ∧ ∃ ps, H4 G = some (.lst ps) ∧ DpAll K (rmv H4 G) ps ((zeroL j).map stsD)) ⟨sG, [], upd_same, .nil⟩ (fun j H4 _ ⟨s4, _⟩ => s4.seqT hR3) ?_ ?_
      · rintro j v H4 hj ⟨s4, ps4, hG, dps4⟩
        have lp4 := mapD_len dps4
        unfold zeroL at lp4
        rw [List.length_replicate] at lp4
        have jl := (List.getElem?_eq_some_iff.mp hj).1
        refine ⟨rfl, ?_⟩
        refine ⟨by show 1 ≤ sizeLine; decide, fun J nJ => ?_⟩
        have sJ := same_upd (o := .lst [V.ref an]) nJ
        have nGJ : G ≠ J := ne_of_none hG nJ
        refine ⟨ps4, sJ _ _ hG, small_line (by omega), fun b ob e => ?_, ps4 ++ [.ref J], upd_same, ?_⟩
        · rw [upd_ne (ne_of_none e nG)]
          exact sJ _ _ (s4 _ _ e)
        · have e1 : zeroL (j + 1) = zeroL j ++ [[[0, 0, 0, 0]]] := by
            unfold zeroL
            rw [List.replicate_succ']
          rw [e1]
          have rr : Same (rmv H4 G) (rmv (upd (upd H4 J (.lst [V.ref an])) G (.lst (ps4 ++ [.ref J]))) G) := rmv_rmv fun b ob n e => by rw [upd_ne n]; exact sJ _ _ e
          refine dpAll_app1 (dpAll_same rr dps4) ?_
          exact .lst (SqL.of (by rw [rmv_ne nGJ.symm, upd_ne nGJ.symm]; exact upd_same)) (.cons (hN _) .nil)
      · rintro H4 ⟨s4, ps4, hG, dps4⟩
        rw [lr] at dps4
        refine ⟨by show 1 ≤ sizeLine; decide, fun LL nLL => ?_⟩
        have sL := same_upd (o := .lst [V.ref G]) nLL
        have nGL : G ≠ LL := ne_of_none hG nLL
        have hp4 := s4 _ _ hp3
        have npL : p ≠ LL := ne_of_none hp4 nLL
        have hp5 : (upd H4 LL (.lst [V.ref G])) p = some (.ins C dx (putF "_rooms" (.ref D) (putF "_kinds" (.int (kd : Int)) []))) := by rw [upd_ne npL]; exact hp4
        refine ⟨_, rfl, p, C, dx, _, rfl, hp5, T.cl, T.nL, by show 2 < 1000; decide, ?_⟩
        intro bb nbb
        have npb : p ≠ bb := ne_of_none upd_same nbb
        have hLb : (upd (upd H4 LL (.lst [V.ref G])) p (.ins C dx (putF "_lists" (.ref LL) (putF "_rooms" (.ref D) (putF "_kinds" (.int (kd : Int)) []))))) LL = some (.lst [V.ref G]) := by rw [upd_ne npL.symm]; exact upd_same
        have nLb : LL ≠ bb := ne_of_none hLb nbb
        refine ⟨_, rfl, p, C, dx, _, rfl, by rw [upd_ne npb]; exact upd_same, T.cl, T.nB, by show 3 < 1000; decide, ?_⟩
        have nHL : H LL = none := (kk3.same s4).free nLL npL.symm
        have nb4 : H4 bb = none := by
          rw [upd_ne npb.symm, upd_ne nLb.symm] at nbb
          exact nbb
        have nHb : H bb = none := (kk3.same s4).free nb4 npb.symm
        -- all but p is as it was
        have kf : ∀ b ob, H4 b = some ob → b ≠ p → (upd (upd (upd (upd H4 LL (.lst [V.ref G])) p (.ins C dx (putF "_lists" (.ref LL) (putF "_rooms" (.ref D) (putF "_kinds" (.int (kd : Int)) []))))) bb (.dK [])) p (.ins C dx (putF "_boxes" (.ref bb) (putF "_lists" (.ref LL) (putF "_rooms" (.ref D) (putF "_kinds" (.int (kd : Int)) [])))))) b = some ob := fun b ob e n => by
          rw [upd_ne n, upd_ne (ne_of_none e nb4), upd_ne n, upd_ne (ne_of_none e nLL)]
          exact e
        have kf' : Kp p H4 (rmv (upd (upd (upd (upd H4 LL (.lst [V.ref G])) p (.ins C dx (putF "_lists" (.ref LL) (putF "_rooms" (.ref D) (putF "_kinds" (.int (kd : Int)) []))))) bb (.dK [])) p (.ins C dx (putF "_boxes" (.ref bb) (putF "_lists" (.ref LL) (putF "_rooms" (.ref D) (putF "_kinds" (.int (kd : Int)) [])))))) LL) := fun b ob e n => by
          rw [rmv_ne (ne_of_none e nLL)]
          exact kf b ob e n
        refine q _ (.ref D) LL bb [V.ref G] (fun b ob e n => kf b ob (s4 _ _ (kk3 _ _ e n)) n) nHL nHb ?_ ⟨upd_same, ?_, ?_, ?_, Nat.le_refl _, fun j L hj => ?_⟩
        · rw [upd_ne npb.symm]
          exact upd_same
        · rw [upd_ne npL.symm, upd_ne nLb]
          exact hLb
        · refine .cons ?_ .nil
          have dG : Dp K H4 (.ref G) (lvD (zeroL P.length)) := .lst (SqL.of hG) (dpAll_same (rmv_same fun b ob _ e => e) dps4)
          exact dp_ki kf' hp4 dG
        · exact dp_ki kf' hp4 (dp_same s4 dD3)
        · have e : (R4 P).length = P.length := List.length_map ..
          match j, hj with
          | 0, hj =>
            cases hj
            have := zeroL_ok (R4 P)
            rw [e] at this
            rw [e]
            exact this
end
/-! ### least, lasts -/
def sKindsOf : Stmt := topS 17
def sLeast : Stmt := topS 27
def sLasts : Stmt := topS 26
def spKindsOf (K : PySem.W.Frag) : Sp := fun vs H Q _ => ∃ (x : V) (h : Asks) (kd : Nat), vs = [x] ∧ Dp K H x (houseD h) ∧ HsOk h kd ∧ Q (.int kd) H
def spLeast (K : PySem.W.Frag) : Sp := fun vs H Q _ => ∃ (x : V) (h : Asks) (kd n m : Nat), vs = [x, .int n] ∧ Dp K H x (houseD h) ∧ HsOk h kd ∧ n ≤ 1000 ∧ Few (asks4 h) n m ∧
  ∀ q H' ps M, Same H H' → H q = none → H' q = some (.lst ps) → DpAll K H' ps ((M.map fun x => x.take kd).map wayD) → Canon M (LN (asks4 h) n) → Q (.ref q) H'
def spLasts (K : PySem.W.Frag) : Sp := fun vs H Q _ => ∃ (x y : V) (h : Asks) (s : List Int) (kd n m : Nat), vs = [x, y, .int n] ∧ Dp K H x (houseD h) ∧ Dp K H y (wayD s) ∧ HsOk h kd ∧ 1 ≤ s.length ∧ s.length ≤ 4 ∧ (∀ z ∈ s, 0 ≤ z) ∧ n ≤ 1000 ∧ Few (asks4 h) n m ∧
  ∀ b H', Same H H' → (b = true ↔ LN (asks4 h) n (four s)) → Q (.bl b) H'
section
variable {P : Program} {w : World} {K : PySem.W.Frag} {mg : Str → Option Value} {base : Heap}
theorem scKindsOf : FnScope ["house"] ["house"] (defScope sKindsOf) := ⟨rfl, rfl, rfl, by decide +kernel, rfl, by decide +kernel, by decide +kernel⟩
theorem ok_kindsOf {f : Addr} {fd : FuncData} {k : Nat} (F : Fun K "kinds_of" "kinds_of" sKindsOf f fd) (ml : mg "len" = none) : FnOk P w K mg base CX0 (k + 1) f fd ["house"] (spKindsOf K) := by
  refine F.ok scKindsOf (fun vs H Q E h => ?_) (fun cdv A outer s H vs Q E hr h => ?_)
  · obtain ⟨x, h, kd, rfl, _⟩ := h
    rfl
  · obtain ⟨x, h, kd, rfl, hx, o, q⟩ := h
    refine ⟨_, pss_one (ps_ret (pe_callB call_len_seq (by rfl) ml PySem.boot_len (pa_cons (pe_ix ix_tup (pe_ix ix_tup (pv 0) pe_int (fun _ _ => rfl)) pe_int (fun _ _ => rfl)) pa_nil))), ?_⟩
    obtain ⟨a0, w0, h0, hw0⟩ := o.ne
    cases hx with
    | @tup ha asv _ hT hall =>
    obtain ⟨v, hv, dv⟩ := dpAll_getD (i := 0) (d := askD a0) hall (by rw [List.getElem?_map, h0]; rfl)
    cases dv with
    | @tup aa ws _ aT wall =>
    obtain ⟨u, hu, du⟩ := dpAll_getD (i := 0) (d := wayD w0) wall (by rw [List.getElem?_map, hw0]; rfl)
    obtain ⟨wa, rfl, wT⟩ := way_of du
    have e := o.len a0 (List.mem_of_getElem? h0) w0 (List.mem_of_getElem? hw0)
    refine ⟨_, rfl, ha, asv, 0, .ref aa, rfl, rfl, hT, atI_nat (j := 0) hv, aa, ws, 0, .ref wa, rfl, rfl, aT, atI_nat (j := 0) hu, wa, _, rfl, .inr wT, ?_⟩
    rw [List.length_map, e]
    exact q
end
/-! ### a house as the plan of one room -/
def sPlanOf : Stmt := topS 22
def sLeastThere : Stmt := topS 23
def sLastsThere : Stmt := topS 24
def planOf (h : Asks) : Rooms := [h.map fun a => a.map fun w => (w, 0)]
def oneR (A : Asks) : Rooms := [A.map fun a => a.map fun w => (w, 0)]
theorem r4_one (h : Asks) : R4 (planOf h) = oneR (asks4 h) := by
  unfold R4 planOf oneR asks4 ask4
  simp only [List.map_cons, List.map_nil, List.map_map]
  congr 1
  refine List.map_congr_left fun a _ => ?_
  show (a.map fun w => ((w, 0) : List Int × Nat)).map (fun q => (four q.1, q.2)) = (a.map four).map fun w => (w, 0)
  rw [List.map_map, List.map_map]
  rfl
theorem HsOk.plan {h : Asks} {kd : Nat} (o : HsOk h kd) : PlOk (planOf h) kd := by
  refine ⟨o.k1, o.k4, Nat.le_refl _, by show 1 ≤ 100; decide, fun l hl => ?_, fun l hl a ha => ?_, fun l hl a ha p hp => ?_⟩
  · rw [List.mem_singleton.mp hl, List.length_map]
    have := o.few
    omega
  · rw [List.mem_singleton.mp hl] at ha
    obtain ⟨a0, h0, rfl⟩ := List.mem_map.mp ha
    rw [List.length_map]
    exact o.five a0 h0
  · rw [List.mem_singleton.mp hl] at ha
    obtain ⟨a0, h0, rfl⟩ := List.mem_map.mp ha
    obtain ⟨w0, h1, rfl⟩ := List.mem_map.mp hp
    exact ⟨o.len a0 h0 w0 h1, by show 0 < 1; decide⟩
theorem ndb_one {B : Nat → List Int → Prop} {a : List (List Int)} {x : List Int} (hx : Ok4 x) (mono : ∀ y z, Ok4 y → B 0 y → le4 y z = true → B 0 z) : NdB none B (a.map fun w => (w, 0)) x ↔ ∃ w ∈ a, Ok4 (add4 x w) ∧ B 0 (add4 x w) := by
  constructor
  · rintro ⟨z, oz, lz, _, p, mp, o1, q⟩
    obtain ⟨w, mw, rfl⟩ := List.mem_map.mp mp
    obtain ⟨o2, l2⟩ := add4_le lz o1
    exact ⟨w, mw, o2, mono _ _ o1 q l2⟩
  · rintro ⟨w, mw, o1, q⟩
    exact ⟨x, hx, le4_refl hx, fun r e => (nomatch e), (w, 0), List.mem_map.mpr ⟨w, mw, rfl⟩, o1, q⟩
theorem roomAt_one (A : Asks) : roomAt (oneR A) 0 = A.map fun a => a.map fun w => (w, 0) := rfl
theorem pb_one {A : Asks} : ∀ {n : Nat} {x : List Int}, Ok4 x → (PB none (oneR A) n 0 x ↔ LN A n x)
  | 0, _, _ => Iff.rfl
  | n + 1, x, hx => by
    have mono : ∀ y z, Ok4 y → PB none (oneR A) n 0 y → le4 y z = true → PB none (oneR A) n 0 z := fun y z _ h l => PB.mono h l
    constructor
    · rintro ⟨_, h⟩ a ha
      obtain ⟨w, mw, o1, q⟩ := (ndb_one hx mono).mp (h (a.map fun w => (w, 0)) (by rw [roomAt_one]; exact List.mem_map.mpr ⟨a, ha, rfl⟩))
      exact ⟨w, mw, o1, (pb_one o1).mp q⟩
    · intro h
      refine ⟨(pb_one hx).mpr h.down, fun a ha => ?_⟩
      rw [roomAt_one] at ha
      obtain ⟨a0, h0, rfl⟩ := List.mem_map.mp ha
      obtain ⟨w, mw, o1, q⟩ := h a0 h0
      exact (ndb_one hx mono).mpr ⟨w, mw, o1, (pb_one o1).mpr q⟩
theorem nd_ln {A : Asks} {j : Nat} {a : List (List Int)} {x : List Int} (hx : Ok4 x) : NdB none (PB none (oneR A) j) (a.map fun w => (w, 0)) x ↔ Nd A j a x := by
  rw [ndb_one hx fun y z _ h l => PB.mono h l]
  exact ⟨fun ⟨w, mw, o1, q⟩ => ⟨w, mw, o1, (pb_one o1).mp q⟩, fun ⟨w, mw, o1, q⟩ => ⟨w, mw, o1, (pb_one o1).mpr q⟩⟩
theorem sub_map {α β : Type} {f : α → β} {l : List α} : ∀ {as : List β}, (∀ a ∈ as, a ∈ l.map f) → ∃ bs : List α, (∀ b ∈ bs, b ∈ l) ∧ as = bs.map f
  | [], _ => ⟨[], fun _ h => (nomatch h), rfl⟩
  | a :: as, h => by
    obtain ⟨b, hb, rfl⟩ := List.mem_map.mp (h a List.mem_cons_self)
    obtain ⟨bs, hbs, rfl⟩ := sub_map (f := f) (l := l) (as := as) fun a ha => h a (List.mem_cons_of_mem _ ha)
    refine ⟨b :: bs, fun c hc => ?_, rfl⟩
    rcases List.mem_cons.mp hc with rfl | hc
    · exact hb
    · exact hbs c hc
theorem Few.plan {A : Asks} {n m : Nat} (f : Few A n m) : FewP none (oneR A) n m := by
  refine ⟨f.sq, f.fv, fun j hj r hr as sub M c => ?_, fun j hj r hr a ha M c => ?_⟩
  · obtain rfl : r = 0 := by have : r < 1 := hr; omega
    rw [roomAt_one] at sub
    obtain ⟨bs, hbs, rfl⟩ := sub_map sub
    refine f.all j hj bs hbs M (c.congr fun x hx => ?_)
    rw [pb_one hx]
    refine and_congr Iff.rfl ⟨fun h b hb => (nd_ln hx).mp (h _ (List.mem_map.mpr ⟨b, hb, rfl⟩)), fun h a ha => ?_⟩
    obtain ⟨b, hb, rfl⟩ := List.mem_map.mp ha
    exact (nd_ln hx).mpr (h b hb)
  · obtain rfl : r = 0 := by have : r < 1 := hr; omega
    rw [roomAt_one] at ha
    obtain ⟨b, hb, rfl⟩ := List.mem_map.mp ha
    exact f.one j hj b hb M (c.congr fun x hx => nd_ln hx)
/-- how long the lists are -/
theorem FewP.len {b : Option Int} {R : Rooms} {n m : Nat} (f : FewP b R n m) {L : List (List (List Int))} (o : RowOk R.length (PB b R n) L) : ∀ l ∈ L, l.length ≤ 4096 ∧ ∀ t ∈ l, t.length = 4 := fun l hl => by
  obtain ⟨r, hr⟩ := List.mem_iff_getElem?.mp hl
  have c := o.can r l hr
  have rR : r < R.length := by rw [← o.len]; exact (List.getElem?_eq_some_iff.mp hr).1
  refine ⟨?_, fun t ht => ok4_len (c.ok t ht)⟩
  have f5 := f.fv
  match n, f, o, c with
  | 0, f, o, c =>
    rw [c.uniq ((canon_zero []).congr fun x hx => ⟨fun _ => True.intro, fun _ => True.intro⟩)]
    decide
  | n + 1, f, o, c =>
    have := f.all n (Nat.lt_succ_self n) r rR (roomAt R r) (fun a h => h) l c
    omega
def spPlanOf (K : PySem.W.Frag) : Sp := fun vs H Q _ => ∃ (x : V) (h : Asks) (kd : Nat), vs = [x] ∧ Dp K H x (houseD h) ∧ HsOk h kd ∧ ∀ v H', Same H H' → Dp K H' v (planD kd (planOf h)) → Q v H'
def spLeastThere (K : PySem.W.Frag) : Sp := fun vs H Q _ => ∃ (y : V) (P : Rooms) (kd n m : Nat), vs = [y, .int (n : Int)] ∧ Dp K H y (planD kd P) ∧ PlOk P kd ∧ FewP none (R4 P) n m ∧ n ≤ 1000 ∧
  ∀ (q : Addr) (H' : Hp) (as : List Addr) (L : List (List (List Int))), Same H H' → H q = none → H' q = some (.lst (as.map V.ref)) → as.length = L.length → as.Nodup → q ∉ as → RowOk P.length (PB none (R4 P) n) L →
    (∀ (i : Nat) (a : Addr) (l : List (List Int)), as[i]? = some a → L[i]? = some l → H a = none ∧ ∃ ps, H' a = some (.lst ps) ∧ DpAll K H' ps ((l.map fun x => x.take kd).map wayD)) → Q (.ref q) H'
def spLastsThere (K : PySem.W.Frag) : Sp := fun vs H Q _ => ∃ (y z : V) (P : Rooms) (s : List Int) (kd n m r : Nat), vs = [y, z, .int (n : Int)] ∧ Dp K H y (planD kd P) ∧ PlOk P kd ∧ FewP none (R4 P) n m ∧ n ≤ 1000 ∧ Dp K H z (standD r s) ∧ r < P.length ∧ 1 ≤ s.length ∧ s.length ≤ 4 ∧ (∀ z ∈ s, 0 ≤ z) ∧
  ∀ b H', Same H H' → (b = true ↔ PB none (R4 P) n r (four s)) → Q (.bl b) H'
section
variable {P : Program} {w : World} {K : PySem.W.Frag} {mg : Str → Option Value} {base : Heap}
theorem scPlanOf : FnScope ["house", "room", "ask", "way"] ["house"] (defScope sPlanOf) := ⟨rfl, rfl, rfl, by decide +kernel, rfl, by decide +kernel, by decide +kernel⟩
theorem ok_planOf {f fK : Addr} {fd fdK : FuncData} {k : Nat} (F : Fun K "plan_of" "plan_of" sPlanOf f fd)
    (GK : FnOk P w K mg base CX0 (k + 1) fK fdK ["house"] (spKindsOf K)) (kK : PySem.W.keepIn K (.ref fK) = true) (bK : Binds K fdK ["house"] []) (gK : mg "kinds_of" = some (.ref fK))
    (mt : mg "tuple" = none) : FnOk P w K mg base CX0 (k + 2) f fd ["house"] (spPlanOf K) := by
  refine F.ok scPlanOf (fun vs H Q E h => ?_) (fun cdv A outer s0 H vs Q E hr h => ?_)
  · obtain ⟨x, h, kd, rfl, _⟩ := h
    rfl
  · obtain ⟨x, h, kd, rfl, hx, o, q⟩ := h
    refine ⟨_, pss_cons (ps_set (i := 1) scPlanOf.nd rfl (.inl rfl) (pe_callTy call_tuple_of (by rfl) mt (by decide +kernel) (pa_cons
        (pe_lc (own := [("ask", 2)]) (g := gName 2) (tt := tYes) (te := tCB (rTupOf K) (tCons (tLc (iTup K (tVar 2)) (gName 3) tYes (tTup (tCons (tVar 3) (tCons (tC (.int 0)) tNil))) [3]) tNil)) rfl scPlanOf.nd (pi_tup (pv 0))
          (blkOk_by (N := ["house", "room", "ask", "way"]) (sc := defScope sPlanOf) (by decide +kernel))
          (fun _ _ _ _ _ => by exact pg_name (i := 2) scPlanOf.nd rfl (.inl rfl)) (fun _ _ _ _ _ => pts_nil)
          (fun _ _ _ _ _ => by exact (by
            refine pe_callTy call_tuple_of (by rfl) mt (by decide +kernel) (pa_cons ?_ pa_nil)
            refine pe_lc (wi := iTup K (tVar 2)) (own := [("way", 3)]) (g := gName 3) (tt := tYes) (te := tTup (tCons (tVar 3) (tCons (tC (.int 0)) tNil))) ?_ ?_ ?_ ?_ ?_ ?_ ?_
            · rfl
            · exact scPlanOf.nd
            · exact pi_tup (pv 2)
            · exact blkOk_by (N := ["house", "room", "ask", "way"]) (sc := lcSc [(".0", .local), ("ask", .local), ("tuple", .globalImplicit)]) (by decide +kernel)
            · exact fun _ _ _ _ _ => by exact pg_name (i := 3) scPlanOf.nd rfl (.inl rfl)
            · exact fun _ _ _ _ _ => pts_nil
            · exact fun _ _ _ _ _ => by exact pe_tup (pa_cons (pv 3) (pa_cons pe_int pa_nil))))) pa_nil)))
      (pss_one (ps_ret (pe_tup (pa_cons (pe_call GK hr (by rfl) gK kK bK .nil pass0 (pa_cons (pv 0) pa_nil)) (pa_cons (pe_tup (pa_cons (pv 1) pa_nil)) pa_nil))))), ?_⟩
    obtain ⟨ha, hvs, rfl, hH, hall⟩ := tup_of hx
    have lh := mapD_len hall
    have few := o.few
    refine ⟨_, rfl, ha, rfl, ⟨_, hH⟩, fun D nD => ?_⟩
    have sD := same_upd (o := .lst []) nD
    have noA : ∀ l : List PAsk, noLAll (l.map askT) = true := fun l => noLAll_map (fun a => by
      unfold askT
      simp only [noL]
      exact noLAll_map noL_pairP a) l
    refine lc_tup (K := K) (a := ha) (xs := hvs) (fun j H1 => Same H H1 ∧ ∃ ps, H1 D = some (.lst ps) ∧ DpAll K H1 ps (((h.take j).map fun a => a.map fun w => ((w, 0) : List Int × Nat)).map askT)) ⟨sD, [], upd_same, .nil⟩ (fun j H1 _ ⟨s1, _⟩ => s1.seqT hH) ?_ ?_
    · rintro j v H1 hj ⟨s1, ps, hD, dps⟩
      obtain ⟨a, ha0, da⟩ := mapD_get hall hj
      have ma := List.mem_of_getElem? ha0
      have jl := (List.getElem?_eq_some_iff.mp ha0).1
      have l5 := o.five a ma
      obtain ⟨aa, avs, rfl, hA, aall⟩ := tup_of da
      have la := mapD_len aall
      have lp := mapD_len dps
      simp only [List.length_map, List.length_take] at lp
      refine ⟨rfl, ?_⟩
      refine ⟨_, rfl, aa, rfl, ⟨_, s1.seqT hA⟩, fun G nG => ?_⟩
      have sG := same_upd (o := .lst []) nG
      refine lc_tup (K := K) (a := aa) (xs := avs) (fun i H2 => Same H1 H2 ∧ ∃ ps, H2 G = some (.lst ps) ∧ DpAll K H2 ps (((a.take i).map fun w => ((w, 0) : List Int × Nat)).map pairP)) ⟨sG, [], upd_same, .nil⟩ (fun i H2 _ ⟨s2, _⟩ => s2.seqT (s1.seqT hA)) ?_ ?_
      · rintro i v H2 hi ⟨s2, ps2, hG, dps2⟩
        obtain ⟨w0, hw0, dw⟩ := mapD_get aall hi
        have lp2 := mapD_len dps2
        simp only [List.length_map, List.length_take] at lp2
        refine ⟨rfl, ?_⟩
        refine ⟨_, rfl, by show 2 ≤ sizeLine; decide, fun U nU => ?_⟩
        have sU := same_upd (o := .tup [v, V.int 0]) nU
        have dU := dp_tup nU (.cons (dp_same (s1.trans s2) dw) (.cons (.int (((0 : Nat) : Int))) .nil))
        refine ⟨ps2, sU _ _ hG, small_line (by omega), fun b ob e => ?_, ps2 ++ [.ref U], upd_same, ?_⟩
        · rw [upd_ne (ne_of_none e nG)]
          exact sU _ _ (s2 _ _ e)
        · rw [take_snoc hw0, List.map_append]
          exact dpAll_put (sU _ _ hG) (dpAll_app1 (dpAll_same sU dps2) (show Dp K _ _ (pairP (w0, 0)) from dU)) (noLAll_map noL_pairP _)
      · rintro H2 ⟨s2, ps2, hG, dps2⟩
        rw [la, List.take_length] at dps2
        refine ⟨G, _, rfl, .inl ⟨SqL.of hG, fun R nR => ?_⟩⟩
        have sR := same_upd (o := .tup ps2) nR
        have dR := dp_tup nR dps2
        have hD2 := sR _ _ (s2 _ _ hD)
        refine ⟨ps, hD2, small_line (by omega), fun b ob e => ?_, ps ++ [.ref R], upd_same, ?_⟩
        · rw [upd_ne (ne_of_none e nD)]
          exact sR _ _ (s2 _ _ (s1 _ _ e))
        · rw [take_snoc ha0, List.map_append]
          exact dpAll_put hD2 (dpAll_app1 (dpAll_same (s2.trans sR) dps) (show Dp K _ _ (askT (a.map fun w => (w, 0))) from dR)) (noA _)
    · rintro H1 ⟨s1, ps, hD, dps⟩
      rw [lh, List.take_length] at dps
      refine ⟨D, _, rfl, .inl ⟨SqL.of hD, fun R nR => ?_⟩⟩
      have sR := same_upd (o := .tup ps) nR
      have dR := dp_tup nR dps
      refine ⟨_, rfl, _, h, kd, rfl, dp_same (s1.trans sR) (.tup hH hall), o, ?_⟩
      refine ⟨_, rfl, by show 1 ≤ sizeLine; decide, fun U nU => ?_⟩
      have sU := same_upd (o := .tup [V.ref R]) nU
      have dU := dp_tup nU (.cons dR .nil)
      refine ⟨by show 2 ≤ sizeLine; decide, fun W nW => ?_⟩
      have sW := same_upd (o := .tup [V.int (kd : Int), V.ref U]) nW
      have dW := dp_tup nW (.cons (.int (kd : Int)) (.cons dU .nil))
      exact q (.ref W) _ (((s1.trans sR).trans sU).trans sW) dW
end
/-! ### least, lasts by way of the chart -/
/-- where the class and its methods stand -/
structure ChFns (P : Program) (w : World) (K : PySem.W.Frag) (mg : Str → Option Value) (base : Heap) (k : Nat) (C fi fl fs ft : Addr) (di dl ds dt : FuncData) : Prop where
  T : ChTxt K C
  M : Mk K C fi
  gC : mg "Chart" = some (.ref C)
  GI : FnOk P w K mg base CX0 (k + 2) fi di ["self", "plan"] (spChInit K C)
  bI : Binds K di ["self", "plan"] []
  GL : FnOk P w K mg base CX0 (k + 6) fl dl ["self", "n"] (spChLeast K C)
  mL : Meth K C "least" fl
  bL : Binds K dl ["self", "n"] []
  GS : FnOk P w K mg base CX0 (k + 7) fs ds ["self", "stand", "n"] (spChLasts K C)
  mS : Meth K C "lasts" fs
  bS : Binds K ds ["self", "stand", "n"] []
  GT : FnOk P w K mg base CX0 (k + 1) ft dt ["self", "lists"] (spChTold K C)
  mT : Meth K C "told" ft
  bT : Binds K dt ["self", "lists"] []
theorem same_ins {H : Hp} {x dx C : Addr} (nx : H x = none) (ndx : H dx = none) : Same H (upd (upd H dx (.own x)) x (.ins C dx [])) := fun b o e => by
  rw [upd_ne (ne_of_none e nx), upd_ne (ne_of_none e ndx)]
  exact e
theorem Kp.toSame {H H1 H2 : Hp} {p : Addr} (s : Same H H1) (n : H p = none) (k : Kp p H1 H2) : Same H H2 := fun b o e => k b o (s b o e) (ne_of_none e n)
section
variable {P : Program} {w : World} {K : PySem.W.Frag} {mg : Str → Option Value} {base : Heap}
theorem scLeastThere : FnScope ["plan", "n", "chart"] ["plan", "n"] (defScope sLeastThere) := ⟨rfl, rfl, rfl, by decide +kernel, rfl, by decide +kernel, by decide +kernel⟩
theorem ok_leastThere {f C fi fl fs ft : Addr} {fd di dl ds dt : FuncData} {k : Nat} (F : Fun K "least_there" "least_there" sLeastThere f fd) (c : ChFns P w K mg base k C fi fl fs ft di dl ds dt) : FnOk P w K mg base CX0 (k + 7) f fd ["plan", "n"] (spLeastThere K) := by
  refine F.ok scLeastThere (fun vs H Q E h => ?_) (fun cdv A outer s0 H vs Q E hr h => ?_)
  · obtain ⟨y, P, kd, n, m, rfl, _⟩ := h
    rfl
  · obtain ⟨y, P, kd, n, m, rfl, dy, o, fw, n1, q⟩ := h
    have h1 : Room (k + 1) _ := hr.mono (by omega)
    have h3 : Room (k + 3) _ := hr.mono (by omega)
    refine ⟨_, pss_cons (ps_set (i := 2) scLeastThere.nd rfl (.inl rfl) (pe_make c.M c.GI h3 rfl c.gC c.bI .nil pass0 (pa_cons (pv 0) pa_nil)))
      (pss_one (ps_ret (pe_meth (pv 2) c.T.cl c.mT c.GT h1 c.bT .nil pass0 (pa_cons (pe_meth (pv 2) c.T.cl c.mL c.GL hr c.bL .nil pass0 (pa_cons (pv 1) pa_nil)) pa_nil)))), ?_⟩
    refine ⟨_, rfl, fun x dx nx ndx nex => ?_⟩
    have s0 := same_ins (C := C) nx ndx
    refine ⟨x, dx, y, P, kd, rfl, upd_same, dp_same s0 dy, o, fun H1 rv ll bb us k1 nll nbb hbb cc => ⟨rfl, ?_⟩⟩
    have nll0 : H ll = none := s0.free nll
    have s1 : Same H H1 := k1.toSame s0 nx
    refine ⟨_, rfl, x, dx, _, rfl, cc.hp, cf_no _ _ _ _ (by decide +kernel) (by decide +kernel) (by decide +kernel) (by decide +kernel), ?_⟩
    refine ⟨_, rfl, x, dx, _, rfl, cc.hp, cf_no _ _ _ _ (by decide +kernel) (by decide +kernel) (by decide +kernel) (by decide +kernel), _, rfl, ?_⟩
    refine ⟨x, dx, rv, ll, bb, kd, R4 P, us, _, n, m, rfl, cc, o.rooms, fw, n1, by show 1 ≤ 2000; decide, fun v H2 us' Ls' M k2 c2 _ _ dM rM => ?_⟩
    have s2 : Same H H2 := k2.toSame s1 nll0
    have toL : Same (rmv H2 ll) H2 := rmv_same fun b o _ e => e
    have ln := fw.len rM
    have e : (R4 P).length = P.length := List.length_map ..
    refine ⟨x, dx, rv, ll, bb, kd, v, M, rfl, c2.hp, dp_same toL dM, o.k4, o.k1, by have := rM.len; have := o.few; omega, fun l hl => ⟨by have := (ln l hl).1; omega, (ln l hl).2⟩, fun qn H3 as s3 nq hq las nd nqa all => ?_⟩
    exact q qn H3 as M (s2.trans s3) (s2.free nq) hq las nd nqa (by rw [e] at rM; exact rM) fun i a l hi hl => ⟨s2.free (all i a l hi hl).1, (all i a l hi hl).2⟩
theorem scLastsThere : FnScope ["plan", "stand", "n"] ["plan", "stand", "n"] (defScope sLastsThere) := ⟨rfl, rfl, rfl, by decide +kernel, rfl, by decide +kernel, by decide +kernel⟩
theorem ok_lastsThere {f C fi fl fs ft : Addr} {fd di dl ds dt : FuncData} {k : Nat} (F : Fun K "lasts_there" "lasts_there" sLastsThere f fd) (c : ChFns P w K mg base k C fi fl fs ft di dl ds dt) : FnOk P w K mg base CX0 (k + 8) f fd ["plan", "stand", "n"] (spLastsThere K) := by
  refine F.ok scLastsThere (fun vs H Q E h => ?_) (fun cdv A outer s0 H vs Q E hr h => ?_)
  · obtain ⟨y, z, P, s, kd, n, m, r, rfl, _⟩ := h
    rfl
  · obtain ⟨y, z, P, s, kd, n, m, r, rfl, dy, o, fw, n1, dz, rP, t1, t4, t0, q⟩ := h
    have h3 : Room (k + 3) _ := hr.mono (by omega)
    refine ⟨_, pss_one (ps_ret (pe_meth (pe_make c.M c.GI h3 rfl c.gC c.bI .nil pass0 (pa_cons (pv 0) pa_nil)) c.T.cl c.mS c.GS hr c.bS .nil pass0 (pa_cons (pv 1) (pa_cons (pv 2) pa_nil)))), ?_⟩
    refine ⟨_, rfl, fun x dx nx ndx nex => ?_⟩
    have s0 := same_ins (C := C) nx ndx
    refine ⟨x, dx, y, P, kd, rfl, upd_same, dp_same s0 dy, o, fun H1 rv ll bb us k1 nll nbb hbb cc => ⟨rfl, ?_⟩⟩
    have nll0 : H ll = none := s0.free nll
    have s1 : Same H H1 := k1.toSame s0 nx
    have e : (R4 P).length = P.length := List.length_map ..
    refine ⟨x, dx, _, rfl, cc.hp, cf_no _ _ _ _ (by decide +kernel) (by decide +kernel) (by decide +kernel) (by decide +kernel), _, rfl, _, rfl, ?_⟩
    exact ⟨x, dx, rv, ll, bb, kd, R4 P, us, _, n, m, r, z, s, rfl, cc, o.rooms, fw, n1, by show 1 ≤ 2000; decide, dp_same s1 dz, by omega, t1, t4, t0, fun b H2 us' Ls' k2 _ _ _ iff => q b H2 (k2.toSame s1 nll0) iff⟩
theorem scLeast : FnScope ["house", "n"] ["house", "n"] (defScope sLeast) := ⟨rfl, rfl, rfl, by decide +kernel, rfl, by decide +kernel, by decide +kernel⟩
theorem ok_least {f fP fT : Addr} {fd fdP fdT : FuncData} {k : Nat} (F : Fun K "least" "least" sLeast f fd)
    (GP : FnOk P w K mg base CX0 (k + 2) fP fdP ["house"] (spPlanOf K)) (kP : PySem.W.keepIn K (.ref fP) = true) (bP : Binds K fdP ["house"] []) (gP : mg "plan_of" = some (.ref fP))
    (GT : FnOk P w K mg base CX0 (k + 7) fT fdT ["plan", "n"] (spLeastThere K)) (kT : PySem.W.keepIn K (.ref fT) = true) (bT : Binds K fdT ["plan", "n"] []) (gT : mg "least_there" = some (.ref fT)) : FnOk P w K mg base CX0 (k + 8) f fd ["house", "n"] (spLeast K) := by
  refine F.ok scLeast (fun vs H Q E h => ?_) (fun cdv A outer s0 H vs Q E hr h => ?_)
  · obtain ⟨x, h, kd, n, m, rfl, _⟩ := h
    rfl
  · obtain ⟨x, h, kd, n, m, rfl, hx, o, n1, fw, q⟩ := h
    have h2 : Room (k + 2) _ := hr.mono (by omega)
    refine ⟨_, pss_one (ps_ret (pe_ix ix_list (pe_call GT hr (by rfl) gT kT bT .nil pass0 (pa_cons (pe_call GP h2 (by rfl) gP kP bP .nil pass0 (pa_cons (pv 0) pa_nil)) (pa_cons (pv 1) pa_nil))) pe_int (fun _ _ => rfl))), ?_⟩
    refine ⟨_, rfl, x, h, kd, rfl, hx, o, fun pv H1 s1 dp => ?_⟩
    refine ⟨_, rfl, pv, planOf h, kd, n, m, rfl, dp, o.plan, by rw [r4_one]; exact fw.plan, n1, fun qn H2 as L s2 nq hq las nd nqa rL all => ?_⟩
    obtain ⟨l, hl, can⟩ := rL.at (show 0 < 1 by decide)
    obtain ⟨a, ha⟩ : ∃ a, as[0]? = some a := ⟨_, List.getElem?_eq_getElem (by rw [las]; exact (List.getElem?_eq_some_iff.mp hl).1)⟩
    obtain ⟨na, ps, hps, dps⟩ := all 0 a l ha hl
    refine ⟨qn, _, 0, .ref a, rfl, rfl, SqL.of hq, atI_nat (j := 0) (by rw [List.getElem?_map, ha]; rfl), ?_⟩
    refine q a H2 ps l (s1.trans s2) (s1.free na) hps dps (can.congr fun x hx => ?_)
    rw [r4_one]
    exact pb_one hx
theorem scLasts : FnScope ["house", "store", "n"] ["house", "store", "n"] (defScope sLasts) := ⟨rfl, rfl, rfl, by decide +kernel, rfl, by decide +kernel, by decide +kernel⟩
theorem ok_lasts {f fP fT : Addr} {fd fdP fdT : FuncData} {k : Nat} (F : Fun K "lasts" "lasts" sLasts f fd)
    (GP : FnOk P w K mg base CX0 (k + 2) fP fdP ["house"] (spPlanOf K)) (kP : PySem.W.keepIn K (.ref fP) = true) (bP : Binds K fdP ["house"] []) (gP : mg "plan_of" = some (.ref fP))
    (GT : FnOk P w K mg base CX0 (k + 8) fT fdT ["plan", "stand", "n"] (spLastsThere K)) (kT : PySem.W.keepIn K (.ref fT) = true) (bT : Binds K fdT ["plan", "stand", "n"] []) (gT : mg "lasts_there" = some (.ref fT)) : FnOk P w K mg base CX0 (k + 9) f fd ["house", "store", "n"] (spLasts K) := by
  refine F.ok scLasts (fun vs H Q E h => ?_) (fun cdv A outer s0 H vs Q E hr h => ?_)
  · obtain ⟨x, y, h, s, kd, n, m, rfl, _⟩ := h
    rfl
  · obtain ⟨x, y, h, s, kd, n, m, rfl, hx, hy, o, t1, t4, t0, n1, fw, q⟩ := h
    have h2 : Room (k + 2) _ := hr.mono (by omega)
    refine ⟨_, pss_one (ps_ret (pe_call GT hr (by rfl) gT kT bT .nil pass0 (pa_cons (pe_call GP h2 (by rfl) gP kP bP .nil pass0 (pa_cons (pv 0) pa_nil)) (pa_cons (pe_tup (pa_cons pe_int (pa_cons (pv 1) pa_nil))) (pa_cons (pv 2) pa_nil))))), ?_⟩
    refine ⟨_, rfl, x, h, kd, rfl, hx, o, fun pv H1 s1 dp => ?_⟩
    refine ⟨_, rfl, by show 2 ≤ sizeLine; decide, fun U nU => ?_⟩
    have sU := same_upd (o := .tup [V.int 0, y]) nU
    have dU := dp_tup nU (.cons (.int (((0 : Nat) : Int))) (.cons (dp_same s1 hy) .nil))
    refine ⟨_, rfl, pv, .ref U, planOf h, s, kd, n, m, 0, rfl, dp_same sU dp, o.plan, by rw [r4_one]; exact fw.plan, n1, dU, by show 0 < 1; decide, t1, t4, t0, fun b H2 s2 iff => ?_⟩
    refine q b H2 ((s1.trans sU).trans s2) (iff.trans ?_)
    rw [r4_one]
    exact pb_one (four_ok t1 t4 t0)
end
/-! ### where ways lead; which store covers which -/
def addW (s l : List Int) : List Int := List.zipWith (· + ·) s l
def okW (l : List Int) : Bool := l.all fun x => decide (0 ≤ x)
/-- the pairs (way's number, store) of an ask's ways, the first one's number k -/
def leadsK (s : List Int) : Nat → List (List Int) → List (Int × List Int)
  | _, [] => []
  | k, l :: r => (if okW (addW s l) = true then [((k : Int), addW s l)] else []) ++ leadsK s (k + 1) r
theorem leadsK_cons (s : List Int) (k : Nat) (l : List Int) (r : List (List Int)) : leadsK s k (l :: r) = (if okW (addW s l) = true then [((k : Int), addW s l)] else []) ++ leadsK s (k + 1) r := rfl
theorem leadsK_nil (s : List Int) (k : Nat) : leadsK s k [] = [] := rfl
theorem leadsK_app (s : List Int) : ∀ (a b : List (List Int)) (k : Nat), leadsK s k (a ++ b) = leadsK s k a ++ leadsK s (k + a.length) b
  | [], b, k => by simp [leadsK]
  | l :: r, b, k => by
    rw [List.cons_append, leadsK_cons, leadsK_cons, leadsK_app s r b (k + 1), List.append_assoc, List.length_cons, show k + 1 + r.length = k + (r.length + 1) by omega]
theorem leadsK_take {s : List Int} {a : List (List Int)} {i : Nat} {l : List Int} (h : a[i]? = some l) :
    leadsK s 0 (a.take (i + 1)) = leadsK s 0 (a.take i) ++ (if okW (addW s l) = true then [((i : Int), addW s l)] else []) := by
  have hi : i < a.length := (List.getElem?_eq_some_iff.mp h).1
  rw [List.take_add_one, h, Option.toList_some, leadsK_app, List.length_take, Nat.min_eq_left (by omega), Nat.zero_add, leadsK_cons, leadsK_nil, List.append_nil]
theorem leadsK_len (s : List Int) : ∀ (a : List (List Int)) (k : Nat), (leadsK s k a).length ≤ a.length
  | [], _ => by simp [leadsK]
  | l :: r, k => by
    rw [leadsK_cons, List.length_append, List.length_cons]
    have := leadsK_len s r (k + 1)
    split <;> simp only [List.length_cons, List.length_nil] <;> omega
def pairD (p : Int × List Int) : PyData := .tuple [.int p.1, wayD p.2]
theorem noL_pair (p : Int × List Int) : noL (pairD p) = true := by
  unfold pairD
  simp only [noL, noLAll, noL_way, Bool.and_true]
theorem noLAll_ints (l : List Int) : noLAll (l.map PyData.int) = true := noLAll_map noL_int l
theorem way_dp {K : PySem.W.Frag} {H : Hp} {a : Addr} {l : List Int} (h : SqT K H a (l.map V.int)) : Dp K H (.ref a) (wayD l) := .tup h (dpAll_ints l)
theorem zip_at {α β : Type} {a : List α} {b : List β} {γ : Type} {f : α → β → γ} {i : Nat} {x : α} {y : β} (h1 : a[i]? = some x) (h2 : b[i]? = some y) : (List.zipWith f a b)[i]? = some (f x y) := by
  rw [List.getElem?_zipWith, h1, h2]
theorem addW_take {s l : List Int} {i : Nat} {x y : Int} (h1 : s[i]? = some x) (h2 : l[i]? = some y) : (addW s l).take (i + 1) = (addW s l).take i ++ [x + y] := by
  have h : (addW s l)[i]? = some (x + y) := zip_at h1 h2
  rw [List.take_add_one, h]
  rfl
theorem okW_min (n : Int) (ns : List Int) : okW (n :: ns) = decide (0 ≤ ns.foldl min n) := by
  rw [Bool.eq_iff_iff, decide_eq_true_iff, foldl_min_le]
  unfold okW
  rw [List.all_cons, Bool.and_eq_true, decide_eq_true_iff, List.all_eq_true]
  exact and_congr Iff.rfl (forall_congr' fun m => imp_congr Iff.rfl decide_eq_true_iff)
def geL (s t : List Int) : List Bool := List.zipWith (fun a b => decide (b ≤ a)) s t
def coversB (s t : List Int) : Bool := (geL s t).all id
def sLeads : Stmt := topS 18
def sCovers : Stmt := topS 20
def sPut : Stmt := topS 19
def spPut (K : PySem.W.Frag) : Sp := fun vs H Q _ => ∃ (x y : V) (s l : List Int), vs = [x, y] ∧ Dp K H x (wayD s) ∧ Dp K H y (wayD l) ∧ s.length = l.length ∧ 1 ≤ s.length ∧ s.length ≤ 1000 ∧
  ∀ r H', Same H H' → H r = none → Dp K H' (.ref r) (wayD (addW s l)) → Q (.ref r) H'
def spLeads (K : PySem.W.Frag) : Sp := fun vs H Q _ => ∃ (x y : V) (h : List (List (List Int))) (i : Nat) (a : List (List Int)) (t : List Int), vs = [x, .int (i : Int), y] ∧ Dp K H x (houseD h) ∧ Dp K H y (wayD t) ∧ h[i]? = some a ∧ (∀ l ∈ a, l.length = t.length) ∧ 1 ≤ t.length ∧ t.length ≤ 4 ∧ a.length ≤ 10 ∧
  ∀ q H' ps, Same H H' → H q = none → H' q = some (.lst ps) → DpAll K H' ps ((leadsK t 0 a).map pairD) → Q (.ref q) H'
def spCovers (K : PySem.W.Frag) : Sp := fun vs H Q _ => ∃ (x y : V) (s t : List Int), vs = [x, y] ∧ Dp K H x (wayD s) ∧ Dp K H y (wayD t) ∧ s.length = t.length ∧ s.length ≤ 4 ∧ ∀ H', Same H H' → Q (.bl (coversB s t)) H'
section
variable {P : Program} {w : World} {K : PySem.W.Frag} {mg : Str → Option Value} {base : Heap}
theorem addW_len {s l : List Int} (h : s.length = l.length) : (addW s l).length = s.length := by
  unfold addW
  rw [List.length_zipWith, h, Nat.min_self]
theorem scPut : FnScope ["numbers", "others", "one", "other"] ["numbers", "others"] (defScope sPut) := ⟨rfl, rfl, rfl, by decide +kernel, rfl, by decide +kernel, by decide +kernel⟩
theorem ok_put {f : Addr} {fd : FuncData} {k : Nat} (F : Fun K "put_together" "put_together" sPut f fd) (mz : mg "zip" = none) (mt : mg "tuple" = none) : FnOk P w K mg base CX0 (k + 1) f fd ["numbers", "others"] (spPut K) := by
  refine F.ok scPut (fun vs H Q E h => ?_) (fun cdv A outer s H vs Q E hr h => ?_)
  · obtain ⟨x, y, a, b, rfl, _⟩ := h
    rfl
  · obtain ⟨x, y, t, l, rfl, hx, hy, ll, t1, t4, q⟩ := h
    refine ⟨_, pss_one (ps_ret (pe_callTy call_tuple_of (by rfl) mt (by decide +kernel) (pa_cons
            (pe_lc (own := [("one", 2), ("other", 3)]) (g := gTup K 2 (gCons (gName 2) (gCons (gName 3) gNil))) (tt := tYes) rfl scPut.nd (pi_zipA (by rfl) mz (pa_cons (pv 0) (pa_cons (pv 1) pa_nil)))
              (blkOk_by (N := ["numbers", "others", "one", "other"]) (sc := defScope sPut) (by decide +kernel))
              (fun _ _ _ _ _ => by refine pg_tup rfl (pgs_cons ?_ (pgs_cons ?_ pgs_nil)); exact pg_name (i := 2) scPut.nd rfl (.inl rfl); exact pg_name (i := 3) scPut.nd rfl (.inl rfl))
              (fun _ _ _ _ _ => pts_nil) (fun _ _ _ _ _ => by exact pe_op op_add (pv 2) (pv 3))) pa_nil))), ?_⟩
    obtain ⟨sa, rfl, hS⟩ := way_of hx
    obtain ⟨la, rfl, hL⟩ := way_of hy
    refine ⟨_, rfl, _, rfl, sa, la, _, _, rfl, .inr ⟨hS, hL, fun D nD => ?_⟩⟩
    have sD := same_upd (o := .lst []) nD
    have lA := addW_len ll
    refine lc_it (walk_zipT (K := K) (a := sa) (b := la) (xs := t.map V.int) (ys := l.map V.int) (n := t.length) (by rw [List.length_map, List.length_map, ll, Nat.min_self])) (fun m H4 => Same H H4 ∧ H4 D = some (.lst (((addW t l).take m).map V.int))) ⟨sD, upd_same⟩ ?_ ?_ ?_
    · rintro m H4 _ ⟨s4, _⟩
      exact ⟨s4.seqT hS, s4.seqT hL⟩
    · rintro m v H4 H5 hm ⟨s4, hD⟩ ⟨U, z1, z2, rfl, nU, rfl, g1, g2⟩
      obtain ⟨u1, e1, rfl⟩ := ints_get g1
      obtain ⟨u2, e2, rfl⟩ := ints_get g2
      have sU := same_upd (o := .tup [V.int u1, V.int u2]) nU
      refine ⟨U, _, rfl, SqT.of upd_same, rfl, _, _, rfl, _, _, rfl, rfl, rfl, ?_⟩
      refine ⟨_, rfl, _, rfl, u1, u2, rfl, rfl, _, sU _ _ hD, ?_, fun b o e => ?_, ?_⟩
      · rw [List.length_map, List.length_take]
        exact small_line (by omega)
      · rw [upd_ne (ne_of_none e nD)]
        exact sU _ _ (s4 _ _ e)
      · rw [upd_same, addW_take e1 e2, List.map_append]
        rfl
    · rintro H4 ⟨s4, hD⟩
      rw [List.take_of_length_le (by omega)] at hD
      refine ⟨D, _, rfl, .inl ⟨SqL.of hD, fun R nR => ?_⟩⟩
      exact q R _ (s4.trans (same_upd nR)) (s4.free nR) (way_dp (SqT.of upd_same))
theorem scLeads : FnScope ["house", "i", "store", "found", "number", "way", "reached"] ["house", "i", "store"] (defScope sLeads) := ⟨rfl, rfl, rfl, by decide +kernel, rfl, by decide +kernel, by decide +kernel⟩
/-- all pairs, the first one's number k -/
def putsK (s : List Int) : Nat → List (List Int) → List (Int × List Int)
  | _, [] => []
  | k, l :: r => ((k : Int), addW s l) :: putsK s (k + 1) r
theorem putsK_len (s : List Int) : ∀ (a : List (List Int)) (k : Nat), (putsK s k a).length = a.length
  | [], _ => rfl
  | l :: r, k => by rw [putsK, List.length_cons, putsK_len s r (k + 1), List.length_cons]
theorem putsK_at (s : List Int) : ∀ (a : List (List Int)) (k j : Nat), (putsK s k a)[j]? = (a[j]?).map fun l => (((k + j : Nat) : Int), addW s l)
  | [], _, _ => rfl
  | l :: r, k, 0 => rfl
  | l :: r, k, j + 1 => by
    show (putsK s (k + 1) r)[j]? = _
    rw [putsK_at s r (k + 1) j, List.getElem?_cons_succ, show k + 1 + j = k + (j + 1) by omega]
theorem leadsK_filter (s : List Int) : ∀ (a : List (List Int)) (k : Nat), leadsK s k a = (putsK s k a).filter fun p => okW p.2
  | [], _ => rfl
  | l :: r, k => by
    rw [leadsK_cons, putsK, List.filter_cons, leadsK_filter s r (k + 1)]
    split <;> rfl
theorem ok_leads {f fU : Addr} {fd fdU : FuncData} {k : Nat} (F : Fun K "leads" "leads" sLeads f fd) (GU : FnOk P w K mg base CX0 (k + 1) fU fdU ["numbers", "others"] (spPut K)) (kU : PySem.W.keepIn K (.ref fU) = true) (bU : Binds K fdU ["numbers", "others"] []) (gU : mg "put_together" = some (.ref fU))
    (me : mg "enumerate" = none) (mm : mg "min" = none) : FnOk P w K mg base CX0 (k + 2) f fd ["house", "i", "store"] (spLeads K) := by
  refine F.ok scLeads (fun vs H Q E h => ?_) (fun cdv A outer s H vs Q E hr h => ?_)
  · obtain ⟨x, y, h, i, a, t, rfl, _⟩ := h
    rfl
  · obtain ⟨x, y, h, i, a, t, rfl, hx, hy, hi, hl, t1, t4, a10, q⟩ := h
    refine ⟨_, pss_cons (ps_setLc (i := 3) (own := [("number", 4), ("way", 5)]) (g := gTup K 2 (gCons (gName 4) (gCons (gName 5) gNil))) (tt := tYes) rfl scLeads.nd rfl rfl (sw_true rfl rfl rfl (by decide +kernel)) (pi_enumT (by rfl) me (pa_cons (pe_ix ix_tup (pv 0) (pv 1) (fun _ _ => rfl)) pa_nil))
          (blkOk_by (N := ["house", "i", "store", "found", "number", "way", "reached"]) (sc := defScope sLeads) (by decide +kernel))
          (fun _ _ _ _ _ => by refine pg_tup rfl (pgs_cons ?_ (pgs_cons ?_ pgs_nil)); exact pg_name (i := 4) scLeads.nd rfl (.inl rfl); exact pg_name (i := 5) scLeads.nd rfl (.inl rfl))
          (fun _ _ _ _ _ => pts_nil)
          (fun _ _ _ _ _ => by exact pe_tup (pa_cons (pv 4) (pa_cons (pe_call GU hr (by rfl) gU kU bU .nil pass0 (pa_cons (pv 2) (pa_cons (pv 5) pa_nil))) pa_nil))))
      (pss_one (ps_ret (pe_lc (own := [("number", 4), ("reached", 6)]) (g := gTup K 2 (gCons (gName 4) (gCons (gName 6) gNil)))
          (tt := tTest (tOp (rI0 fun i j => .bl (decide (j ≤ i))) (tCB (rMinT K) (tCons (tVar 6) tNil)) (tC (.int 0)))) rfl scLeads.nd (pi_list (pv 3))
          (blkOk_by (N := ["house", "i", "store", "found", "number", "way", "reached"]) (sc := defScope sLeads) (by decide +kernel))
          (fun _ _ _ _ _ => by refine pg_tup rfl (pgs_cons ?_ (pgs_cons ?_ pgs_nil)); exact pg_name (i := 4) scLeads.nd rfl (.inl rfl); exact pg_name (i := 6) scLeads.nd rfl (.inl rfl))
          (fun _ _ _ _ _ => by exact pts_one (pt_cmpR op_ge (pe_callB (cr_minT rfl hr) (by rfl) mm (by decide +kernel) (pa_cons (pv 6) pa_nil)) pe_int (nomark _)))
          (fun _ _ _ _ _ => by exact pe_tup (pa_cons (pv 4) (pa_cons (pv 6) pa_nil)))))), ?_⟩
    obtain ⟨sa, rfl, hS⟩ := way_of hy
    cases hx with
    | @tup ha as _ hT hall =>
    obtain ⟨av, hav, dav⟩ := dpAll_getD hall (by rw [List.getElem?_map, hi]; rfl : (h.map askD)[i]? = some (askD a))
    cases dav with
    | @tup aa ws _ aT wall =>
    have lw : ws.length = a.length := by rw [dpAll_len wall, List.length_map]
    refine ⟨_, rfl, _, rfl, ha, as, (i : Int), .ref aa, rfl, rfl, hT, atI_nat hav, aa, ws, rfl, aT, fun F nF => ?_⟩
    have sF := same_upd (o := .lst []) nF
    refine lc_it (walk_enumT (K := K) (a := aa) (xs := ws)) (fun j H2 => Same H H2 ∧ ∃ ps, H2 F = some (.lst ps) ∧ DpAll K H2 ps (((putsK t 0 a).take j).map pairD)) ⟨sF, [], upd_same, .nil⟩ (fun j H2 _ ⟨s2, _⟩ => s2.seqT aT) ?_ ?_
    · rintro j v H2 H3 hj ⟨s2, ps, hF, dps⟩ ⟨T, x1, x2, rfl, nT, rfl, f1, f2⟩
      obtain rfl := Option.some.inj f1
      have sT := same_upd (o := .tup [V.int (j : Int), x2]) nT
      obtain ⟨d, hd, dx2⟩ := dpAll_get wall f2
      rw [List.getElem?_map] at hd
      obtain ⟨l, hlj, rfl⟩ := Option.map_eq_some_iff.mp hd
      have ll : l.length = t.length := hl l (List.mem_of_getElem? hlj)
      have s3 := s2.trans sT
      have pj : (putsK t 0 a)[j]? = some ((j : Int), addW t l) := by rw [putsK_at, hlj, Nat.zero_add]; rfl
      have lp := dpAll_len dps
      simp only [List.length_map, List.length_take] at lp
      refine ⟨T, _, rfl, SqT.of upd_same, rfl, _, _, rfl, _, _, rfl, rfl, rfl, ?_⟩
      refine ⟨_, rfl, _, rfl, _, rfl, .ref sa, x2, t, l, rfl, dp_same s3 hy, dp_same (s2.trans sT) dx2, ll.symm, t1, by omega, fun r H4 s4 nr dr => ?_⟩
      refine ⟨by show 2 ≤ sizeLine; decide, fun U nU => ?_⟩
      have sU := same_upd (o := .tup [V.int (j : Int), V.ref r]) nU
      have hF4 := sU _ _ (s4 _ _ (sT _ _ hF))
      have dU := dp_tup nU (.cons (.int (j : Int)) (.cons dr .nil))
      refine ⟨ps, hF4, small_line (by omega), fun b o e => ?_, ps ++ [.ref U], upd_same, ?_⟩
      · rw [upd_ne (ne_of_none e nF)]
        exact sU _ _ (s4 _ _ (s3 _ _ e))
      · rw [take_snoc pj]
        exact dpAll_put hF4 (dpAll_app1 (dpAll_same ((sT.trans s4).trans sU) dps) (show Dp K _ _ (pairD ((j : Int), addW t l)) from dU)) (noLAll_map noL_pair _)
    · rintro H2 ⟨s2, ps, hF, dps⟩
      rw [lw, List.take_of_length_le (by rw [putsK_len]; exact Nat.le_refl _)] at dps
      have lps : ps.length = (putsK t 0 a).length := by rw [dpAll_len dps, List.length_map]
      refine ⟨_, rfl, F, rfl, ⟨_, SqL.of hF⟩, fun G nG => ?_⟩
      have sG := same_upd (o := .lst []) nG
      refine lc_list (K := K) (a := F) (xs := ps) (fun j H3 => Same H2 H3 ∧ ∃ qs, H3 G = some (.lst qs) ∧ DpAll K H3 qs ((((putsK t 0 a).take j).filter fun p => okW p.2).map pairD)) ⟨sG, [], upd_same, .nil⟩ (fun j H3 _ ⟨s3, _⟩ => s3.seq (SqL.of hF)) ?_ ?_
      · rintro j v H3 hj ⟨s3, qs, hG, dqs⟩
        obtain ⟨d, hd, dv⟩ := dpAll_get dps hj
        rw [List.getElem?_map] at hd
        obtain ⟨p, hp, rfl⟩ := Option.map_eq_some_iff.mp hd
        have hp' := hp
        rw [putsK_at] at hp'
        obtain ⟨l, hlj, rfl⟩ := Option.map_eq_some_iff.mp hp'
        have ll : l.length = t.length := hl l (List.mem_of_getElem? hlj)
        have lA := addW_len ll.symm
        cases dv with
        | @tup va vvs _ vT vall =>
        cases vall with
        | @cons v1 _ _ _ d1 r1 =>
        cases r1 with
        | @cons v2 _ _ _ d2 r2 =>
        cases r2
        cases d1
        obtain ⟨R, rfl, hR⟩ := way_of d2
        obtain ⟨n0, nr, en⟩ : ∃ n0 nr, addW t l = n0 :: nr := by
          cases e : addW t l with
          | nil =>
            rw [e] at lA
            simp at lA
            omega
          | cons n0 nr => exact ⟨n0, nr, rfl⟩
        have lq := dpAll_len dqs
        have lq2 := List.length_filter_le (fun p : Int × List Int => okW p.2) ((putsK t 0 a).take j)
        simp only [List.length_map, List.length_take, putsK_len] at lq lq2
        refine ⟨va, _, rfl, s3.seqT vT, rfl, _, _, rfl, _, _, rfl, rfl, rfl, ?_⟩
        refine ⟨_, rfl, R, n0, nr, rfl, by rw [← en]; exact s3.seqT hR, _, 0, rfl, rfl, _, rfl, ?_⟩
        rw [← okW_min, ← en]
        have hstep : ((putsK t 0 a).take (j + 1)).filter (fun p => okW p.2) = ((putsK t 0 a).take j).filter (fun p => okW p.2) ++ (if okW (addW t l) = true then [(((0 + j : Nat) : Int), addW t l)] else []) := by
          rw [take_snoc hp, List.filter_append, List.filter_cons]
          split <;> rfl
        refine ite2 (fun ok => ?_) (fun bad => ?_)
        · rw [if_pos ok] at hstep
          refine ⟨_, rfl, _, rfl, by show 2 ≤ sizeLine; decide, fun U nU => ?_⟩
          have sU := same_upd (o := .tup [V.int ((0 + j : Nat) : Int), V.ref R]) nU
          have hGU := sU _ _ hG
          have dU := dp_tup nU (.cons (.int ((0 + j : Nat) : Int)) (.cons (dp_same s3 (way_dp hR)) .nil))
          refine ⟨qs, hGU, small_line (by omega), fun b o e => ?_, qs ++ [.ref U], upd_same, ?_⟩
          · rw [upd_ne (ne_of_none e nG)]
            exact sU _ _ (s3 _ _ e)
          · rw [hstep]
            exact dpAll_put hGU (dpAll_app1 (dpAll_same sU dqs) (show Dp K _ _ (pairD (((0 + j : Nat) : Int), addW t l)) from dU)) (noLAll_map noL_pair _)
        · rw [if_neg bad, List.append_nil] at hstep
          exact ⟨s3, qs, hG, by rw [hstep]; exact dqs⟩
      · rintro H3 ⟨s3, qs, hG, dqs⟩
        rw [lps, List.take_length, ← leadsK_filter] at dqs
        exact q G H3 qs (s2.trans s3) (s2.free nG) hG dqs
theorem scCovers : FnScope ["store", "other", "mine", "its"] ["store", "other"] (defScope sCovers) := ⟨rfl, rfl, rfl, by decide +kernel, rfl, by decide +kernel, by decide +kernel⟩
theorem ok_covers {f : Addr} {fd : FuncData} {k : Nat} (F : Fun K "covers" "covers" sCovers f fd) (mz : mg "zip" = none) (ma : mg "all" = none) : FnOk P w K mg base CX0 (k + 1) f fd ["store", "other"] (spCovers K) := by
  refine F.ok scCovers (fun vs H Q E h => ?_) (fun cdv A outer s H vs Q E hr h => ?_)
  · obtain ⟨x, y, a, b, rfl, _⟩ := h
    rfl
  · obtain ⟨x, y, a, b, rfl, hx, hy, hl, l4, q⟩ := h
    refine ⟨_, pss_one (ps_ret (pe_callB (cr_all rfl) (by rfl) ma (by decide +kernel) (pa_cons
            (pe_lc (own := [("mine", 2), ("its", 3)]) (g := gTup K 2 (gCons (gName 2) (gCons (gName 3) gNil))) (tt := tYes) rfl scCovers.nd (pi_zipA (by rfl) mz (pa_cons (pv 0) (pa_cons (pv 1) pa_nil)))
              (blkOk_by (N := ["store", "other", "mine", "its"]) (sc := defScope sCovers) (by decide +kernel))
              (fun _ _ _ _ _ => by refine pg_tup rfl (pgs_cons ?_ (pgs_cons ?_ pgs_nil)); exact pg_name (i := 2) scCovers.nd rfl (.inl rfl); exact pg_name (i := 3) scCovers.nd rfl (.inl rfl))
              (fun _ _ _ _ _ => pts_nil) (fun _ _ _ _ _ => by exact pe_cmpR op_ge (pv 2) (pv 3) (nomark _))) pa_nil))), ?_⟩
    obtain ⟨xa, rfl, hX⟩ := way_of hx
    obtain ⟨ya, rfl, hY⟩ := way_of hy
    refine ⟨_, rfl, _, rfl, xa, ya, _, _, rfl, .inr ⟨hX, hY, fun D nD => ?_⟩⟩
    have sD := same_upd (o := .lst []) nD
    have lg : (geL a b).length = a.length := by
      unfold geL
      rw [List.length_zipWith, hl, Nat.min_self]
    refine lc_it (walk_zipT (K := K) (a := xa) (b := ya) (xs := a.map V.int) (ys := b.map V.int) (n := a.length) (by rw [List.length_map, List.length_map, hl, Nat.min_self])) (fun m H4 => Same H H4 ∧ H4 D = some (.lst (((geL a b).take m).map V.bl))) ⟨sD, upd_same⟩ ?_ ?_ ?_
    · rintro m H4 _ ⟨s4, _⟩
      exact ⟨s4.seqT hX, s4.seqT hY⟩
    · rintro m v H4 H5 hm ⟨s4, hD⟩ ⟨U, z1, z2, rfl, nU, rfl, g1, g2⟩
      obtain ⟨u1, e1, rfl⟩ := ints_get g1
      obtain ⟨u2, e2, rfl⟩ := ints_get g2
      have sU := same_upd (o := .tup [V.int u1, V.int u2]) nU
      refine ⟨U, _, rfl, SqT.of upd_same, rfl, _, _, rfl, _, _, rfl, rfl, rfl, ?_⟩
      refine ⟨_, rfl, _, rfl, u1, u2, rfl, rfl, _, sU _ _ hD, ?_, fun b o e => ?_, ?_⟩
      · rw [List.length_map, List.length_take]
        exact small_line (by omega)
      · rw [upd_ne (ne_of_none e nD)]
        exact sU _ _ (s4 _ _ e)
      · have e3 : (geL a b)[m]? = some (decide (u2 ≤ u1)) := zip_at e1 e2
        rw [upd_same, List.take_add_one, e3, List.map_append]
        rfl
    · rintro H4 ⟨s4, hD⟩
      rw [List.take_of_length_le (by omega)] at hD
      exact ⟨D, _, rfl, SqL.of hD, q H4 s4⟩
end
/-! ### small drawn houses -/
def sSmall : Stmt := topS 33
structure BoxH (h : Asks) (kd : Nat) (size : Int) : Prop where
  hs : HsOk h kd
  all : ∀ a ∈ h, ∀ w ∈ a, ∀ z ∈ w, -size ≤ z ∧ z ≤ size
structure Cfg (kd : Nat) (size : Int) (n : Nat) : Prop where
  k1 : 1 ≤ kd
  k3 : kd ≤ 3
  s1 : 1 ≤ size
  s9 : size ≤ 9
  n1 : 1 ≤ n
  n6 : n ≤ 6
  one : kd = 1 → size * n ≤ 18
  more : 2 ≤ kd → size * n ≤ 6
theorem BoxH.ways {h : Asks} {kd : Nat} {size : Int} (b : BoxH h kd size) (s0 : 0 ≤ size) (k3 : kd ≤ 3) : Ways4 (asks4 h) size (if 2 ≤ kd then size else 0) (if 3 ≤ kd then size else 0) 0 := by
  refine ⟨s0, by split <;> omega, by split <;> omega, Int.le_refl _, fun a ha w hw => ?_⟩
  obtain ⟨a0, ha0, rfl⟩ := List.mem_map.mp ha
  obtain ⟨w0, hw0, rfl⟩ := List.mem_map.mp hw
  have l := b.hs.len a0 ha0 w0 hw0
  have al := b.all a0 ha0 w0 hw0
  have k1 := b.hs.k1
  subst l
  match w0, k1, k3, al with
  | [x], _, _, al =>
    have := al x (by simp)
    refine ⟨x, 0, 0, 0, rfl, this, ?_, ?_, by decide⟩
    · rw [if_neg (by show ¬ (2 ≤ 1); omega)]; decide
    · rw [if_neg (by show ¬ (3 ≤ 1); omega)]; decide
  | [x, y], _, _, al =>
    have a1 := al x (by simp)
    have a2 := al y (by simp)
    refine ⟨x, y, 0, 0, rfl, a1, ?_, ?_, by decide⟩
    · rw [if_pos (by show 2 ≤ 2; omega)]; exact a2
    · rw [if_neg (by show ¬ (3 ≤ 2); omega)]; decide
  | [x, y, z], _, _, al =>
    have a1 := al x (by simp)
    have a2 := al y (by simp)
    have a3 := al z (by simp)
    refine ⟨x, y, z, 0, rfl, a1, ?_, ?_, by decide⟩
    · rw [if_pos (by show 2 ≤ 3; omega)]; exact a2
    · rw [if_pos (by show 3 ≤ 3; omega)]; exact a3
theorem mul_le' {s : Int} (s0 : 0 ≤ s) {j n : Nat} (h : j ≤ n) : s * (j : Int) ≤ s * n := Int.mul_le_mul_of_nonneg_left (by omega) s0
theorem BoxH.few {h : Asks} {kd n : Nat} {size : Int} (b : BoxH h kd size) (c : Cfg kd size n) {j : Nat} (hj : j ≤ n) : Few (asks4 h) j 49 := by
  have s0 : 0 ≤ size := by have := c.s1; omega
  have W := b.ways s0 c.k3
  have z : 0 ≤ size * (j : Int) := Int.mul_nonneg s0 (by omega)
  have m := mul_le' s0 hj
  have k1 := c.k1
  by_cases k2 : 2 ≤ kd
  · have t := c.more k2
    rw [if_pos k2] at W
    refine few_box W (t1 := 6) (t2 := 6) (t3 := 6) (by omega) (by omega) ?_ (by decide) (by decide) (by decide)
    split
    · omega
    · omega
  · have t := c.one (by omega)
    rw [if_neg k2, if_neg (show ¬ 3 ≤ kd by omega)] at W
    refine few_box W (t1 := 18) (t2 := 0) (t3 := 0) (by omega) (by omega) (by omega) (by decide) (by decide) (by decide)
theorem BoxH.of {h : Asks} {kinds asks ways size : Int} {kd : Nat} (o : HouseOk kinds asks ways size h) (e : kinds = kd) (k1 : 1 ≤ kd) (k4 : kd ≤ 4) (h8 : asks ≤ 8) : BoxH h kd size := by
  have hl : ∀ a ∈ h, ∀ l ∈ a, l.length = kd := fun a ha l hl => by
    have := ((o.all a ha).all l hl).len
    omega
  have o1 := o.one
  have o8 := o.most
  obtain ⟨a0, h0⟩ : ∃ a0, h[0]? = some a0 := ⟨_, List.getElem?_eq_getElem (show 0 < h.length by omega)⟩
  have o2 := (o.all a0 (List.mem_of_getElem? h0)).one
  obtain ⟨w0, hw0⟩ : ∃ w0, a0[0]? = some w0 := ⟨_, List.getElem?_eq_getElem (show 0 < a0.length by omega)⟩
  exact ⟨⟨⟨a0, w0, h0, hw0⟩, k1, k4, hl, fun a ha => (o.all a ha).five, by omega⟩, fun a ha w hw => ((o.all a ha).all w hw).all⟩
def cfgs : List (Int × Int × Int) := [(1, 3, 5), (1, 9, 2), (2, 2, 3), (2, 1, 6), (2, 3, 2), (3, 1, 3), (3, 2, 1), (2, 2, 2)]
theorem cfg_of : ∀ t ∈ cfgs, ∃ (kd n : Nat), t = ((kd : Int), t.2.1, (n : Int)) ∧ Cfg kd t.2.1 n := fun t ht => by
  simp only [cfgs, List.mem_cons, List.not_mem_nil, or_false] at ht
  rcases ht with rfl | rfl | rfl | rfl | rfl | rfl | rfl | rfl
  · exact ⟨1, 5, rfl, ⟨by decide, by decide, by decide, by decide, by decide, by decide, by decide, by decide⟩⟩
  · exact ⟨1, 2, rfl, ⟨by decide, by decide, by decide, by decide, by decide, by decide, by decide, by decide⟩⟩
  · exact ⟨2, 3, rfl, ⟨by decide, by decide, by decide, by decide, by decide, by decide, by decide, by decide⟩⟩
  · exact ⟨2, 6, rfl, ⟨by decide, by decide, by decide, by decide, by decide, by decide, by decide, by decide⟩⟩
  · exact ⟨2, 2, rfl, ⟨by decide, by decide, by decide, by decide, by decide, by decide, by decide, by decide⟩⟩
  · exact ⟨3, 3, rfl, ⟨by decide, by decide, by decide, by decide, by decide, by decide, by decide, by decide⟩⟩
  · exact ⟨3, 1, rfl, ⟨by decide, by decide, by decide, by decide, by decide, by decide, by decide, by decide⟩⟩
  · exact ⟨2, 2, rfl, ⟨by decide, by decide, by decide, by decide, by decide, by decide, by decide, by decide⟩⟩
def tri (t : Int × Int × Int) : List V := [V.int t.1, V.int t.2.1, V.int t.2.2]
def spSmall (K : PySem.W.Frag) : Sp := fun vs H Q _ => ∃ (p c : Addr) (ns : List Int) (m : Nat), vs = [.ref p] ∧ Pen H p c ns m ∧ m + 700 < penMost ∧
  ∀ r H' ha h kd n size, Kp p H H' → Pen H' p c ns (m + 700) → H' r = some (.tup [.ref ha, .int ((kd : Nat) : Int), .int ((n : Nat) : Int), .int ((n : Int) * size)]) → Dp K H' (.ref ha) (houseD h) → HouseOk (kd : Int) 3 3 size h → Cfg kd size n → Q (.ref r) H'
section
variable {P : Program} {w : World} {K : PySem.W.Frag} {mg : Str → Option Value} {base : Heap}
theorem scSmall : FnScope ["pen", "some", "kinds", "size", "n"] ["pen"] (defScope sSmall) := ⟨rfl, rfl, rfl, by decide +kernel, rfl, by decide +kernel, by decide +kernel⟩
theorem ok_small {f fT fH : Addr} {fd fdT fdH : FuncData} {k : Nat} (F : Fun K "_law_small" "_law_small" sSmall f fd) (GT : FnOk P w K mg base CX0 (k + 2) fT fdT ["pen", "amount"] spTake) (kT : PySem.W.keepIn K (.ref fT) = true) (bT : Binds K fdT ["pen", "amount"] []) (gT : mg "_law_take" = some (.ref fT))
    (GH : FnOk P w K mg base CX0 (k + 3) fH fdH ["pen", "kinds", "asks", "ways", "size"] (spHouse K)) (kH : PySem.W.keepIn K (.ref fH) = true) (bH : Binds K fdH ["pen", "kinds", "asks", "ways", "size"] []) (gH : mg "_law_house" = some (.ref fH)) :
    FnOk P w K mg base CX0 (k + 4) f fd ["pen"] (spSmall K) := by
  refine F.ok scSmall (fun vs H Q E h => ?_) (fun cdv A outer s H vs Q E hr h => ?_)
  · obtain ⟨p, c, ns, m, rfl, _⟩ := h
    rfl
  · obtain ⟨p, c, ns, m, rfl, hP, hn, q⟩ := h
    unfold penMost at hn
    have h2 : Room (k + 2) _ := hr.mono (by omega)
    refine ⟨_, pss_cons (ps_set (i := 1) scSmall.nd rfl (.inl rfl) (pe_lst (pa_cons (pe_tup (pa_cons pe_int (pa_cons pe_int (pa_cons pe_int pa_nil)))) (pa_cons (pe_tup (pa_cons pe_int (pa_cons pe_int (pa_cons pe_int pa_nil)))) (pa_cons (pe_tup (pa_cons pe_int (pa_cons pe_int (pa_cons pe_int pa_nil)))) (pa_cons (pe_tup (pa_cons pe_int (pa_cons pe_int (pa_cons pe_int pa_nil)))) (pa_cons (pe_tup (pa_cons pe_int (pa_cons pe_int (pa_cons pe_int pa_nil)))) (pa_cons (pe_tup (pa_cons pe_int (pa_cons pe_int (pa_cons pe_int pa_nil)))) (pa_cons (pe_tup (pa_cons pe_int (pa_cons pe_int (pa_cons pe_int pa_nil)))) (pa_cons (pe_tup (pa_cons pe_int (pa_cons pe_int (pa_cons pe_int pa_nil)))) pa_nil))))))))))
      (pss_cons (ps_asg (pe_ix ix_list (pv 1) (pe_call GT h2 (by rfl) gT kT bT .nil pass0 (pa_cons (pv 0) (pa_cons pe_int pa_nil))) (fun _ _ => rfl)) (pg_tup (by rfl) (pgs_cons (pg_name (i := 2) scSmall.nd rfl (.inl rfl)) (pgs_cons (pg_name (i := 3) scSmall.nd rfl (.inl rfl)) (pgs_cons (pg_name (i := 4) scSmall.nd rfl (.inl rfl)) pgs_nil)))))
      (pss_one (ps_ret (pe_tup (pa_cons (pe_call GH hr (by rfl) gH kH bH .nil pass0 (pa_cons (pv 0) (pa_cons (pv 2) (pa_cons pe_int (pa_cons pe_int (pa_cons (pv 3) pa_nil)))))) (pa_cons (pv 2) (pa_cons (pv 4) (pa_cons (pe_op op_mul (pv 4) (pv 3)) pa_nil)))))))), ?_⟩
    -- sem
    refine ⟨by show 3 ≤ sizeLine; decide, fun A1 n1 => ?_⟩
    have s1 := same_upd (o := .tup [V.int 1, V.int 3, V.int 5]) n1
    have P1 := hP.same s1
    have np1 := (hP.nep n1).1
    refine ⟨by show 3 ≤ sizeLine; decide, fun A2 n2 => ?_⟩
    have s2 := same_upd (o := .tup [V.int 1, V.int 9, V.int 2]) n2
    have P2 := P1.same s2
    have np2 := (P1.nep n2).1
    refine ⟨by show 3 ≤ sizeLine; decide, fun A3 n3 => ?_⟩
    have s3 := same_upd (o := .tup [V.int 2, V.int 2, V.int 3]) n3
    have P3 := P2.same s3
    have np3 := (P2.nep n3).1
    refine ⟨by show 3 ≤ sizeLine; decide, fun A4 n4 => ?_⟩
    have s4 := same_upd (o := .tup [V.int 2, V.int 1, V.int 6]) n4
    have P4 := P3.same s4
    have np4 := (P3.nep n4).1
    refine ⟨by show 3 ≤ sizeLine; decide, fun A5 n5 => ?_⟩
    have s5 := same_upd (o := .tup [V.int 2, V.int 3, V.int 2]) n5
    have P5 := P4.same s5
    have np5 := (P4.nep n5).1
    refine ⟨by show 3 ≤ sizeLine; decide, fun A6 n6 => ?_⟩
    have s6 := same_upd (o := .tup [V.int 3, V.int 1, V.int 3]) n6
    have P6 := P5.same s6
    have np6 := (P5.nep n6).1
    refine ⟨by show 3 ≤ sizeLine; decide, fun A7 n7 => ?_⟩
    have s7 := same_upd (o := .tup [V.int 3, V.int 2, V.int 1]) n7
    have P7 := P6.same s7
    have np7 := (P6.nep n7).1
    refine ⟨by show 3 ≤ sizeLine; decide, fun A8 n8 => ?_⟩
    have s8 := same_upd (o := .tup [V.int 2, V.int 2, V.int 2]) n8
    have P8 := P7.same s8
    have np8 := (P7.nep n8).1
    refine ⟨by show 8 ≤ sizeLine; decide, fun L nL => ?_⟩
    have sL := same_upd (o := .lst [V.ref A1, V.ref A2, V.ref A3, V.ref A4, V.ref A5, V.ref A6, V.ref A7, V.ref A8]) nL
    have PL := P8.same sL
    have npL := (P8.nep nL).1
    have u8 := sL
    have u7 := s8.trans u8
    have u6 := s7.trans u7
    have u5 := s6.trans u6
    have u4 := s5.trans u5
    have u3 := s4.trans u4
    have u2 := s3.trans u3
    have u1 := s2.trans u2
    have s0 := s1.trans u1
    refine ⟨_, rfl, _, rfl, p, c, ns, _, 8, rfl, PL, by unfold penMost; omega, by decide, by decide, fun r H2 r0 r1 kp P' => ?_⟩
    have pick : ∃ (T : Addr) (t : Int × Int × Int), t ∈ cfgs ∧ atI [V.ref A1, V.ref A2, V.ref A3, V.ref A4, V.ref A5, V.ref A6, V.ref A7, V.ref A8] r = some (.ref T) ∧ H2 T = some (.tup (tri t)) := by
      have : r = 0 ∨ r = 1 ∨ r = 2 ∨ r = 3 ∨ r = 4 ∨ r = 5 ∨ r = 6 ∨ r = 7 := by omega
      rcases this with rfl | rfl | rfl | rfl | rfl | rfl | rfl | rfl
      · exact ⟨A1, (1, 3, 5), by decide, atI_nat (j := 0) rfl, kp _ _ (u1 _ _ upd_same) np1.symm⟩
      · exact ⟨A2, (1, 9, 2), by decide, atI_nat (j := 1) rfl, kp _ _ (u2 _ _ upd_same) np2.symm⟩
      · exact ⟨A3, (2, 2, 3), by decide, atI_nat (j := 2) rfl, kp _ _ (u3 _ _ upd_same) np3.symm⟩
      · exact ⟨A4, (2, 1, 6), by decide, atI_nat (j := 3) rfl, kp _ _ (u4 _ _ upd_same) np4.symm⟩
      · exact ⟨A5, (2, 3, 2), by decide, atI_nat (j := 4) rfl, kp _ _ (u5 _ _ upd_same) np5.symm⟩
      · exact ⟨A6, (3, 1, 3), by decide, atI_nat (j := 5) rfl, kp _ _ (u6 _ _ upd_same) np6.symm⟩
      · exact ⟨A7, (3, 2, 1), by decide, atI_nat (j := 6) rfl, kp _ _ (u7 _ _ upd_same) np7.symm⟩
      · exact ⟨A8, (2, 2, 2), by decide, atI_nat (j := 7) rfl, kp _ _ (u8 _ _ upd_same) np8.symm⟩
    obtain ⟨T, t, ht, hv, hT⟩ := pick
    obtain ⟨kd, n, et, cf⟩ := cfg_of t ht
    obtain ⟨t1, size, t3⟩ := t
    have cf' : Cfg kd size n := cf
    have et1 : t1 = (kd : Int) := (Prod.mk.inj et).1
    have et2 : t3 = (n : Int) := (Prod.mk.inj (Prod.mk.inj et).2).2
    subst et1
    subst et2
    refine ⟨L, _, r, _, rfl, rfl, SqL.of (kp _ _ upd_same npL.symm), hv, ?_⟩
    refine ⟨T, _, rfl, SqT.of hT, rfl, _, _, rfl, _, _, rfl, _, _, rfl, rfl, ?_⟩
    have k1 := cf'.k1
    have k3 := cf'.k3
    have z1 := cf'.s1
    have z9 := cf'.s9
    have n1 := cf'.n1
    have n6 := cf'.n6
    refine ⟨_, rfl, _, rfl, _, rfl, p, c, ns, _, (kd : Int), 3, 3, size, rfl, P', by unfold penMost; omega, ⟨by omega, by omega⟩, ⟨by decide, by decide⟩, ⟨by decide, by decide⟩, ⟨by omega, by omega⟩, fun ha H3 h kp3 P3 dH okH => ?_⟩
    refine ⟨_, rfl, _, rfl, _, rfl, _, rfl, (n : Int), size, rfl, rfl, .inl ⟨by omega, by omega⟩, by show 4 ≤ sizeLine; decide, fun R nR => ?_⟩
    have sR := same_upd (o := .tup [V.ref ha, V.int (kd : Int), V.int (n : Int), V.int ((n : Int) * size)]) nR
    exact q R _ ha h kd n size ((((s0.kp).trans kp).trans kp3).same sR) ((P3.same sR).mono (by omega)) upd_same (dp_same sR dH) okH cf'
end
/-! ### in another order, drawn -/
def sTurned : Stmt := topS 37
def plainD (d : PyData) : Prop := PyData.canLay0 d = true ∧ PyData.depth d ≤ 5 ∧ noL d = true
theorem plain_all : ∀ {ds : List PyData}, (∀ d ∈ ds, plainD d) → PyData.canLayAll0 ds = true ∧ PyData.depthAll ds ≤ 5 ∧ noLAll ds = true
  | [], _ => ⟨rfl, Nat.zero_le _, by simp [noLAll]⟩
  | d :: ds, h => by
    obtain ⟨h1, h2, h3⟩ := h d List.mem_cons_self
    obtain ⟨i1, i2, i3⟩ := plain_all fun e he => h e (List.mem_cons_of_mem _ he)
    refine ⟨by simp [PyData.canLayAll0, h1, i1], ?_, by simp [noLAll, h3, i3]⟩
    show max (PyData.depth d) (PyData.depthAll ds) ≤ 5
    omega
theorem plain_shaped {ds : List PyData} (h : ∀ d ∈ ds, plainD d) : SeqAt.shaped (.list ds) = true := by
  obtain ⟨i1, i2, _⟩ := plain_all h
  unfold SeqAt.shaped
  rw [Bool.and_eq_true, decide_eq_true_iff]
  refine ⟨by simp only [PyData.canLay0]; exact i1, ?_⟩
  simp only [PyData.depth]
  omega
theorem plain_int (n : Int) : plainD (.int n) := ⟨rfl, by simp [PyData.depth], noL_int n⟩
theorem plain_way (l : List Int) : plainD (wayD l) := by
  obtain ⟨w1, w2⟩ := ways_flat l
  refine ⟨by unfold wayD; simp only [PyData.canLay0]; exact w2, ?_, noL_way l⟩
  unfold wayD
  simp only [PyData.depth]
  omega
theorem plain_ask (a : List (List Int)) : plainD (askD a) := by
  obtain ⟨w1, w2⟩ := sts_flat a
  refine ⟨by unfold askD; simp only [PyData.canLay0]; exact w2, ?_, noL_ask a⟩
  unfold askD
  simp only [PyData.depth]
  omega
theorem dpAll_erase {K : PySem.W.Frag} {H : Hp} : ∀ {vs : List V} {ds : List PyData} (k : Nat), DpAll K H vs ds → DpAll K H (vs.eraseIdx k) (ds.eraseIdx k)
  | _, _, _, .nil => .nil
  | _, _, 0, .cons _ t => t
  | _, _, k + 1, .cons h t => .cons h (dpAll_erase k t)
theorem erase_perm {α : Type} : ∀ {l : List α} {k : Nat} (h : k < l.length), (l[k] :: l.eraseIdx k).Perm l
  | a :: r, 0, _ => List.Perm.refl _
  | a :: r, k + 1, h => by
    have h' : k < r.length := by simpa using h
    show (r[k] :: a :: r.eraseIdx k).Perm (a :: r)
    exact (List.Perm.swap a r[k] _).trans ((erase_perm h').cons a)
theorem eqv_nilD (ds : List PyData) : PyData.eqv (.list ds) (.list []) = ds.isEmpty := by
  cases ds with
  | nil => rfl
  | cons a r => rfl
theorem seqIx {i : Int} {n : Nat} (h0 : 0 ≤ i) (h1 : i < n) : seqIndex? i n = some i.toNat := by
  unfold seqIndex?
  have e : (if i < 0 then i + (n : Int) else i) = i := if_neg (by omega)
  simp only [e]
  rw [if_pos (by rw [Bool.and_eq_true, decide_eq_true_iff, decide_eq_true_iff]; exact ⟨h0, h1⟩)]
def spTurned (K : PySem.W.Frag) : Sp := fun vs H Q _ => ∃ (p c : Addr) (ns : List Int) (m : Nat) (a : Addr) (xs : List V) (ds : List PyData), vs = [.ref p, .ref a] ∧ Pen H p c ns m ∧ m + 20 < penMost ∧ (SqL K H a xs ∨ SqT K H a xs) ∧ DpAll K H xs ds ∧ (∀ d ∈ ds, plainD d) ∧ xs.length ≤ 20 ∧
  ∀ q H' ys es, Kp p H H' → Pen H' p c ns (m + 20) → H q = none → H' q = some (.lst ys) → DpAll K H' ys es → es.Perm ds → Q (.ref q) H'
section
variable {P : Program} {w : World} {K : PySem.W.Frag} {mg : Str → Option Value} {base : Heap}
theorem scTurned : FnScope ["pen", "some", "left", "found"] ["pen", "some"] (defScope sTurned) := ⟨rfl, rfl, rfl, by decide +kernel, rfl, by decide +kernel, by decide +kernel⟩
theorem ok_turned {f fT : Addr} {fd fdT : FuncData} {k : Nat} (F : Fun K "_law_turned" "_law_turned" sTurned f fd) (GT : FnOk P w K mg base CX0 (k + 2) fT fdT ["pen", "amount"] spTake) (kT : PySem.W.keepIn K (.ref fT) = true) (bT : Binds K fdT ["pen", "amount"] []) (gT : mg "_law_take" = some (.ref fT))
    (ml : mg "list" = none) (mn : mg "len" = none) : FnOk P w K mg base CX0 (k + 3) f fd ["pen", "some"] (spTurned K) := by
  refine F.ok scTurned (fun vs H Q E h => ?_) (fun cdv A outer s H vs Q E hr h => ?_)
  · obtain ⟨p, c, ns, m, a, xs, ds, rfl, _⟩ := h
    rfl
  · obtain ⟨p, c, ns, m, a, xs, ds, rfl, hP, hn, hS, dx, pl, x20, q⟩ := h
    unfold penMost at hn
    refine ⟨_, pss_cons (ps_par (i := 2) (j := 3) rfl scTurned.nd rfl rfl (by decide) rfl rfl (pa_cons (pe_callTy call_list_of (by rfl) ml (by decide +kernel) (pa_cons (pv 1) pa_nil)) (pa_cons (pe_lst pa_nil) pa_nil)) (by rfl))
      (pss_cons (ps_while PassesOwn.never (pt_cmpR (op_neD hr.units) (pv 2) (pe_lst pa_nil) (nomark _)) (pss_one (ps_expr (pe_bm PySem.F.plainAttrs_list PySem.F.slot_list_append PySem.F.type_list_append mt_append (pv 3) (pa_cons (pe_bm PySem.F.plainAttrs_list PySem.F.slot_list_pop PySem.F.type_list_pop mt_popAt (pv 2) (pa_cons (pe_call GT hr (by rfl) gT kT bT .nil pass0 (pa_cons (pv 0) (pa_cons (pe_callB call_len_seq (by rfl) mn PySem.boot_len (pa_cons (pv 2) pa_nil)) pa_nil))) pa_nil)) pa_nil)))))
      (pss_one (ps_ret (pv 3)))), ?_⟩
    -- sem
    refine ⟨_, rfl, a, xs, rfl, hS, fun L nL => ?_⟩
    have sL := same_upd (o := .lst xs) nL
    have npL := (hP.nep nL).1
    have PL := hP.same sL
    refine ⟨by show 0 ≤ sizeLine; decide, fun G nG => ?_⟩
    have sG := same_upd (o := .lst []) nG
    have npG := (PL.nep nG).1
    have nHG : H G = none := sL.free nG
    have nLG : L ≠ G := ne_of_none upd_same nG
    refine ⟨_, _, rfl, ?_⟩
    have lx := dpAll_len dx
    refine ⟨fun t σ H1 => ∃ (ls fs : List V) (dl df : List PyData), σ = [some (.ref p), some (.ref a), some (.ref L), some (.ref G)] ∧ Kp p H H1 ∧ Pen H1 p c ns (m + (20 - t)) ∧ H1 L = some (.lst ls) ∧ H1 G = some (.lst fs) ∧ DpAll K H1 ls dl ∧ DpAll K H1 fs df ∧ (df ++ dl).Perm ds ∧ dl.length = t ∧ t ≤ 20,
      ⟨ds.length, xs, [], ds, [], rfl, (sL.trans sG).kp, (PL.same sG).mono (by omega), sG _ _ upd_same, upd_same, dpAll_same (sL.trans sG) dx, .nil, List.Perm.refl _, rfl, by omega⟩, ?_⟩
    rintro t σ H1 ⟨ls, fs, dl, df, rfl, kp1, P1, hL, hG, dl1, df1, pm1, lt, t20⟩
    have pdl : ∀ d ∈ dl, plainD d := fun d hd => pl d (pm1.mem_iff.mp (List.mem_append_right _ hd))
    have pdf : ∀ d ∈ df, plainD d := fun d hd => pl d (pm1.mem_iff.mp (List.mem_append_left _ hd))
    have lls := dpAll_len dl1
    have lfs := dpAll_len df1
    have lall := pm1.length_eq
    rw [List.length_append] at lall
    refine ⟨_, rfl, by show 0 ≤ sizeLine; decide, fun E1 nE => ?_⟩
    have sE := same_upd (o := .lst []) nE
    refine ⟨.list dl, .list [], .lst (SqL.of (sE _ _ hL)) (dpAll_same sE dl1), .lst (SqL.of upd_same) .nil, plain_shaped pdl, plain_shaped (by simp), _, rfl, ?_⟩
    rw [eqv_nilD]
    have P2 := P1.same sE
    have hL2 := sE _ _ hL
    have hG2 := sE _ _ hG
    cases dl with
    | nil =>
      refine ifF rfl ?_
      rw [List.append_nil] at pm1
      exact ⟨_, rfl, q G _ fs df (kp1.same sE) (P2.mono (by omega)) nHG hG2 (dpAll_same sE df1) pm1⟩
    | cons d0 dr =>
      refine ifT rfl ⟨fun σ H2 => ∃ (ls fs : List V) (dl df : List PyData), σ = [some (.ref p), some (.ref a), some (.ref L), some (.ref G)] ∧ Kp p H H2 ∧ Pen H2 p c ns (m + (20 - (t - 1))) ∧ H2 L = some (.lst ls) ∧ H2 G = some (.lst fs) ∧ DpAll K H2 ls dl ∧ DpAll K H2 fs df ∧ (df ++ dl).Perm ds ∧ dl.length = t - 1 ∧ t - 1 ≤ 20,
        fun σ' H' h => ⟨t - 1, by simp at lt; omega, h⟩, ?_⟩
      have t1 : 1 ≤ t := by simp at lt; omega
      refine ⟨_, rfl, .inl ⟨rfl, _, SqL.of hG2⟩, ?_⟩
      refine ⟨_, rfl, .inl ⟨rfl, _, SqL.of hL2⟩, _, rfl, _, rfl, L, ls, rfl, .inl (SqL.of hL2), p, c, ns, _, _, rfl, P2, by unfold penMost; omega, by omega, by omega, fun r H2 r0 r1 kp2 P3 => ?_⟩
      have hL3 := kp2 _ _ hL2 npL.symm
      have hG3 := kp2 _ _ hG2 npG.symm
      have dl3 := P2.dpAll kp2 (dpAll_same sE dl1) (plain_all pdl).2.2
      have df3 := P2.dpAll kp2 (dpAll_same sE df1) (plain_all pdf).2.2
      have rn : r.toNat < (d0 :: dr).length := by omega
      obtain ⟨y, hy⟩ : ∃ y, ls[r.toNat]? = some y := ⟨_, List.getElem?_eq_getElem (by omega)⟩
      obtain ⟨dy, hdy, dyy⟩ := dpAll_get dl3 hy
      refine ⟨L, ls, r, r.toNat, y, rfl, rfl, hL3, by omega, by omega, seqIx r0 r1, hy, ?_⟩
      have dl4 := dpAll_erase r.toNat dl3
      have pde := pl dy (pm1.mem_iff.mp (List.mem_append_right _ (List.mem_of_getElem? hdy)))
      have n3 := (plain_all pdl).2.2
      have pder : ∀ d ∈ (d0 :: dr).eraseIdx r.toNat, plainD d := fun d hd => pdl d (List.mem_of_mem_eraseIdx hd)
      -- the list without it
      have kpL : ∀ {v : List V} {d : List PyData}, DpAll K H2 v d → noLAll d = true → DpAll K (upd H2 L (.lst (ls.eraseIdx r.toNat))) v d := fun h n => dpAll_put hL3 h n
      have dl5 := kpL dl4 (plain_all pder).2.2
      have df5 := kpL df3 (plain_all pdf).2.2
      have dy5 : DpAll K (upd H2 L (.lst (ls.eraseIdx r.toNat))) [y] [dy] := kpL (.cons dyy .nil) (by simp [noLAll, pde.2.2])
      have hG5 : (upd H2 L (.lst (ls.eraseIdx r.toNat))) G = some (.lst fs) := by rw [upd_ne nLG.symm]; exact hG3
      have nLc : c ≠ L := fun e => by
        have h1 := P3.ce
        rw [e, hL3] at h1
        have e2 : ls = ns.map V.int := HO.lst.inj (Option.some.inj h1)
        exact (hP.nep nL).2 e
      have np5 := P3.put (o := .lst (ls.eraseIdx r.toNat)) npL nLc
      have nHL := nL
      refine ⟨G, fs, _, rfl, rfl, hG5, small_line (by omega), ?_⟩
      refine ⟨_, _, _, df ++ [dy], rfl, (((kp1.same sE).trans kp2).put nHL).put nHG, (np5.put npG (fun e => (PL.nep nG).2 e)).mono (by omega), by rw [upd_ne nLG]; exact upd_same, upd_same, dpAll_put hG5 dl5 (plain_all pder).2.2, dpAll_put hG5 (dpAll_app df5 dy5) ?_, ?_, ?_, by omega⟩
      · have : ∀ d ∈ df ++ [dy], plainD d := fun d hd => by
          rcases List.mem_append.mp hd with h | h
          · exact pdf d h
          · rw [List.mem_singleton.mp h]
            exact pde
        exact (plain_all this).2.2
      · refine List.Perm.trans ?_ pm1
        rw [List.append_assoc]
        refine List.Perm.append_left df ?_
        have e := (List.getElem?_eq_some_iff.mp hdy)
        obtain ⟨hlt, he⟩ := e
        rw [← he]
        exact erase_perm hlt
      · rw [List.length_eraseIdx_of_lt rn, lt]
end
/-! ### what may be played -/
def sPlays : Stmt := topS 34
theorem add4_four {s l : List Int} (h : l.length = s.length) (s4 : s.length ≤ 4) : add4 (four s) (four l) = four (addW s l) := by
  match s, l, h, s4 with
  | [], [], _, _ => rfl
  | [a], [e], _, _ => show [a + e, 0 + 0, 0 + 0, 0 + 0] = [a + e, 0, 0, 0]; rfl
  | [a, b], [e, f], _, _ => show [a + e, b + f, 0 + 0, 0 + 0] = [a + e, b + f, 0, 0]; rfl
  | [a, b, c], [e, f, g], _, _ => show [a + e, b + f, c + g, 0 + 0] = [a + e, b + f, c + g, 0]; rfl
  | [a, b, c, d], [e, f, g, i], _, _ => rfl
theorem ok_four {s : List Int} (s4 : s.length ≤ 4) : Ok4 (four s) ↔ okW s = true := by
  unfold okW
  rw [List.all_eq_true]
  constructor
  · rintro ⟨a, b, c, d, e, h1, h2, h3, h4⟩ x hx
    have : x ∈ four s := by
      unfold four
      exact List.mem_append_left _ hx
    rw [e] at this
    simp only [List.mem_cons, List.not_mem_nil, or_false] at this
    exact decide_eq_true (by omega)
  · intro h
    match s, s4, h with
    | [], _, _ => exact ok_zero
    | a :: r, s4, h => exact four_ok (by simp) s4 fun z hz => of_decide_eq_true (h z hz)
theorem leadsK_ex {s : List Int} {p : List Int → Prop} : ∀ {a : List (List Int)} {k : Nat}, (∃ q ∈ leadsK s k a, p q.2) ↔ ∃ l ∈ a, okW (addW s l) = true ∧ p (addW s l)
  | [], k => ⟨fun ⟨q, h, _⟩ => by simp [leadsK] at h, fun ⟨q, h, _⟩ => nomatch h⟩
  | l :: r, k => by
    have ih := leadsK_ex (s := s) (p := p) (a := r) (k := k + 1)
    rw [leadsK_cons]
    constructor
    · rintro ⟨q, hq, z⟩
      rcases List.mem_append.mp hq with hq | hq
      · split at hq
        · rename_i c
          rw [List.mem_singleton.mp hq] at z
          exact ⟨l, List.mem_cons_self, c, z⟩
        · simp at hq
      · obtain ⟨l2, h2, z2⟩ := ih.mp ⟨q, hq, z⟩
        exact ⟨l2, List.mem_cons_of_mem _ h2, z2⟩
    · rintro ⟨l2, h2, c, z⟩
      rcases List.mem_cons.mp h2 with rfl | h2
      · refine ⟨((k : Int), addW s l2), List.mem_append_left _ ?_, z⟩
        rw [if_pos c]
        exact List.mem_singleton.mpr rfl
      · obtain ⟨q, hq, z2⟩ := ih.mpr ⟨l2, h2, c, z⟩
        exact ⟨q, List.mem_append_right _ hq, z2⟩
theorem ln_plays {h : Asks} {s : List Int} {n : Nat} (s4 : s.length ≤ 4) (hl : ∀ a ∈ h, ∀ l ∈ a, l.length = s.length) :
    LN (asks4 h) (n + 1) (four s) ↔ ∀ a ∈ h, ∃ q ∈ leadsK s 0 a, LN (asks4 h) n (four q.2) := by
  show (∀ a ∈ asks4 h, ∃ w ∈ a, Ok4 (add4 (four s) w) ∧ LN (asks4 h) n (add4 (four s) w)) ↔ _
  have al : ∀ a ∈ h, ∀ l ∈ a, add4 (four s) (four l) = four (addW s l) ∧ (addW s l).length ≤ 4 := fun a ha l hm => by
    refine ⟨add4_four (hl a ha l hm) s4, ?_⟩
    unfold addW
    rw [List.length_zipWith]
    omega
  constructor
  · intro z a ha
    obtain ⟨w, hw, o, r⟩ := z _ (List.mem_map.mpr ⟨a, ha, rfl⟩)
    obtain ⟨l, hm, rfl⟩ := List.mem_map.mp hw
    obtain ⟨e, l4⟩ := al a ha l hm
    rw [e] at o r
    exact (leadsK_ex (p := fun t => LN (asks4 h) n (four t))).mpr ⟨l, hm, (ok_four l4).mp o, r⟩
  · intro z a' ha'
    obtain ⟨a, ha, rfl⟩ := List.mem_map.mp ha'
    obtain ⟨l, hm, o, r⟩ := (leadsK_ex (p := fun t => LN (asks4 h) n (four t))).mp (z a ha)
    obtain ⟨e, l4⟩ := al a ha l hm
    refine ⟨four l, List.mem_map.mpr ⟨l, hm, rfl⟩, ?_⟩
    rw [e]
    exact ⟨(ok_four l4).mpr o, r⟩
theorem leadsK_ok {s : List Int} : ∀ {a : List (List Int)} {k : Nat} {q : Int × List Int}, q ∈ leadsK s k a → okW q.2 = true ∧ ∃ l ∈ a, q.2 = addW s l
  | [], _, _, h => by simp [leadsK] at h
  | l :: r, k, q, h => by
    rw [leadsK_cons] at h
    rcases List.mem_append.mp h with h | h
    · split at h
      · rename_i c
        rw [List.mem_singleton.mp h]
        exact ⟨c, l, List.mem_cons_self, rfl⟩
      · simp at h
    · obtain ⟨o, l2, h2, e⟩ := leadsK_ok h
      exact ⟨o, l2, List.mem_cons_of_mem _ h2, e⟩
def spPlays (K : PySem.W.Frag) : Sp := fun vs H Q _ => ∃ (x y : V) (h : Asks) (s : List Int) (kd n m : Nat), vs = [x, y, .int ((n + 1 : Nat) : Int)] ∧ Dp K H x (houseD h) ∧ Dp K H y (wayD s) ∧ HsOk h kd ∧ s.length = kd ∧ (∀ z ∈ s, 0 ≤ z) ∧ n ≤ 1000 ∧ Few (asks4 h) n m ∧
  ∀ b H', Same H H' → (b = true ↔ LN (asks4 h) (n + 1) (four s)) → Q (.bl b) H'
section
variable {P : Program} {w : World} {K : PySem.W.Frag} {mg : Str → Option Value} {base : Heap}
theorem scPlays : FnScope ["house", "store", "n", "i", "k", "there"] ["house", "store", "n"] (defScope sPlays) := ⟨rfl, rfl, rfl, by decide +kernel, rfl, by decide +kernel, by decide +kernel⟩
theorem ok_plays {f fL fB : Addr} {fd fdL fdB : FuncData} {k : Nat} (F : Fun K "_law_plays" "_law_plays" sPlays f fd)
    (GL : FnOk P w K mg base CX0 (k + 5) fL fdL ["house", "i", "store"] (spLeads K)) (kL : PySem.W.keepIn K (.ref fL) = true) (bL : Binds K fdL ["house", "i", "store"] []) (gL : mg "leads" = some (.ref fL))
    (GB : FnOk P w K mg base CX0 (k + 5) fB fdB ["house", "store", "n"] (spLasts K)) (kB : PySem.W.keepIn K (.ref fB) = true) (bB : Binds K fdB ["house", "store", "n"] []) (gB : mg "lasts" = some (.ref fB))
    (mr : mg "range" = none) (ml : mg "len" = none) : FnOk P w K mg base CX0 (k + 6) f fd ["house", "store", "n"] (spPlays K) := by
  refine F.ok scPlays (fun vs H Q E h => ?_) (fun cdv A outer s0 H vs Q E hr h => ?_)
  · obtain ⟨x, y, h, s, kd, n, m, rfl, _⟩ := h
    rfl
  · obtain ⟨x, y, h, s, kd, n, m, rfl, hx, hy, o, ls, s0', n1, fw, q⟩ := h
    refine ⟨_, pss_cons (ps_for PassesOwn.never rfl (pi_range1 (by rfl) mr (pa_cons (pe_callB call_len_seq (by rfl) ml PySem.boot_len (pa_cons (pv 0) pa_nil)) pa_nil)) (pg_name (i := 3) scPlays.nd rfl (.inl rfl)) (pss_one (ps_if (pt_cmpR (op_eqD hr.units) (pe_lc (own := [("k", 4), ("there", 5)]) (g := gTup K 2 (gCons (gName 4) (gCons (gName 5) gNil))) (tt := tTest (tCall (spLasts K) [] E0 (tCons (tVar 0) (tCons (tVar 5) (tCons (tOp (rI0 fun i j => .int (i - j)) (tVar 2) (tC (.int 1))) tNil))))) rfl scPlays.nd (pi_list (pe_call GL hr (by rfl) gL kL bL .nil pass0 (pa_cons (pv 0) (pa_cons (pv 3) (pa_cons (pv 1) pa_nil)))))
        (blkOk_by (N := ["house", "store", "n", "i", "k", "there"]) (sc := defScope sPlays) (by decide +kernel))
        (fun _ _ _ _ _ => by refine pg_tup rfl (pgs_cons ?_ (pgs_cons ?_ pgs_nil)); exact pg_name (i := 4) scPlays.nd rfl (.inl rfl); exact pg_name (i := 5) scPlays.nd rfl (.inl rfl))
        (fun _ _ _ _ _ => by exact pts_one (pt_val (pe_call GB hr (by rfl) gB kB bB .nil pass0 (pa_cons (pv 0) (pa_cons (pv 5) (pa_cons (pe_op op_sub (pv 2) pe_int) pa_nil)))))) (fun _ _ _ _ _ => by exact pe_int)) (pe_lst pa_nil) (nomark _)) (pss_one (ps_ret pe_bl)) pss_nil)))
      (pss_one (ps_ret pe_bl)), ?_⟩
    -- sem
    have k1 := o.k1
    have k4 := o.k4
    have hl : ∀ a ∈ h, ∀ l ∈ a, l.length = s.length := fun a ha l hl => by rw [o.len a ha l hl, ls]
    rw [ln_plays (by omega) hl] at q
    have hx0 := hx
    cases hx with
    | @tup ha asv _ hT hall =>
    have lh : asv.length = h.length := by rw [dpAll_len hall, List.length_map]
    refine ⟨_, rfl, ha, asv, rfl, .inr hT, _, rfl, by omega, by rw [lh]; have := o.few; omega, ?_⟩
    refine for_range (lo := 0) (n := (asv.length : Int).toNat) (fun j σ H1 => ∃ y3, σ = [some (.ref ha), some y, some (.int ((n + 1 : Nat) : Int)), y3, none, none] ∧ Same H H1 ∧ ∀ i a, i < j → h[i]? = some a → ∃ q ∈ leadsK s 0 a, LN (asks4 h) n (four q.2))
      ⟨none, rfl, Same.refl _, fun i a z _ => absurd z (Nat.not_lt_zero _)⟩ ?_ ?_
    · rintro j σ H1 hj ⟨y3, rfl, s1, done⟩
      have hj2 : j < h.length := by omega
      obtain ⟨a, haj⟩ : ∃ a, h[j]? = some a := ⟨_, List.getElem?_eq_getElem hj2⟩
      have ma := List.mem_of_getElem? haj
      rw [Int.zero_add]
      refine ⟨_, rfl, _, rfl, _, rfl, .ref ha, y, h, j, a, s, rfl, dp_same s1 hx0, dp_same s1 hy, haj, hl a ma, by omega, by omega, by have := o.five a ma; omega, fun G H2 ps s2 nG hG dps => ?_⟩
      refine ⟨G, rfl, ⟨_, SqL.of hG⟩, fun D nD => ?_⟩
      have sD := same_upd (o := .lst []) nD
      have lps := dpAll_len dps
      rw [List.length_map] at lps
      have l5 := leadsK_len s a 0
      have a5 := o.five a ma
      refine lc_list (K := K) (a := G) (xs := ps) (fun m2 H3 => Same H2 H3 ∧ ∃ zs : List Int, H3 D = some (.lst (zs.map V.int)) ∧ zs.length ≤ m2 ∧ (zs = [] ↔ ∀ q ∈ (leadsK s 0 a).take m2, ¬ LN (asks4 h) n (four q.2)))
        ⟨sD, [], upd_same, Nat.zero_le _, by simp⟩ (fun m2 H3 _ ⟨s3, _⟩ => s3.seq (SqL.of hG)) ?_ ?_
      · rintro m2 v H3 hm ⟨s3, zs, hD, lz, ez⟩
        have m2l : m2 < ps.length := (List.getElem?_eq_some_iff.mp hm).1
        obtain ⟨d, hd, dv⟩ := dpAll_get dps hm
        rw [List.getElem?_map] at hd
        obtain ⟨pr, hpr, rfl⟩ := Option.map_eq_some_iff.mp hd
        have mpr := List.mem_of_getElem? hpr
        obtain ⟨okp, l0, ml0, el0⟩ := leadsK_ok mpr
        cases dv with
        | @tup T tv _ tT tall =>
        cases tall with
        | @cons u1 d1 _ _ du1 tall =>
        cases tall with
        | @cons u2 d2 _ _ du2 tall =>
        cases tall
        cases du1
        have lw : pr.2.length = kd := by
          rw [el0]
          unfold addW
          rw [List.length_zipWith, hl a ma l0 ml0, ls, Nat.min_self]
        refine ⟨T, _, rfl, s3.seqT tT, rfl, _, _, rfl, _, _, rfl, rfl, rfl, ?_⟩
        refine ⟨_, rfl, _, rfl, _, rfl, ((n + 1 : Nat) : Int), 1, rfl, rfl, .ref ha, u2, h, pr.2, kd, n, m, ?_, dp_same (s1.trans (s2.trans s3)) hx0, dp_same s3 du2, o, by omega, by omega, fun z hz => ?_, n1, fw, fun b H4 s4 hb => ?_⟩
        · show [V.ref ha, u2, V.int (((n + 1 : Nat) : Int) - 1)] = [V.ref ha, u2, V.int n]
          rw [show ((n + 1 : Nat) : Int) - 1 = (n : Int) by omega]
        · unfold okW at okp
          exact of_decide_eq_true (List.all_eq_true.mp okp z hz)
        · refine ⟨b, rfl, ?_⟩
          have hD4 := s4 _ _ hD
          have tk : (leadsK s 0 a).take (m2 + 1) = (leadsK s 0 a).take m2 ++ [pr] := take_snoc hpr
          cases b with
          | true =>
            have ln := hb.mp rfl
            refine ite2 (fun _ => ?_) (fun c => absurd rfl c)
            refine ⟨_, hD4, by rw [List.length_map]; exact small_line (by omega), fun b o e => ?_, zs ++ [1], ?_, by rw [List.length_append]; show zs.length + 1 ≤ m2 + 1; omega, fun z => absurd z (by simp), fun z => ?_⟩
            · rw [upd_ne (ne_of_none e nD)]
              exact s4 _ _ (s3 _ _ e)
            · rw [upd_same, List.map_append]
              rfl
            · rw [tk] at z
              exact absurd ln (z pr (List.mem_append_right _ (List.mem_singleton.mpr rfl)))
          | false =>
            have ln : ¬ LN (asks4 h) n (four pr.2) := fun z => Bool.noConfusion (hb.mpr z)
            refine ite2 (fun c => Bool.noConfusion c) (fun _ => ?_)
            refine ⟨s3.trans s4, zs, hD4, by omega, ez.trans ⟨fun z q hq => ?_, fun z q hq => z q (by rw [tk]; exact List.mem_append_left _ hq)⟩⟩
            rw [tk] at hq
            rcases List.mem_append.mp hq with hq | hq
            · exact z q hq
            · rw [List.mem_singleton.mp hq]
              exact ln
      · rintro H3 ⟨s3, zs, hD, lz, ez⟩
        rw [List.take_of_length_le (by omega)] at ez
        refine ⟨by show 0 ≤ sizeLine; decide, fun E1 nE => ?_⟩
        have sE := same_upd (o := .lst []) nE
        refine ⟨.list (zs.map PyData.int), .list [], .lst (SqL.of (sE _ _ hD)) (dpAll_ints zs), .lst (SqL.of upd_same) .nil, plain_shaped ?_, plain_shaped (by simp), _, rfl, ?_⟩
        · intro d hd
          obtain ⟨z, _, rfl⟩ := List.mem_map.mp hd
          exact plain_int z
        rw [eqv_nilD]
        have s03 := (s1.trans s2).trans (s3.trans sE)
        cases zs with
        | nil =>
          refine ifT rfl (q false _ s03 ⟨fun z => Bool.noConfusion z, fun z => ?_⟩)
          obtain ⟨q, hq, l⟩ := z a ma
          exact absurd l (ez.mp rfl q hq)
        | cons z0 zr =>
          refine ifF rfl ⟨_, rfl, s03, fun i a' hi ha' => ?_⟩
          by_cases c : i < j
          · exact done i a' c ha'
          · obtain rfl : i = j := by omega
            rw [haj] at ha'
            cases ha'
            apply Classical.byContradiction
            intro z
            have := ez.mpr fun q hq l => z ⟨q, hq, l⟩
            cases this
    · rintro σ H1 ⟨y3, rfl, s1, done⟩
      refine q true H1 s1 ⟨fun _ a ha => ?_, fun _ => rfl⟩
      obtain ⟨i, hi, rfl⟩ := List.mem_iff_getElem.mp ha
      exact done i _ (by omega) (List.getElem?_eq_getElem hi)
end
/-! ### sorted of a list of tuples, by what they are -/
def rSortD (K : PySem.W.Frag) (d : Nat) (B : Int) : List V → Hp → VK → Prop := fun vs H Q => ∃ (a : Addr) (xs : List V) (S : List (List Int)), vs = [V.ref a] ∧ SqL K H a xs ∧ DpAll K H xs (S.map wayD) ∧ S.length < 64 ∧ (∀ x ∈ S, x.length = d ∧ TS.Bd B x) ∧
  ∀ (ys : List V) (T : List (List Int)) (p : Addr), T.Perm S → (T.Pairwise fun x y => TS.code B x ≤ TS.code B y) → H p = none → DpAll K (upd H p (.lst ys)) ys (T.map wayD) → Q (.ref p) (upd H p (.lst ys))
theorem cr_sortD {X : Cx} {d : Nat} {B : Int} (hd : 1 ≤ d) : CallR X (.builtin "sorted") (rSortD X.K d B) := by
  intro pins s σ H vs us Q I r h
  obtain ⟨a, xs, S, rfl, hs, hall, h64, hx, q⟩ := h
  obtain ⟨ks, rfl, rfl, hks⟩ := sts_refs hall
  refine cr_sortT (d := d) (B := B) hd pins s σ H _ us Q I r ?_
  refine ⟨a, ks.map fun p => V.ref p.1, rfl, hs, by rw [List.length_map] at h64 ⊢; exact h64, fun x m => ?_, fun ys p pm pw np => ?_⟩
  · obtain ⟨k, hk, rfl⟩ := List.mem_map.mp m
    obtain ⟨e1, e2⟩ := hx k.2 (List.mem_map.mpr ⟨k, hk, rfl⟩)
    exact ⟨k.2, ⟨k.1, rfl, hks k hk⟩, e1, e2⟩
  · obtain ⟨ks', pk, rfl⟩ := perm_lift (fun t : Addr × List Int => V.ref t.1) pm
    have ok : ∀ k ∈ ks', SqT X.K H k.1 (k.2.map V.int) := fun k hk => hks k (pk.mem_iff.mp hk)
    refine q _ (ks'.map (·.2)) p (pk.map _) ?_ np (refs_sts fun k hk => (same_upd np).seqT (ok k hk))
    rw [List.pairwise_map] at pw ⊢
    exact List.Pairwise.imp_of_mem (fun {x y} hx hy z => z x.2 y.2 ⟨x.1, rfl, ok x hx⟩ ⟨y.1, rfl, ok y hy⟩) pw
theorem eqv_ints_self : ∀ l : List Int, PyData.eqvAll (l.map PyData.int) (l.map PyData.int) = true
  | [] => rfl
  | a :: l => by
    simp only [List.map_cons, PyData.eqvAll, PyData.eqv, Bool.and_eq_true, beq_iff_eq]
    exact ⟨trivial, eqv_ints_self l⟩
theorem eqv_way_self (l : List Int) : PyData.eqv (wayD l) (wayD l) = true := by
  unfold wayD
  simp only [PyData.eqv]
  exact eqv_ints_self l
theorem eqv_stsA_self : ∀ S : List (List Int), PyData.eqvAll (S.map wayD) (S.map wayD) = true
  | [] => rfl
  | a :: l => by
    simp only [List.map_cons, PyData.eqvAll, Bool.and_eq_true]
    exact ⟨eqv_way_self a, eqv_stsA_self l⟩
theorem eqv_sts_self (S : List (List Int)) : PyData.eqv (stsD S) (stsD S) = true := by
  simp only [PyData.eqv]
  exact eqv_stsA_self S
theorem eqv_sts_iff {S T : List (List Int)} : PyData.eqv (stsD S) (stsD T) = decide (S = T) := by
  by_cases e : S = T
  · subst e
    rw [eqv_sts_self]
    exact (decide_eq_true rfl).symm
  · rw [decide_eq_false e]
    cases c : PyData.eqv (stsD S) (stsD T) with
    | false => rfl
    | true => exact absurd (eqv_sts c) e
theorem eqv_way_iff {l m : List Int} : PyData.eqv (wayD l) (wayD m) = decide (l = m) := by
  by_cases e : l = m
  · subst e
    rw [eqv_way_self]
    exact (decide_eq_true rfl).symm
  · rw [decide_eq_false e]
    cases c : PyData.eqv (wayD l) (wayD m) with
    | false => rfl
    | true =>
      unfold wayD at c
      simp only [PyData.eqv] at c
      exact absurd (eqv_ints l m c) e
theorem way_shaped (l : List Int) : SeqAt.shaped (wayD l) = true := by
  obtain ⟨w1, w2⟩ := ways_flat l
  unfold SeqAt.shaped wayD
  rw [Bool.and_eq_true, decide_eq_true_iff]
  refine ⟨by simp only [PyData.canLay0]; exact w2, ?_⟩
  simp only [PyData.depth]
  omega
/-! ### least ones have noughts for the kinds that aren't there -/
def prj (kd : Nat) (x : List Int) : List Int := four (x.take kd)
theorem prj_add {kd : Nat} {x l : List Int} (hx : x.length = 4) (hl : l.length = kd) (k1 : 1 ≤ kd) (k4 : kd ≤ 4) : add4 (prj kd x) (four l) = prj kd (add4 x (four l)) := by
  obtain ⟨a, b, c, d, rfl⟩ := len4 hx
  subst hl
  match l, k1, k4 with
  | [e], _, _ => rfl
  | [e, f], _, _ => rfl
  | [e, f, g], _, _ => rfl
  | [e, f, g, h], _, _ => rfl
theorem kd_cases {kd : Nat} (k1 : 1 ≤ kd) (k4 : kd ≤ 4) : kd = 1 ∨ kd = 2 ∨ kd = 3 ∨ kd = 4 := by omega
theorem prj_ok {kd : Nat} {x : List Int} (hx : Ok4 x) (k1 : 1 ≤ kd) (k4 : kd ≤ 4) : Ok4 (prj kd x) ∧ le4 (prj kd x) x = true := by
  obtain ⟨a, b, c, d, rfl, h1, h2, h3, h4⟩ := hx
  rcases kd_cases k1 k4 with rfl | rfl | rfl | rfl
  · exact ⟨⟨a, 0, 0, 0, rfl, by omega, by omega, by omega, by omega⟩, show le4 [a, 0, 0, 0] [a, b, c, d] = true from le4_iff.mpr (by omega)⟩
  · exact ⟨⟨a, b, 0, 0, rfl, by omega, by omega, by omega, by omega⟩, show le4 [a, b, 0, 0] [a, b, c, d] = true from le4_iff.mpr (by omega)⟩
  · exact ⟨⟨a, b, c, 0, rfl, by omega, by omega, by omega, by omega⟩, show le4 [a, b, c, 0] [a, b, c, d] = true from le4_iff.mpr (by omega)⟩
  · exact ⟨⟨a, b, c, d, rfl, by omega, by omega, by omega, by omega⟩, show le4 [a, b, c, d] [a, b, c, d] = true from le4_iff.mpr (by omega)⟩
theorem ln_prj {h : Asks} {kd : Nat} (o : HsOk h kd) : ∀ (n : Nat) {x : List Int}, Ok4 x → LN (asks4 h) n x → LN (asks4 h) n (prj kd x)
  | 0, _, _, _ => True.intro
  | n + 1, x, hx, z => fun a ha => by
    obtain ⟨w, hw, ok, l⟩ := z a ha
    obtain ⟨a0, ha0, rfl⟩ := List.mem_map.mp ha
    obtain ⟨l0, hl0, rfl⟩ := List.mem_map.mp hw
    refine ⟨_, hw, ?_⟩
    rw [prj_add (ok4_len hx) (o.len a0 ha0 l0 hl0) o.k1 o.k4]
    exact ⟨(prj_ok ok o.k1 o.k4).1, ln_prj o n ok l⟩
theorem canon_prj {M : List (List Int)} {U : List Int → Prop} {kd : Nat} (c : Canon M U) (k1 : 1 ≤ kd) (k4 : kd ≤ 4) (h : ∀ x, Ok4 x → U x → U (prj kd x)) : ∀ x ∈ M, prj kd x = x := fun x hx => by
  have ox := c.ok x hx
  obtain ⟨ok, l⟩ := prj_ok ox k1 k4
  obtain ⟨y, hy, l2⟩ := (c.up _ ok).mpr (h x ox ((c.up x ox).mp ⟨x, hx, le4_refl ox⟩))
  have e := c.anti y hy x hx (le4_trans l2 l)
  subst e
  exact le4_anti l l2
theorem lex_app (r : List Int) : ∀ {a b : List Int}, a.length = b.length → HT.lexLt (a ++ r) (b ++ r) = HT.lexLt a b
  | [], [], _ => by
    rw [List.nil_append, lex_irr]
    rfl
  | [], _ :: _, h => by simp at h
  | _ :: _, [], h => by simp at h
  | x :: a, y :: b, h => by
    rw [List.cons_append, List.cons_append, HT.lexLt_cons, HT.lexLt_cons, lex_app r (by simpa using h)]
theorem lex_four {a b : List Int} (h : a.length = b.length) : HT.lexLt (four a) (four b) = HT.lexLt a b := by
  unfold four
  rw [h]
  exact lex_app _ h
/-- least ones as they are told -/
structure Lows (kd : Nat) (M : List (List Int)) : Prop where
  len : ∀ x ∈ M, (x.take kd).length = kd
  pos : ∀ x ∈ M, ∀ z ∈ x.take kd, 0 ≤ z
  back : ∀ x ∈ M, four (x.take kd) = x
  srt : (M.map fun x => x.take kd).Pairwise fun x y => HT.lexLt x y = true
theorem lows_of {M : List (List Int)} {U : List Int → Prop} {kd : Nat} (c : Canon M U) (k1 : 1 ≤ kd) (k4 : kd ≤ 4) (h : ∀ x, Ok4 x → U x → U (prj kd x)) : Lows kd M := by
  have len : ∀ x ∈ M, (x.take kd).length = kd := fun x hx => by
    rw [List.length_take, ok4_len (c.ok x hx)]
    omega
  have back := canon_prj c k1 k4 h
  refine ⟨len, fun x hx z hz => ?_, back, ?_⟩
  · obtain ⟨p, q, r, s, rfl, h1, h2, h3, h4⟩ := c.ok x hx
    have := List.mem_of_mem_take hz
    simp only [List.mem_cons, List.not_mem_nil, or_false] at this
    omega
  · rw [List.pairwise_map]
    refine List.Pairwise.imp_of_mem (fun {x y} hx hy l => ?_) c.srt
    rw [← lex_four (by rw [len x hx, len y hy])]
    have e1 : four (x.take kd) = x := back x hx
    have e2 : four (y.take kd) = y := back y hy
    rw [e1, e2]
    exact l
/-- sorted again they are the same -/
theorem sorted_same {S T : List (List Int)} {B : Int} {d : Nat} (hd : ∀ x ∈ S, x.length = d ∧ TS.Bd B x) (srt : S.Pairwise fun x y => HT.lexLt x y = true) (p : T.Perm S) (c : T.Pairwise fun x y => TS.code B x ≤ TS.code B y) : T = S :=
  srt_eq (srt_of_code (fun x hx => hd x (p.mem_iff.mp hx)) (p.nodup_iff.mpr (nodup_of_srt srt)) c) srt fun x => p.mem_iff
/-! ### the least ones told, looked at -/
def sLowsRight : Stmt := topS 36
/-- the least ones as they are told -/
abbrev lowsD (kd : Nat) (M : List (List Int)) : PyData := .list ((M.map fun x => x.take kd).map wayD)
theorem coversB_le {s t : List Int} (e : s.length = t.length) (l4 : s.length ≤ 4) (h : coversB s t = true) : le4 (four t) (four s) = true := by
  match s, t, e, l4 with
  | [], [], _, _ => rfl
  | [a], [b], _, _ =>
    simp only [coversB, geL, List.zipWith_cons_cons, List.zipWith_nil_left, List.all_cons, List.all_nil, id, Bool.and_true, Bool.and_eq_true, decide_eq_true_eq] at h
    exact le4_iff.mpr (by omega)
  | [a, a2], [b, b2], _, _ =>
    simp only [coversB, geL, List.zipWith_cons_cons, List.zipWith_nil_left, List.all_cons, List.all_nil, id, Bool.and_true, Bool.and_eq_true, decide_eq_true_eq] at h
    exact le4_iff.mpr (by omega)
  | [a, a2, a3], [b, b2, b3], _, _ =>
    simp only [coversB, geL, List.zipWith_cons_cons, List.zipWith_nil_left, List.all_cons, List.all_nil, id, Bool.and_true, Bool.and_eq_true, decide_eq_true_eq] at h
    exact le4_iff.mpr (by omega)
  | [a, a2, a3, a4], [b, b2, b3, b4], _, _ =>
    simp only [coversB, geL, List.zipWith_cons_cons, List.zipWith_nil_left, List.all_cons, List.all_nil, id, Bool.and_true, Bool.and_eq_true, decide_eq_true_eq] at h
    exact le4_iff.mpr (by omega)
theorem le_coversB {s t : List Int} (e : s.length = t.length) (l4 : s.length ≤ 4) (h : le4 (four t) (four s) = true) : coversB s t = true := by
  match s, t, e, l4 with
  | [], [], _, _ => rfl
  | [a], [b], _, _ =>
    have := le4_iff.mp (show le4 [b, 0, 0, 0] [a, 0, 0, 0] = true from h)
    simp only [coversB, geL, List.zipWith_cons_cons, List.zipWith_nil_left, List.all_cons, List.all_nil, id, Bool.and_true, Bool.and_eq_true, decide_eq_true_eq]
    omega
  | [a, a2], [b, b2], _, _ =>
    have := le4_iff.mp (show le4 [b, b2, 0, 0] [a, a2, 0, 0] = true from h)
    simp only [coversB, geL, List.zipWith_cons_cons, List.zipWith_nil_left, List.all_cons, List.all_nil, id, Bool.and_true, Bool.and_eq_true, decide_eq_true_eq]
    omega
  | [a, a2, a3], [b, b2, b3], _, _ =>
    have := le4_iff.mp (show le4 [b, b2, b3, 0] [a, a2, a3, 0] = true from h)
    simp only [coversB, geL, List.zipWith_cons_cons, List.zipWith_nil_left, List.all_cons, List.all_nil, id, Bool.and_true, Bool.and_eq_true, decide_eq_true_eq]
    omega
  | [a, a2, a3, a4], [b, b2, b3, b4], _, _ =>
    have := le4_iff.mp (show le4 [b, b2, b3, b4] [a, a2, a3, a4] = true from h)
    simp only [coversB, geL, List.zipWith_cons_cons, List.zipWith_nil_left, List.all_cons, List.all_nil, id, Bool.and_true, Bool.and_eq_true, decide_eq_true_eq]
    omega
theorem set_less {t : List Int} {i : Nat} {z : Int} (l4 : t.length ≤ 4) (hz : t[i]? = some z) : le4 (four (t.set i (z - 1))) (four t) = true ∧ ¬ le4 (four t) (four (t.set i (z - 1))) = true :=
  match t, i, l4, hz with
  | [a], 0, _, h => by
    have e : a = z := Option.some.inj h
    subst e
    show le4 [a - 1, 0, 0, 0] [a, 0, 0, 0] = true ∧ ¬ le4 [a, 0, 0, 0] [a - 1, 0, 0, 0] = true
    rw [le4_iff, le4_iff]
    omega
  | [a, b], 0, _, h => by
    have e : a = z := Option.some.inj h
    subst e
    show le4 [a - 1, b, 0, 0] [a, b, 0, 0] = true ∧ ¬ le4 [a, b, 0, 0] [a - 1, b, 0, 0] = true
    rw [le4_iff, le4_iff]
    omega
  | [a, b], 1, _, h => by
    have e : b = z := Option.some.inj h
    subst e
    show le4 [a, b - 1, 0, 0] [a, b, 0, 0] = true ∧ ¬ le4 [a, b, 0, 0] [a, b - 1, 0, 0] = true
    rw [le4_iff, le4_iff]
    omega
  | [a, b, c], 0, _, h => by
    have e : a = z := Option.some.inj h
    subst e
    show le4 [a - 1, b, c, 0] [a, b, c, 0] = true ∧ ¬ le4 [a, b, c, 0] [a - 1, b, c, 0] = true
    rw [le4_iff, le4_iff]
    omega
  | [a, b, c], 1, _, h => by
    have e : b = z := Option.some.inj h
    subst e
    show le4 [a, b - 1, c, 0] [a, b, c, 0] = true ∧ ¬ le4 [a, b, c, 0] [a, b - 1, c, 0] = true
    rw [le4_iff, le4_iff]
    omega
  | [a, b, c], 2, _, h => by
    have e : c = z := Option.some.inj h
    subst e
    show le4 [a, b, c - 1, 0] [a, b, c, 0] = true ∧ ¬ le4 [a, b, c, 0] [a, b, c - 1, 0] = true
    rw [le4_iff, le4_iff]
    omega
  | [a, b, c, d], 0, _, h => by
    have e : a = z := Option.some.inj h
    subst e
    show le4 [a - 1, b, c, d] [a, b, c, d] = true ∧ ¬ le4 [a, b, c, d] [a - 1, b, c, d] = true
    rw [le4_iff, le4_iff]
    omega
  | [a, b, c, d], 1, _, h => by
    have e : b = z := Option.some.inj h
    subst e
    show le4 [a, b - 1, c, d] [a, b, c, d] = true ∧ ¬ le4 [a, b, c, d] [a, b - 1, c, d] = true
    rw [le4_iff, le4_iff]
    omega
  | [a, b, c, d], 2, _, h => by
    have e : c = z := Option.some.inj h
    subst e
    show le4 [a, b, c - 1, d] [a, b, c, d] = true ∧ ¬ le4 [a, b, c, d] [a, b, c - 1, d] = true
    rw [le4_iff, le4_iff]
    omega
  | [a, b, c, d], 3, _, h => by
    have e : d = z := Option.some.inj h
    subst e
    show le4 [a, b, c, d - 1] [a, b, c, d] = true ∧ ¬ le4 [a, b, c, d] [a, b, c, d - 1] = true
    rw [le4_iff, le4_iff]
    omega
  | [], _, _, h => by simp at h
  | [_], _ + 1, _, h => by simp at h
  | [_, _], _ + 2, _, h => by simp at h
  | [_, _, _], _ + 3, _, h => by simp at h
  | [_, _, _, _], _ + 4, _, h => by simp at h
  | _ :: _ :: _ :: _ :: _ :: _, _, l, _ => by simp at l
theorem set_cut {t : List Int} {i : Nat} {z : Int} (hi : i < t.length) : (t.take i ++ [z]) ++ t.drop (i + 1) = t.set i z := by
  rw [List.set_eq_take_append_cons_drop, if_pos hi, List.append_assoc]
  rfl
theorem four_inj {a b : List Int} (h : a.length = b.length) (e : four a = four b) : a = b := by
  unfold four at e
  rw [h] at e
  exact (List.append_inj e h).1
def spLowsRight (K : PySem.W.Frag) : Sp := fun vs H Q _ => ∃ (x y : V) (h : Asks) (M : List (List Int)) (kd n m : Nat), vs = [x, y, .int n] ∧ Dp K H x (houseD h) ∧ Dp K H y (lowsD kd M) ∧ HsOk h kd ∧ Canon M (LN (asks4 h) n) ∧ M.length ≤ 60 ∧ (∀ x ∈ M, ∀ z ∈ x, z < 1000) ∧ n ≤ 1000 ∧ Few (asks4 h) n m ∧
  ∀ H', Same H H' → Q (.bl true) H'
section
variable {P : Program} {w : World} {K : PySem.W.Frag} {mg : Str → Option Value} {base : Heap}
theorem scLowsRight : FnScope ["house", "lows", "n", "low", "other", "kind", "fewer"] ["house", "lows", "n"] (defScope sLowsRight) := ⟨rfl, rfl, rfl, by decide +kernel, rfl, by decide +kernel, by decide +kernel⟩
theorem ok_lowsRight {f fC fB : Addr} {fd fdC fdB : FuncData} {k : Nat} (F : Fun K "_law_lows_right" "_law_lows_right" sLowsRight f fd)
    (GC : FnOk P w K mg base CX0 (k + 5) fC fdC ["store", "other"] (spCovers K)) (kC : PySem.W.keepIn K (.ref fC) = true) (bC : Binds K fdC ["store", "other"] []) (gC : mg "covers" = some (.ref fC))
    (GB : FnOk P w K mg base CX0 (k + 5) fB fdB ["house", "store", "n"] (spLasts K)) (kB : PySem.W.keepIn K (.ref fB) = true) (bB : Binds K fdB ["house", "store", "n"] []) (gB : mg "lasts" = some (.ref fB))
    (mr : mg "range" = none) (ml : mg "len" = none) (ms : mg "sorted" = none) : FnOk P w K mg base CX0 (k + 6) f fd ["house", "lows", "n"] (spLowsRight K) := by
  refine F.ok scLowsRight (fun vs H Q E h => ?_) (fun cdv A outer s0 H vs Q E hr h => ?_)
  · obtain ⟨x, y, h, M, kd, n, m, rfl, _⟩ := h
    rfl
  · obtain ⟨x, y, h, M, kd, n, m, rfl, hx, hy, o, can, m60, big, n1, fw, q⟩ := h
    refine ⟨_, pss_cons (ps_for PassesOwn.never rfl (pi_list (pv 1)) (pg_name (i := 3) scLowsRight.nd rfl (.inr rfl)) (pss_cons (ps_if (pt_not (pt_val (pe_call GB hr (by rfl) gB kB bB .nil pass0 (pa_cons (pv 0) (pa_cons (pv 3) (pa_cons (pv 2) pa_nil)))))) (pss_one (ps_ret pe_bl)) pss_nil)
      (pss_cons (ps_if (pt_cmpR (op_neD hr.units) (pe_lc (own := [("other", 4)]) (g := gName 4) (tt := tAnd (tTest (tOp (rNeD K) (tVar 4) (tVar 3))) (tB (tCall (spCovers K) [] E0 (tCons (tVar 3) (tCons (tVar 4) tNil))))) rfl scLowsRight.nd (pi_list (pv 1))
        (blkOk_by (N := ["house", "lows", "n", "low", "other", "kind", "fewer"]) (sc := defScope sLowsRight) (by decide +kernel)) (fun _ _ _ _ _ => by exact (pg_name (i := 4) scLowsRight.nd rfl (.inl rfl))) (fun _ _ _ _ _ => by exact pts_one (PW.pt (pw_and (pt_cmpR (op_neD hr.units) (pv 4) (pv 3) (nomark _)) (pw_and1 (pt_val (pe_call GC hr (by rfl) gC kC bC .nil pass0 (pa_cons (pv 3) (pa_cons (pv 4) pa_nil))))))))
        (fun _ _ _ _ _ => by exact (pv 4))) (pe_lst pa_nil) (nomark _)) (pss_one (ps_ret pe_bl)) pss_nil)
      (pss_one (ps_for PassesOwn.never rfl (pi_range1 (by rfl) mr (pa_cons (pe_callB call_len_seq (by rfl) ml PySem.boot_len (pa_cons (pv 3) pa_nil)) pa_nil)) (pg_name (i := 5) scLowsRight.nd rfl (.inl rfl)) (pss_cons (ps_set (i := 6) scLowsRight.nd rfl (.inl rfl) (pe_op op_catN (pe_op op_catN (pe_slice (r := rSlN K) sl_tupN (pv 3) po_none (po_some (pv 5))) (pe_tup (pa_cons (pe_op op_sub (pe_ix ix_tup (pv 3) (pv 5) (fun _ _ => rfl)) pe_int) pa_nil))) (pe_slice (r := rSlN K) sl_tupN (pv 3) (po_some (pe_op op_add (pv 5) pe_int)) po_none)))
      (pss_one (ps_if (PW.pt (pw_and (pt_cmpR op_gt (pe_ix ix_tup (pv 3) (pv 5) (fun _ _ => rfl)) pe_int (nomark _)) (pw_and1 (pt_val (pe_call GB hr (by rfl) gB kB bB .nil pass0 (pa_cons (pv 0) (pa_cons (pv 6) (pa_cons (pv 2) pa_nil)))))))) (pss_one (ps_ret pe_bl)) pss_nil))))))))
      (pss_one (ps_ret (pe_cmpR (op_eqD hr.units) (pv 1) (pe_callB (cr_sortD (d := kd) (B := 1000) o.k1) (by rfl) ms (by decide +kernel) (pa_cons (pv 1) pa_nil)) (nomark _)))), ?_⟩
    -- sem
    have k1 := o.k1
    have k4 := o.k4
    have lo := lows_of can k1 k4 fun x hx => ln_prj o n hx
    obtain ⟨l, vs, rfl, hL, hall⟩ := sts_of (S := M.map fun x => x.take kd) hy
    have lv := sts_len hall
    rw [List.length_map] at lv
    have get : ∀ {i : Nat} {v : V}, vs[i]? = some v → ∃ x, M[i]? = some x ∧ x ∈ M ∧ Dp K H v (wayD (x.take kd)) := fun {i v} e => by
      obtain ⟨t, ht, dv⟩ := sts_get hall e
      rw [List.getElem?_map] at ht
      obtain ⟨x, hx, rfl⟩ := Option.map_eq_some_iff.mp ht
      exact ⟨x, hx, List.mem_of_getElem? hx, dv⟩
    refine ⟨_, rfl, l, rfl, ⟨_, hL⟩, ?_⟩
    refine for_list (K := K) (a := l) (xs := vs) (fun j σ H1 => ∃ (y3 y5 y6 : Option V), σ = [some x, some (.ref l), some (.int n), y3, none, y5, y6] ∧ Same H H1)
      ⟨none, none, none, rfl, Same.refl _⟩ (fun j σ H1 _ ⟨_, _, _, _, s1⟩ => s1.seq hL) ?_ ?_
    · rintro j v σ H1 hj ⟨y3, y5, y6, rfl, s1⟩
      obtain ⟨x0, _, m0, dv⟩ := get hj
      have l0 := lo.len x0 m0
      have p0 := lo.pos x0 m0
      have b0 := lo.back x0 m0
      have o0 := can.ok x0 m0
      generalize x0.take kd = t at dv l0 p0 b0
      refine ⟨_, rfl, _, rfl, _, rfl, x, v, h, t, kd, n, m, rfl, dp_same s1 hx, dp_same s1 dv, o, by omega, by omega, p0, n1, fw, fun b H2 s2 hb => ?_⟩
      rw [b0] at hb
      obtain rfl : b = true := hb.mpr ((can.up x0 o0).mp ⟨x0, m0, le4_refl o0⟩)
      refine ⟨_, rfl, ifF rfl ?_⟩
      have s12 := s1.trans s2
      -- no other one is covered
      refine ⟨_, rfl, l, rfl, ⟨_, s12.seq hL⟩, fun D nD => ?_⟩
      have sD := same_upd (o := .lst []) nD
      refine lc_list (K := K) (a := l) (xs := vs) (fun i H3 => Same H2 H3 ∧ H3 D = some (.lst [])) ⟨sD, upd_same⟩ (fun i H3 _ ⟨s3, _⟩ => (s12.trans s3).seq hL) ?_ ?_
      · rintro i u H3 hi ⟨s3, hD⟩
        obtain ⟨x2, _, m2, du⟩ := get hi
        have l2 := lo.len x2 m2
        have b2 := lo.back x2 m2
        have o2 := can.ok x2 m2
        have ne2 : x2.take kd ≠ t → coversB t (x2.take kd) = false := fun ne => by
          cases c : coversB t (x2.take kd) with
          | false => rfl
          | true =>
            have le := coversB_le (by rw [l0, l2]) (by omega) c
            rw [b0, b2] at le
            have e := can.anti x2 m2 x0 m0 le
            subst e
            exact absurd (four_inj (by rw [l0, l2]) (b2.trans b0.symm)) ne
        generalize x2.take kd = t2 at du l2 b2 ne2
        refine ⟨rfl, ?_⟩
        refine ⟨_, rfl, _, rfl, wayD t2, wayD t, dp_same (s12.trans s3) du, dp_same (s12.trans s3) dv, way_shaped _, way_shaped _, _, rfl, ite2 (fun c => ?_) fun c => ?_⟩
        · rw [eqv_way_iff] at c
          have ne : t2 ≠ t := fun e => by rw [decide_eq_true e] at c; cases c
          refine ⟨_, rfl, _, rfl, v, u, t, t2, rfl, dp_same (s12.trans s3) dv, dp_same (s12.trans s3) du, by rw [l0, l2], by omega, fun H4 s4 => ?_⟩
          rw [ne2 ne]
          refine ⟨_, rfl, ifF rfl ⟨s3.trans s4, s4 _ _ hD⟩⟩
        · exact ⟨s3, hD⟩
      · rintro H3 ⟨s3, hD⟩
        refine ⟨by show 0 ≤ sizeLine; decide, fun E1 nE => ?_⟩
        have sE := same_upd (o := .lst []) nE
        refine ⟨.list [], .list [], .lst (SqL.of (sE _ _ hD)) .nil, .lst (SqL.of upd_same) .nil, by decide, by decide, _, rfl, ?_⟩
        refine ifF rfl ?_
        have s13 := s12.trans (s3.trans sE)
        -- with one less of a kind it doesn't last
        obtain ⟨ta, rfl, hT⟩ := way_of dv
        have hT3 := s13.seqT hT
        refine ⟨_, rfl, ta, _, rfl, .inr hT3, _, rfl, by omega, by rw [List.length_map, l0]; omega, ?_⟩
        rw [List.length_map, l0]
        refine for_range (lo := 0) (n := (kd : Int).toNat) (fun i σ H4 => ∃ (y5 y6 : Option V), σ = [some x, some (.ref l), some (.int n), some (.ref ta), none, y5, y6] ∧ Same H H4)
          ⟨y5, y6, rfl, s13⟩ ?_ ?_
        · rintro i σ H4 hi ⟨y5, y6, rfl, s4⟩
          have hik : i < kd := by omega
          rw [Int.zero_add]
          have hT4 := s4.seqT hT
          obtain ⟨z, hz⟩ : ∃ z, t[i]? = some z := ⟨_, List.getElem?_eq_getElem (by omega)⟩
          have hzv : atI (t.map V.int) (i : Int) = some (V.int z) := atI_nat (by rw [List.getElem?_map, hz]; rfl)
          refine ⟨_, rfl, _, rfl, (i : Int), rfl, ta, _, rfl, hT4, fun c1 H5 s5 h1 => ?_⟩
          rw [cut_to (by omega)] at h1
          have hT5 := s5.seqT hT4
          refine ⟨_, rfl, _, rfl, ta, _, (i : Int), V.int z, rfl, rfl, hT5, hzv, z, 1, rfl, rfl, by show 1 ≤ sizeLine; decide, fun T nT => ?_⟩
          have sT := same_upd (o := .tup [V.int (z - 1)]) nT
          refine ⟨c1, T, _, _, rfl, rfl, sT.seqT h1, SqT.of upd_same, by rw [List.length_map, List.length_take, sizeLine_eq]; show _ + 1 ≤ _; omega, fun c2 H6 s6 h2 => ?_⟩
          have hT6 := s6.seqT (sT.seqT hT5)
          refine ⟨_, rfl, _, rfl, _, 1, rfl, rfl, ((i : Int) + 1), rfl, ta, _, rfl, hT6, fun c3 H7 s7 h3 => ?_⟩
          rw [show (i : Int) + 1 = ((i + 1 : Nat) : Int) by omega, cut_from (by omega)] at h3
          refine ⟨c2, c3, _, _, rfl, rfl, s7.seqT h2, h3, by rw [List.length_append, List.length_map, List.length_map, List.length_take, List.length_drop, sizeLine_eq]; show _ + 1 + _ ≤ _; omega, fun c4 H8 s8 h4 => ?_⟩
          have e4 : (List.map V.int (List.take i t) ++ [V.int (z - 1)]) ++ List.map V.int (List.drop (i + 1) t) = (t.set i (z - 1)).map V.int := by
            rw [← set_cut (by omega), List.map_append, List.map_append]
            rfl
          rw [e4] at h4
          have s48 := s5.trans (sT.trans (s6.trans (s7.trans s8)))
          have hT8 := s48.seqT hT4
          refine ⟨_, rfl, _, rfl, ta, _, (i : Int), V.int z, rfl, rfl, hT8, hzv, z, 0, rfl, rfl, _, rfl, ite2 (fun c => ?_) (fun c => ?_)⟩
          · have c := of_decide_eq_true c
            have ls : (t.set i (z - 1)).length = kd := by rw [List.length_set, l0]
            have ps : ∀ y ∈ t.set i (z - 1), 0 ≤ y := fun y hy => by
              rcases List.mem_or_eq_of_mem_set hy with hy | e
              · exact p0 y hy
              · omega
            refine ⟨_, rfl, _, rfl, _, rfl, x, .ref c4, h, t.set i (z - 1), kd, n, m, rfl, dp_same (s4.trans s48) hx, of_way h4, o, by omega, by omega, ps, n1, fw, fun b H9 s9 hb => ?_⟩
            have bf : b = false := by
              cases b with
              | false => rfl
              | true =>
                exfalso
                have ln := hb.mp rfl
                obtain ⟨q1, q2⟩ := set_less (by omega) hz
                rw [b0] at q1 q2
                obtain ⟨y, hy, ly⟩ := (can.up _ (four_ok (by omega) (by omega) ps)).mpr ln
                have e := can.anti y hy x0 m0 (le4_trans ly q1)
                subst e
                exact q2 ly
            subst bf
            exact ⟨_, rfl, ifF rfl ⟨_, _, rfl, (s4.trans s48).trans s9⟩⟩
          · exact ⟨_, _, rfl, s4.trans s48⟩
        · rintro σ H4 ⟨y5, y6, rfl, s4⟩
          exact ⟨_, _, _, rfl, s4⟩
    · rintro σ H1 ⟨y3, y5, y6, rfl, s1⟩
      refine ⟨_, rfl, _, rfl, l, vs, M.map (fun x : List Int => x.take kd), rfl, s1.seq hL, dpAll_same s1 hall, by rw [List.length_map]; omega, fun t ht => ?_, fun ys T p pm pw np dT => ?_⟩
      · obtain ⟨x0, m0, rfl⟩ := List.mem_map.mp ht
        exact ⟨lo.len x0 m0, fun z hz => ⟨lo.pos x0 m0 z hz, big x0 m0 z (List.mem_of_mem_take hz)⟩⟩
      · have e := sorted_same (d := kd) (fun t ht => ?_) lo.srt pm pw
        · subst e
          have s2 := s1.trans (same_upd (o := .lst ys) np)
          refine ⟨stsD _, stsD _, dp_same s2 (.lst hL hall), .lst (SqL.of upd_same) dT, sts_shaped _, sts_shaped _, ?_⟩
          rw [eqv_sts_self]
          exact q _ s2
        · obtain ⟨x0, m0, rfl⟩ := List.mem_map.mp ht
          exact ⟨lo.len x0 m0, fun z hz => ⟨lo.pos x0 m0 z hz, big x0 m0 z (List.mem_of_mem_take hz)⟩⟩
end
/-! ### a store looked at -/
def sStoreRight : Stmt := topS 35
theorem Few.mono {asks : Asks} {n m j : Nat} (f : Few asks n m) (h : j ≤ n) : Few asks j m := ⟨f.sq, f.fv, fun i hi => f.all i (by omega), fun i hi => f.one i (by omega)⟩
def spStoreRight (K : PySem.W.Frag) : Sp := fun vs H Q _ => ∃ (x y z : V) (h : Asks) (s : List Int) (M : List (List Int)) (kd n m : Nat), vs = [x, y, .int n, z] ∧ Dp K H x (houseD h) ∧ Dp K H y (wayD s) ∧ Dp K H z (lowsD kd M) ∧ HsOk h kd ∧ s.length = kd ∧ (∀ z ∈ s, 0 ≤ z) ∧ Canon M (LN (asks4 h) n) ∧ M.length ≤ 1000 ∧ n ≤ 1000 ∧ Few (asks4 h) n m ∧
  ∀ H', Same H H' → Q (.bl true) H'
theorem bool_eq {a b : Bool} {p : Prop} (h1 : a = true ↔ p) (h2 : b = true ↔ p) : a = b := by
  cases a with
  | true => exact (h2.mpr (h1.mp rfl)).symm
  | false =>
    cases b with
    | false => rfl
    | true => exact h1.mpr (h2.mp rfl)
theorem more_le {a : Int} {r : List Int} (l4 : (a :: r).length ≤ 4) : le4 (four (a :: r)) (four ((a + 1) :: r)) = true := by
  match r, l4 with
  | [], _ => exact show le4 [a, 0, 0, 0] [a + 1, 0, 0, 0] = true from le4_iff.mpr (by omega)
  | [b], _ => exact show le4 [a, b, 0, 0] [a + 1, b, 0, 0] = true from le4_iff.mpr (by omega)
  | [b, c], _ => exact show le4 [a, b, c, 0] [a + 1, b, c, 0] = true from le4_iff.mpr (by omega)
  | [b, c, d], _ => exact show le4 [a, b, c, d] [a + 1, b, c, d] = true from le4_iff.mpr (by omega)
  | _ :: _ :: _ :: _ :: _, l => simp at l
section
variable {P : Program} {w : World} {K : PySem.W.Frag} {mg : Str → Option Value} {base : Heap}
theorem scStoreRight : FnScope ["house", "store", "n", "lows", "found", "low"] ["house", "store", "n", "lows"] (defScope sStoreRight) := ⟨rfl, rfl, rfl, by decide +kernel, rfl, by decide +kernel, by decide +kernel⟩
theorem ok_storeRight {f fC fB fP : Addr} {fd fdC fdB fdP : FuncData} {k : Nat} (F : Fun K "_law_store_right" "_law_store_right" sStoreRight f fd)
    (GC : FnOk P w K mg base CX0 (k + 5) fC fdC ["store", "other"] (spCovers K)) (kC : PySem.W.keepIn K (.ref fC) = true) (bC : Binds K fdC ["store", "other"] []) (gC : mg "covers" = some (.ref fC))
    (GB : FnOk P w K mg base CX0 (k + 5) fB fdB ["house", "store", "n"] (spLasts K)) (kB : PySem.W.keepIn K (.ref fB) = true) (bB : Binds K fdB ["house", "store", "n"] []) (gB : mg "lasts" = some (.ref fB))
    (GP : FnOk P w K mg base CX0 (k + 6) fP fdP ["house", "store", "n"] (spPlays K)) (kP : PySem.W.keepIn K (.ref fP) = true) (bP : Binds K fdP ["house", "store", "n"] []) (gP : mg "_law_plays" = some (.ref fP)) :
    FnOk P w K mg base CX0 (k + 7) f fd ["house", "store", "n", "lows"] (spStoreRight K) := by
  refine F.ok scStoreRight (fun vs H Q E h => ?_) (fun cdv A outer s0 H vs Q E hr h => ?_)
  · obtain ⟨x, y, z, h, s, M, kd, n, m, rfl, _⟩ := h
    rfl
  · obtain ⟨x, y, z, h, s, M, kd, n, m, rfl, hx, hy, hz, o, ls, ps, can, m60, n1, fw, q⟩ := h
    have h5 : Room (k + 5) _ := hr.mono (by omega)
    refine ⟨_, pss_cons (ps_set (i := 4) scStoreRight.nd rfl (.inl rfl) (pe_call GB h5 (by rfl) gB kB bB .nil pass0 (pa_cons (pv 0) (pa_cons (pv 1) (pa_cons (pv 2) pa_nil)))))
      (pss_cons (ps_if (PW.pt (pw_or (pt_cmpR op_notBl (pe_call GB h5 (by rfl) gB kB bB .nil pass0 (pa_cons (pv 0) (pa_cons (pv 1) (pa_cons pe_int pa_nil)))) pe_bl (nomark _)) (pw_or1 (pt_cmpR op_ne (pv 4) (pe_cmpR (op_neD hr.units) (pe_lc (own := [("low", 5)]) (g := gName 5) (tt := tB (tCall (spCovers K) [] E0 (tCons (tVar 1) (tCons (tVar 5) tNil)))) rfl scStoreRight.nd (pi_list (pv 3))
        (blkOk_by (N := ["house", "store", "n", "lows", "found", "low"]) (sc := defScope sStoreRight) (by decide +kernel)) (fun _ _ _ _ _ => by exact (pg_name (i := 5) scStoreRight.nd rfl (.inl rfl))) (fun _ _ _ _ _ => by exact pts_one (pt_val (pe_call GC h5 (by rfl) gC kC bC .nil pass0 (pa_cons (pv 1) (pa_cons (pv 5) pa_nil)))))
        (fun _ _ _ _ _ => by exact (pv 5))) (pe_lst pa_nil) (nomark _)) (nomark _))))) (pss_one (ps_ret pe_bl)) pss_nil)
      (pss_cut (ps_if (PW.pt (pw_and (pt_cmpR op_gt (pv 2) pe_int (nomark _)) (pw_and1 (pt_cmpR op_ne (pv 4) (pe_call GP hr (by rfl) gP kP bP .nil pass0 (pa_cons (pv 0) (pa_cons (pv 1) (pa_cons (pv 2) pa_nil)))) (nomark _))))) (pss_one (ps_ret pe_bl)) pss_nil)
      (pss_cut (ps_if (PW.pt (pw_and (pt_cmpR op_gt (pv 2) pe_int (nomark _)) (pw_and (pt_val (pv 4)) (pw_and1 (pt_not (pt_val (pe_call GB h5 (by rfl) gB kB bB .nil pass0 (pa_cons (pv 0) (pa_cons (pv 1) (pa_cons (pe_op op_sub (pv 2) pe_int) pa_nil)))))))))) (pss_one (ps_ret pe_bl)) pss_nil)
      (pss_one (ps_ret (pe_or (pe_not (pv 4)) (pe_one (pe_call GB h5 (by rfl) gB kB bB .nil pass0 (pa_cons (pv 0) (pa_cons (pe_op op_catN (pe_tup (pa_cons (pe_op op_add (pe_ix ix_tup (pv 1) pe_int (fun _ _ => rfl)) pe_int) pa_nil)) (pe_slice (r := rSlN K) sl_tupN (pv 1) (po_some pe_int) po_none)) (pa_cons (pv 2) pa_nil))))))))))), ?_⟩
    -- sem
    have k1 := o.k1
    have k4 := o.k4
    have lo := lows_of can k1 k4 fun x hx => ln_prj o n hx
    have os : Ok4 (four s) := four_ok (by omega) (by omega) ps
    refine ⟨_, rfl, _, rfl, _, rfl, x, y, h, s, kd, n, m, rfl, hx, hy, o, by omega, by omega, ps, n1, fw, fun b0 H1 s1 hb => ?_⟩
    refine ⟨_, rfl, _, rfl, x, y, h, s, kd, 0, m, rfl, dp_same s1 hx, dp_same s1 hy, o, by omega, by omega, ps, by omega, fw.mono (by omega), fun b1 H2 s2 hb1 => ?_⟩
    obtain rfl : b1 = true := hb1.mpr True.intro
    refine ⟨true, true, rfl, rfl, _, rfl, ifF rfl ?_⟩
    have s12 := s1.trans s2
    obtain ⟨l, vs, rfl, hL, hall⟩ := sts_of (S := M.map fun x : List Int => x.take kd) hz
    have lv := sts_len hall
    have lv2 := lv
    rw [List.length_map] at lv2
    refine ⟨_, rfl, _, rfl, l, rfl, ⟨_, s12.seq hL⟩, fun D nD => ?_⟩
    have sD := same_upd (o := .lst []) nD
    refine lc_list (K := K) (a := l) (xs := vs) (fun i H3 => Same H2 H3 ∧ ∃ us, H3 D = some (.lst us) ∧ DpAll K H3 us ((((M.map fun x : List Int => x.take kd).take i).filter (coversB s)).map wayD)) ⟨sD, [], upd_same, .nil⟩ (fun i H3 _ ⟨s3, _⟩ => (s12.trans s3).seq hL) ?_ ?_
    · rintro i v H3 hi ⟨s3, us, hD, dus⟩
      obtain ⟨t, ht, dv⟩ := sts_get hall hi
      obtain ⟨x0, m0, e0⟩ := List.mem_map.mp (List.mem_of_getElem? ht)
      have l0 := lo.len x0 m0
      rw [e0] at l0
      have lu := sts_len dus
      have lf := List.length_filter_le (coversB s) ((M.map fun x : List Int => x.take kd).take i)
      rw [List.length_take, List.length_map] at lf
      refine ⟨rfl, ?_⟩
      refine ⟨_, rfl, _, rfl, y, v, s, t, rfl, dp_same (s12.trans s3) hy, dp_same (s12.trans s3) dv, by omega, by omega, fun H4 s4 => ?_⟩
      have tk := take_snoc ht
      refine ⟨_, rfl, ite2 (fun c => ?_) (fun c => ?_)⟩
      · refine ⟨_, rfl, us, s4 _ _ hD, small_line (by omega), fun b o e => ?_, us ++ [v], upd_same, ?_⟩
        · rw [upd_ne (ne_of_none e nD)]
          exact s4 _ _ (s3 _ _ e)
        · rw [tk, List.filter_append, List.map_append, show List.filter (coversB s) [t] = [t] by rw [List.filter_cons, if_pos c]; rfl]
          exact dpAll_put (s4 _ _ hD) (dpAll_app (dpAll_same s4 dus) (.cons (dp_same (s12.trans (s3.trans s4)) dv) .nil)) (noL_app _ [t])
      · refine ⟨s3.trans s4, us, s4 _ _ hD, ?_⟩
        rw [tk, List.filter_append, show List.filter (coversB s) [t] = [] by rw [List.filter_cons, if_neg c]; rfl, List.append_nil]
        exact dpAll_same s4 dus
    · rintro H3 ⟨s3, us, hD, dus⟩
      rw [take_all lv] at dus
      refine ⟨by show 0 ≤ sizeLine; decide, fun E1 nE => ?_⟩
      have sE := same_upd (o := .lst []) nE
      refine ⟨stsD ((M.map fun x : List Int => x.take kd).filter (coversB s)), .list [], dp_same sE (.lst (SqL.of hD) dus), .lst (SqL.of upd_same) .nil, sts_shaped _, by decide, ?_⟩
      rw [eqv_nilD]
      have eb : b0 = !((((M.map fun x : List Int => x.take kd).filter (coversB s)).map wayD).isEmpty) := by
        refine bool_eq (hb.trans (can.up _ os).symm) ?_
        cases e : (M.map fun x : List Int => x.take kd).filter (coversB s) with
        | nil =>
          refine ⟨fun z => Bool.noConfusion z, fun ⟨x0, m0, le⟩ => ?_⟩
          have mf : x0.take kd ∈ (M.map fun x : List Int => x.take kd).filter (coversB s) := List.mem_filter.mpr ⟨List.mem_map.mpr ⟨x0, m0, rfl⟩, le_coversB (by rw [ls, lo.len x0 m0]) (by omega) (by rw [lo.back x0 m0]; exact le)⟩
          rw [e] at mf
          cases mf
        | cons t r =>
          refine ⟨fun _ => ?_, fun _ => rfl⟩
          have mf : t ∈ (M.map fun x : List Int => x.take kd).filter (coversB s) := by rw [e]; exact List.mem_cons_self
          obtain ⟨mt, ct⟩ := List.mem_filter.mp mf
          obtain ⟨x0, m0, rfl⟩ := List.mem_map.mp mt
          refine ⟨x0, m0, ?_⟩
          have := coversB_le (by rw [ls, lo.len x0 m0]) (by omega) ct
          rw [lo.back x0 m0] at this
          exact this
      rw [← eb]
      refine ⟨rfl, _, rfl, ifF (by simp) ?_⟩
      have s13 := s12.trans (s3.trans sE)
      -- by plays
      refine ⟨fun σ H4 => σ = [some x, some y, some (.int n), some (.ref l), some (.bl b0), none] ∧ Same H H4, ?_, ?_⟩
      · by_cases n0 : n = 0
        · subst n0
          exact ⟨_, rfl, _, 0, rfl, rfl, _, rfl, ifF (by decide) ⟨rfl, s13⟩⟩
        · obtain ⟨j, rfl⟩ : ∃ j, n = j + 1 := ⟨n - 1, by omega⟩
          refine ⟨_, rfl, _, 0, rfl, rfl, _, rfl, ifT (decide_eq_true (by omega)) ?_⟩
          refine ⟨_, rfl, _, rfl, _, rfl, _, rfl, x, y, h, s, kd, j, m, rfl, dp_same s13 hx, dp_same s13 hy, o, ls, ps, by omega, fw.mono (by omega), fun b2 H4 s4 hb2 => ?_⟩
          obtain rfl : b2 = b0 := bool_eq hb2 hb
          exact ⟨rfl, _, rfl, ifF (by simp) ⟨rfl, s13.trans s4⟩⟩
      · rintro σ H4 ⟨rfl, s4⟩
        refine ⟨fun σ H5 => σ = [some x, some y, some (.int n), some (.ref l), some (.bl b0), none] ∧ Same H H5, ?_, ?_⟩
        · by_cases n0 : n = 0
          · subst n0
            exact ⟨_, rfl, _, 0, rfl, rfl, _, rfl, ifF (by decide) ⟨rfl, s4⟩⟩
          · obtain ⟨j, rfl⟩ : ∃ j, n = j + 1 := ⟨n - 1, by omega⟩
            refine ⟨_, rfl, _, 0, rfl, rfl, _, rfl, ifT (decide_eq_true (by omega)) ?_⟩
            refine ⟨_, rfl, b0, rfl, ?_⟩
            cases b0 with
            | false => exact ifF rfl ⟨rfl, s4⟩
            | true =>
              refine ifT rfl ?_
              refine ⟨_, rfl, _, rfl, _, rfl, _, 1, rfl, rfl, x, y, h, s, kd, j, m, ?_, dp_same s4 hx, dp_same s4 hy, o, by omega, by omega, ps, by omega, fw.mono (by omega), fun b2 H5 s5 hb2 => ?_⟩
              · show [x, y, V.int (((j + 1 : Nat) : Int) - 1)] = [x, y, V.int j]
                rw [show ((j + 1 : Nat) : Int) - 1 = (j : Int) by omega]
              · obtain rfl : b2 = true := hb2.mpr (hb.mp rfl).down
                exact ⟨_, rfl, ifF rfl ⟨rfl, s4.trans s5⟩⟩
        · rintro σ H5 ⟨rfl, s5⟩
          cases b0 with
          | false => exact ⟨_, rfl, false, rfl, true, rfl, ifT rfl (q _ s5)⟩
          | true =>
            refine ⟨_, rfl, true, rfl, false, rfl, ifF rfl ?_⟩
            obtain ⟨ya, rfl, hT⟩ := way_of hy
            have hT5 := s5.seqT hT
            match s, ls, ps, hb, os, hT, hT5 with
            | [], ls, _, _, _, _, _ => simp at ls; omega
            | a :: r, ls, ps, hb, os, hT, hT5 =>
            refine ⟨_, rfl, _, rfl, ya, _, 0, .int a, rfl, rfl, hT5, atI_nat (j := 0) rfl, a, 1, rfl, rfl, by show 1 ≤ sizeLine; decide, fun T nT => ?_⟩
            have sT := same_upd (o := .tup [V.int (a + 1)]) nT
            refine ⟨_, rfl, 1, rfl, ya, _, rfl, sT.seqT hT5, fun c3 H6 s6 h3 => ?_⟩
            rw [show (1 : Int) = ((1 : Nat) : Int) by rfl, cut_from (by rw [List.length_cons]; omega)] at h3
            refine ⟨T, c3, _, _, rfl, rfl, s6.seqT (SqT.of upd_same), h3, ?_, fun c4 H7 s7 h4 => ?_⟩
            · rw [List.length_map, List.length_drop, sizeLine_eq]
              show 1 + _ ≤ _
              omega
            have s57 := s5.trans (sT.trans (s6.trans s7))
            have ps2 : ∀ z ∈ (a + 1) :: r, 0 ≤ z := fun z hz => by
              rcases List.mem_cons.mp hz with e | hz
              · have := ps a List.mem_cons_self
                omega
              · exact ps z (List.mem_cons_of_mem _ hz)
            have ls2 : ((a + 1) :: r).length = kd := ls
            refine ⟨_, rfl, x, .ref c4, h, (a + 1) :: r, kd, n, m, rfl, dp_same s57 hx, of_way h4, o, by omega, by omega, ps2, n1, fw, fun b2 H8 s8 hb2 => ?_⟩
            obtain rfl : b2 = true := hb2.mpr ((hb.mp rfl).mono (more_le (by omega)))
            exact q _ (s57.trans s8)
end
/-! ### houses in other orders (plain Lean) -/
structure BoxN (h : Asks) (kd : Nat) (size : Int) : Prop where
  one : 1 ≤ h.length
  few : h.length ≤ 10
  k1 : 1 ≤ kd
  k4 : kd ≤ 4
  all : ∀ a ∈ h, 1 ≤ a.length ∧ a.length ≤ 5 ∧ ∀ l ∈ a, l.length = kd ∧ ∀ z ∈ l, -size ≤ z ∧ z ≤ size
theorem BoxN.box {h : Asks} {kd : Nat} {size : Int} (b : BoxN h kd size) : BoxH h kd size := by
  have o1 := b.one
  obtain ⟨a0, h0⟩ : ∃ a0, h[0]? = some a0 := ⟨_, List.getElem?_eq_getElem (show 0 < h.length by omega)⟩
  have o2 := (b.all a0 (List.mem_of_getElem? h0)).1
  obtain ⟨w0, hw0⟩ : ∃ w0, a0[0]? = some w0 := ⟨_, List.getElem?_eq_getElem (show 0 < a0.length by omega)⟩
  exact ⟨⟨⟨a0, w0, h0, hw0⟩, b.k1, b.k4, fun a ha l hl => ((b.all a ha).2.2 l hl).1, fun a ha => (b.all a ha).2.1, by have := b.few; omega⟩, fun a ha w hw => ((b.all a ha).2.2 w hw).2⟩
theorem BoxN.of {h : Asks} {kinds asks ways size : Int} {kd : Nat} (o : HouseOk kinds asks ways size h) (e : kinds = kd) (k1 : 1 ≤ kd) (k4 : kd ≤ 4) (h8 : asks ≤ 8) : BoxN h kd size := by
  have o8 := o.most
  refine ⟨o.one, by omega, k1, k4, fun a ha => ⟨(o.all a ha).one, (o.all a ha).five, fun l hl => ?_⟩⟩
  have z := (o.all a ha).all l hl
  have := z.len
  exact ⟨by omega, z.all⟩
theorem BoxN.app {h g : Asks} {kd : Nat} {size : Int} (b : BoxN h kd size) (c : ∀ a ∈ g, 1 ≤ a.length ∧ a.length ≤ 5 ∧ ∀ l ∈ a, l.length = kd ∧ ∀ z ∈ l, -size ≤ z ∧ z ≤ size) (lg : h.length + g.length ≤ 10) : BoxN (h ++ g) kd size := by
  refine ⟨by rw [List.length_append]; have := b.one; omega, by rw [List.length_append]; exact lg, b.k1, b.k4, fun a ha => ?_⟩
  rcases List.mem_append.mp ha with ha | ha
  · exact b.all a ha
  · exact c a ha
theorem LN.sub0 {A B : Asks} (h : ∀ b ∈ B, ∃ a ∈ A, ∀ w ∈ a, w ∈ b) {n : Nat} {x : List Int} : LN (asks4 A) n x → LN (asks4 B) n x :=
  LN.sub fun b hb => by
    obtain ⟨b0, hb0, rfl⟩ := List.mem_map.mp hb
    obtain ⟨a0, ha0, s⟩ := h b0 hb0
    refine ⟨_, List.mem_map.mpr ⟨a0, ha0, rfl⟩, fun w hw => ?_⟩
    obtain ⟨l, hl, rfl⟩ := List.mem_map.mp hw
    exact List.mem_map.mpr ⟨l, s l hl, rfl⟩
/-- each ask of the one has the ways of one of the other, and the other way round -/
theorem ln_like {A B : Asks} (h1 : ∀ b ∈ B, ∃ a ∈ A, ∀ w ∈ a, w ∈ b) (h2 : ∀ a ∈ A, ∃ b ∈ B, ∀ w ∈ b, w ∈ a) {n : Nat} {x : List Int} : LN (asks4 A) n x ↔ LN (asks4 B) n x := ⟨LN.sub0 h1, LN.sub0 h2⟩
/-- a house turned about -/
structure TurnOk (h g : Asks) : Prop where
  len : g.length = h.length
  to : ∀ a ∈ g, ∃ b ∈ h, a.Perm b
  of : ∀ b ∈ h, ∃ a ∈ g, a.Perm b
theorem TurnOk.box {h g : Asks} {kd : Nat} {size : Int} (t : TurnOk h g) (b : BoxN h kd size) : BoxN g kd size := by
  refine ⟨by rw [t.len]; exact b.one, by rw [t.len]; exact b.few, b.k1, b.k4, fun a ha => ?_⟩
  obtain ⟨c, hc, p⟩ := t.to a ha
  obtain ⟨h1, h2, h3⟩ := b.all c hc
  exact ⟨by rw [p.length_eq]; exact h1, by rw [p.length_eq]; exact h2, fun l hl => h3 l (p.mem_iff.mp hl)⟩
theorem TurnOk.ln {h g : Asks} (t : TurnOk h g) {n : Nat} {x : List Int} : LN (asks4 g) n x ↔ LN (asks4 h) n x :=
  ln_like (fun b hb => let ⟨a, ha, p⟩ := t.of b hb; ⟨a, ha, fun w hw => p.mem_iff.mp hw⟩) (fun a ha => let ⟨b, hb, p⟩ := t.to a ha; ⟨b, hb, fun w hw => p.mem_iff.mpr hw⟩)
/-- the kinds in another order -/
def pmk (o : List Nat) (l : List Int) : List Int := o.map fun k => l.getD k 0
structure OrdK (kd : Nat) (o : List Nat) : Prop where
  perm : o.Perm (List.range kd)
  k4 : kd ≤ 4
theorem OrdK.len {kd : Nat} {o : List Nat} (h : OrdK kd o) : o.length = kd := by rw [h.perm.length_eq, List.length_range]
theorem OrdK.lt {kd : Nat} {o : List Nat} (h : OrdK kd o) {k : Nat} (hk : k ∈ o) : k < kd := List.mem_range.mp (h.perm.mem_iff.mp hk)
theorem OrdK.pmk_len {kd : Nat} {o : List Nat} (h : OrdK kd o) (l : List Int) : (pmk o l).length = kd := by
  unfold pmk
  rw [List.length_map, h.len]
def ext4 (kd : Nat) (o : List Nat) : List Nat := o ++ (List.range 4).drop kd
theorem OrdK.four {kd : Nat} {o : List Nat} (h : OrdK kd o) : Ord4 (ext4 kd o) := by
  refine ⟨(h.perm.append_right _).trans ?_⟩
  have := h.k4
  have : kd = 0 ∨ kd = 1 ∨ kd = 2 ∨ kd = 3 ∨ kd = 4 := by omega
  rcases this with rfl | rfl | rfl | rfl | rfl <;> exact List.Perm.refl _
theorem getD_four {l : List Int} {k : Nat} (hk : k < l.length) : (four l).getD k 0 = l.getD k 0 := by
  unfold four
  rw [List.getD_eq_getElem?_getD, List.getD_eq_getElem?_getD, List.getElem?_append_left hk]
theorem four_pmk {kd : Nat} {o : List Nat} (h : OrdK kd o) {l : List Int} (hl : l.length = kd) : four (pmk o l) = pm (ext4 kd o) (four l) := by
  have lp := h.pmk_len l
  unfold pm ext4
  rw [List.map_append]
  unfold four
  rw [lp]
  congr 1
  · unfold pmk
    refine List.map_congr_left fun k hk => ?_
    have := getD_four (l := l) (k := k) (by rw [hl]; exact h.lt hk)
    unfold four at this
    exact this.symm
  · have := h.k4
    subst hl
    match l, this with
    | [], _ => rfl
    | [_], _ => rfl
    | [_, _], _ => rfl
    | [_, _, _], _ => rfl
    | [_, _, _, _], _ => rfl
    | _ :: _ :: _ :: _ :: _ :: _, z => simp at z
/-- the house with its kinds in another order -/
def kindsH (o : List Nat) (h : Asks) : Asks := h.map fun a => a.map (pmk o)
theorem asks4_kinds {kd : Nat} {o : List Nat} (ho : OrdK kd o) {h : Asks} (hl : ∀ a ∈ h, ∀ l ∈ a, l.length = kd) : asks4 (kindsH o h) = (asks4 h).map fun a => a.map (pm (ext4 kd o)) := by
  unfold asks4 kindsH
  rw [List.map_map, List.map_map]
  refine List.map_congr_left fun a ha => ?_
  show (a.map (pmk o)).map My.four = (a.map My.four).map (pm (ext4 kd o))
  rw [List.map_map, List.map_map]
  exact List.map_congr_left fun l hm => four_pmk ho (hl a ha l hm)
theorem kinds_box {kd : Nat} {o : List Nat} (ho : OrdK kd o) {h : Asks} {size : Int} (b : BoxN h kd size) (s0 : 0 ≤ size) : BoxN (kindsH o h) kd size := by
  unfold kindsH
  refine ⟨by rw [List.length_map]; exact b.one, by rw [List.length_map]; exact b.few, b.k1, b.k4, fun a ha => ?_⟩
  obtain ⟨c, hc, rfl⟩ := List.mem_map.mp ha
  obtain ⟨h1, h2, h3⟩ := b.all c hc
  refine ⟨by rw [List.length_map]; exact h1, by rw [List.length_map]; exact h2, fun l hl => ?_⟩
  obtain ⟨l0, hl0, rfl⟩ := List.mem_map.mp hl
  refine ⟨ho.pmk_len _, fun z hz => ?_⟩
  obtain ⟨k, hk, rfl⟩ := List.mem_map.mp hz
  obtain ⟨e, al⟩ := h3 l0 hl0
  have lt := ho.lt hk
  rw [List.getD_eq_getElem?_getD, List.getElem?_eq_getElem (by omega)]
  exact al _ (List.getElem_mem _)
/-- the least ones of it are the least ones, led over and sorted -/
theorem kinds_lows {kd : Nat} {o : List Nat} (ho : OrdK kd o) {h : Asks} (hl : ∀ a ∈ h, ∀ l ∈ a, l.length = kd) {n : Nat} {M N T : List (List Int)} {B : Int} (lo : Lows kd M) (c : Canon M (LN (asks4 h) n)) (d : Canon N (LN (asks4 (kindsH o h)) n))
    (bd : ∀ t ∈ T, TS.Bd B t) (p : T.Perm ((M.map fun x : List Int => x.take kd).map (pmk o))) (s : T.Pairwise fun x y => TS.code B x ≤ TS.code B y) : N.map (fun x : List Int => x.take kd) = T := by
  have len : ∀ t ∈ T, t.length = kd := fun t ht => by
    obtain ⟨x, _, rfl⟩ := List.mem_map.mp (p.mem_iff.mp ht)
    exact ho.pmk_len x
  have fo : (M.map fun x : List Int => x.take kd).map (fun t => four (pmk o t)) = M.map (pm (ext4 kd o)) := by
    rw [List.map_map]
    refine List.map_congr_left fun x hx => ?_
    show four (pmk o (x.take kd)) = _
    rw [four_pmk ho (lo.len x hx), lo.back x hx]
  have nd4 : (M.map (pm (ext4 kd o))).Nodup := by
    have : (M.map (pm (ext4 kd o))).Pairwise (· ≠ ·) := by
      rw [List.pairwise_map]
      refine List.Pairwise.imp_of_mem (fun {x y} hx hy l e => ?_) c.srt
      have x4 := ok_len (c.ok x hx)
      have y4 := ok_len (c.ok y hy)
      have ox := (ho.four.ok x4).mpr (c.ok x hx)
      have l1 := (ho.four.le x4 y4).mp (by rw [← e]; exact le4_refl ox)
      have l2 := (ho.four.le y4 x4).mp (by rw [← e]; exact le4_refl ox)
      rw [le4_anti l1 l2, lex_irr] at l
      cases l
    exact this
  have nd : T.Nodup := by
    refine p.nodup_iff.mpr ?_
    rw [← fo] at nd4
    have : ((M.map fun x : List Int => x.take kd).map (pmk o)).Pairwise (· ≠ ·) := by
      have q : ((M.map fun x : List Int => x.take kd).map (fun t => four (pmk o t))).Pairwise (· ≠ ·) := nd4
      rw [List.pairwise_map] at q ⊢
      exact q.imp fun {x y} z e => z (by rw [e])
    exact this
  have srt := srt_of_code (fun t ht => ⟨len t ht, bd t ht⟩) nd s
  have S4 : (T.map four).Pairwise fun x y => HT.lexLt x y = true := by
    rw [List.pairwise_map]
    exact List.Pairwise.imp_of_mem (fun {x y} hx hy l => by rw [lex_four (by rw [len x hx, len y hy])]; exact l) srt
  have P4 : (T.map four).Perm (M.map (pm (ext4 kd o))) := by
    rw [← fo]
    have := p.map four
    rw [List.map_map] at this
    exact this
  have can := canon_pm ho.four (fun a ha w hw => by
    obtain ⟨a0, ha0, rfl⟩ := List.mem_map.mp ha
    obtain ⟨l, hm, rfl⟩ := List.mem_map.mp hw
    exact four_len (by rw [hl a0 ha0 l hm]; exact ho.k4)) c P4 S4
  rw [← asks4_kinds ho hl] at can
  rw [d.uniq can, List.map_map]
  refine (List.map_congr_left fun t ht => ?_).trans (List.map_id T)
  show (four t).take kd = t
  unfold four
  rw [List.take_append_of_le_length (by rw [len t ht]; exact Nat.le_refl _), List.take_of_length_le (by rw [len t ht]; exact Nat.le_refl _)]
theorem ofPerm {h : Asks} {M N : List (List Int)} {n : Nat} {g : Asks} (c : Canon M (LN (asks4 h) n)) (d : Canon N (LN (asks4 g) n)) (e : ∀ x, LN (asks4 g) n x ↔ LN (asks4 h) n x) : N = M := d.uniq (c.congr fun x _ => (e x).symm)
/-- item by item -/
abbrev ByItem {α β : Type} (R : α → β → Prop) (l : List α) (m : List β) : Prop := ∀ (i : Nat) (x : α) (y : β), l[i]? = some x → m[i]? = some y → R x y
theorem byItem_nil {α β : Type} {R : α → β → Prop} {m : List β} : ByItem R [] m := fun i x y h _ => by simp at h
theorem byItem_snoc {α β : Type} {R : α → β → Prop} {l : List α} {m : List β} {x : α} {y : β} (h : ByItem R l m) (hy : m[l.length]? = some y) (r : R x y) : ByItem R (l ++ [x]) m := fun i a b ha hb => by
  by_cases c : i < l.length
  · rw [List.getElem?_append_left c] at ha
    exact h i a b ha hb
  · rw [List.getElem?_append_right (by omega)] at ha
    have e : i = l.length := by
      have := (List.getElem?_eq_some_iff.mp ha).1
      simp at this
      omega
    subst e
    rw [Nat.sub_self] at ha
    have ea : x = a := by simpa using ha
    rw [hy] at hb
    cases hb
    rw [← ea]
    exact r
theorem turnOk_of {h gs gs' : Asks} (lg : gs.length = h.length) (r : ByItem List.Perm gs h) (p : gs'.Perm gs) : TurnOk h gs' := by
  refine ⟨by rw [p.length_eq, lg], fun a ha => ?_, fun b hb => ?_⟩
  · obtain ⟨i, hi, rfl⟩ := List.mem_iff_getElem.mp (p.mem_iff.mp ha)
    exact ⟨h[i]'(by omega), List.getElem_mem _, r i _ _ (List.getElem?_eq_getElem hi) (List.getElem?_eq_getElem (by omega))⟩
  · obtain ⟨i, hi, rfl⟩ := List.mem_iff_getElem.mp hb
    exact ⟨gs[i]'(by omega), p.mem_iff.mpr (List.getElem_mem _), r i _ _ (List.getElem?_eq_getElem (by omega)) (List.getElem?_eq_getElem hi)⟩
theorem cutV_to {xs : List V} {k : Nat} (h : k ≤ xs.length) : cutV xs none (some (k : Int)) = xs.take k := by
  unfold cutV
  rw [show HT.sIx xs.length xs.length (some (k : Int)) = min k xs.length from HT.sIx_nat _ _ k, HT.sIx_none, List.drop_zero, Nat.sub_zero, Nat.min_eq_left h]
theorem cutV_from {xs : List V} {k : Nat} (h : k ≤ xs.length) : cutV xs (some (k : Int)) none = xs.drop k := by
  unfold cutV
  rw [show HT.sIx xs.length 0 (some (k : Int)) = min k xs.length from HT.sIx_nat _ _ k, HT.sIx_none, Nat.min_eq_left h, List.take_of_length_le (by rw [List.length_drop]; omega)]
theorem dpAll_take {K : PySem.W.Frag} {H : Hp} : ∀ {vs : List V} {ds : List PyData} (k : Nat), DpAll K H vs ds → DpAll K H (vs.take k) (ds.take k)
  | _, _, 0, _ => by
    rw [List.take_zero, List.take_zero]
    exact .nil
  | _, _, _ + 1, .nil => .nil
  | _, _, k + 1, .cons h t => .cons h (dpAll_take k t)
theorem dpAll_drop {K : PySem.W.Frag} {H : Hp} : ∀ {vs : List V} {ds : List PyData} (k : Nat), DpAll K H vs ds → DpAll K H (vs.drop k) (ds.drop k)
  | _, _, 0, h => h
  | _, _, _ + 1, .nil => .nil
  | _, _, k + 1, .cons _ t => dpAll_drop k t
theorem lows_get {K : PySem.W.Frag} {H : Hp} {us : List V} {M : List (List Int)} {kd : Nat} (d : DpAll K H us ((M.map fun x : List Int => x.take kd).map wayD)) {i : Nat} {v : V} (e : us[i]? = some v) : ∃ x, M[i]? = some x ∧ x ∈ M ∧ Dp K H v (wayD (x.take kd)) := by
  obtain ⟨t, ht, dv⟩ := sts_get d e
  rw [List.getElem?_map] at ht
  obtain ⟨x, hx, rfl⟩ := Option.map_eq_some_iff.mp ht
  exact ⟨x, hx, List.mem_of_getElem? hx, dv⟩
/-! ### in other orders, with more ways and more asks -/
def sOthers : Stmt := topS 38
abbrev lcS (x : Str) (kd : NameKind) : Scope := { kind := .function, names := [(".0", .local), (x, kd), ("tuple", .globalImplicit), ("order", .cell)], isGenerator := false, isCoroutine := false }
def spOthers (K : PySem.W.Frag) : Sp := fun vs H Q _ => ∃ (p c : Addr) (ns : List Int) (g : Nat) (x : V) (l : Addr) (us : List V) (h : Asks) (M : List (List Int)) (kd n n' : Nat) (size : Int), vs = [.ref p, x, .ref l, .int n] ∧ Pen H p c ns g ∧ g + 500 < penMost ∧ Dp K H x (houseD h) ∧ H l = some (.lst us) ∧ l ≠ p ∧
  DpAll K H us ((M.map fun x : List Int => x.take kd).map wayD) ∧ BoxN h kd size ∧ h.length ≤ 3 ∧ (∀ a ∈ h, a.length ≤ 4) ∧ Cfg kd size n' ∧ n ≤ n' ∧ Canon M (LN (asks4 h) n) ∧ M.length ≤ 60 ∧ (∀ x ∈ M, ∀ z ∈ x, z < 1000) ∧
  ∀ H', Kp p H H' → Pen H' p c ns (g + 500) → Q (.bl true) H'
section
variable {P : Program} {w : World} {K : PySem.W.Frag} {mg : Str → Option Value} {base : Heap}
theorem scOthers : FnScope ["pen", "house", "lows", "n", "turned", "order", "way", "other", "more", "ask", "kind", "low"] ["pen", "house", "lows", "n"] (defScope sOthers) := ⟨rfl, rfl, rfl, by decide +kernel, rfl, by decide +kernel, by decide +kernel⟩
theorem ok_others {f fT fU fL fB : Addr} {fd fdT fdU fdL fdB : FuncData} {k : Nat} (F : Fun K "_law_others_right" "_law_others_right" sOthers f fd)
    (GT : FnOk P w K mg base CX0 (k + 6) fT fdT ["pen", "amount"] spTake) (kT : PySem.W.keepIn K (.ref fT) = true) (bT : Binds K fdT ["pen", "amount"] []) (gT : mg "_law_take" = some (.ref fT))
    (GU : FnOk P w K mg base CX0 (k + 6) fU fdU ["pen", "some"] (spTurned K)) (kU : PySem.W.keepIn K (.ref fU) = true) (bU : Binds K fdU ["pen", "some"] []) (gU : mg "_law_turned" = some (.ref fU))
    (GL : FnOk P w K mg base CX0 (k + 6) fL fdL ["house", "n"] (spLeast K)) (kL : PySem.W.keepIn K (.ref fL) = true) (bL : Binds K fdL ["house", "n"] []) (gL : mg "least" = some (.ref fL))
    (GB : FnOk P w K mg base CX0 (k + 6) fB fdB ["house", "store", "n"] (spLasts K)) (kB : PySem.W.keepIn K (.ref fB) = true) (bB : Binds K fdB ["house", "store", "n"] []) (gB : mg "lasts" = some (.ref fB))
    (mt : mg "tuple" = none) (mi : mg "list" = none) (mr : mg "range" = none) (ml : mg "len" = none) (ms : mg "sorted" = none) : FnOk P w K mg base CX0 (k + 7) f fd ["pen", "house", "lows", "n"] (spOthers K) := by
  refine F.ok scOthers (fun vs H Q E h => ?_) (fun cdv A outer s0 H vs Q E hr h => ?_)
  · obtain ⟨p, c, ns, g, x, l, us, h, M, kd, n, n', size, rfl, _⟩ := h
    rfl
  · obtain ⟨p, c, ns, g, x, l, us, h, M, kd, n, n', size, rfl, hP, hg, hx, hl, nlp, dus, bx, h3, h4, cf, nn, can, m60, big, q⟩ := h
    have k1 : 1 ≤ kd := bx.k1
    refine ⟨_, pss_cons (ps_set (i := 4) scOthers.nd rfl (.inl rfl) (pe_callTy call_tuple_of (by rfl) mt (by decide +kernel) (pa_cons (pe_call GU hr (by rfl) gU kU bU .nil pass0 (pa_cons (pv 0) (pa_cons (pe_lc (own := [("ask", 9)]) (g := gName 9) (tt := tYes) (te := (tCB (rTupOf K) (tCons (tCall (spTurned K) [] E0 (tCons (tVar 0) (tCons (tVar 9) tNil))) tNil))) rfl scOthers.nd (pi_tup (pv 1))
        (blkOk_by (N := ["pen", "house", "lows", "n", "turned", "order", "way", "other", "more", "ask", "kind", "low"]) (sc := defScope sOthers) (by decide +kernel)) (fun _ _ _ _ _ => by exact (pg_name (i := 9) scOthers.nd rfl (.inl rfl))) (fun _ _ _ _ _ => pts_nil)
        (fun _ _ _ _ _ => by exact (pe_callTy call_tuple_of (by rfl) mt (by decide +kernel) (pa_cons (pe_call GU hr (by rfl) gU kU bU .nil pass0 (pa_cons (pv 0) (pa_cons (pv 9) pa_nil))) pa_nil)))) pa_nil))) pa_nil)))
      (pss_cons (ps_if (PW.pt (pw_or (pt_cmpR (op_neD hr.units) (pe_call GL hr (by rfl) gL kL bL .nil pass0 (pa_cons (pv 4) (pa_cons (pv 3) pa_nil))) (pv 2) (nomark _)) (pw_or1 (pt_cmpR (op_neD hr.units) (pe_call GL hr (by rfl) gL kL bL .nil pass0 (pa_cons (pe_op op_catN (pv 1) (pe_slice (r := rSlN K) sl_tupN (pv 1) po_none (po_some pe_int))) (pa_cons (pv 3) pa_nil))) (pv 2) (nomark _))))) (pss_one (ps_ret pe_bl)) pss_nil)
      (pss_cons (ps_set (i := 5) scOthers.nd rfl (.inr rfl) (pe_call GU hr (by rfl) gU kU bU .nil pass0 (pa_cons (pv 0) (pa_cons (pe_listRg rfl (by rfl) mi (prg_1 (by rfl) mr (pe_callB call_len_seq (by rfl) ml PySem.boot_len (pa_cons (pe_ix ix_tup (pe_ix ix_tup (pv 1) pe_int (fun _ _ => rfl)) pe_int (fun _ _ => rfl)) pa_nil)))) pa_nil))))
      (pss_cons (ps_set (i := 7) scOthers.nd rfl (.inl rfl) (pe_callTy call_tuple_of (by rfl) mt (by decide +kernel) (pa_cons (pe_lc (own := [("ask", 9)]) (g := gName 9) (tt := tYes) (te := (tCB (rTupOf K) (tCons (tLc (iTup K (tVar 9)) (gName 6) tYes (tCB (rTupOf K) (tCons (tLc (iList K (tVar 5)) (gName 10) tYes (tOp (rIxT K) (tVar 6) (tVar 10)) [10]) tNil)) [6]) tNil))) rfl scOthers.nd (pi_tup (pv 1))
        (blkOk_by (N := ["pen", "house", "lows", "n", "turned", "order", "way", "other", "more", "ask", "kind", "low"]) (sc := defScope sOthers) (by decide +kernel)) (fun _ _ _ _ _ => by exact (pg_name (i := 9) scOthers.nd rfl (.inl rfl))) (fun _ _ _ _ _ => pts_nil)
        (fun _ _ _ _ _ => by exact (by
          refine pe_callTy call_tuple_of (by rfl) mt (by decide +kernel) (pa_cons ?_ pa_nil)
          refine pe_lc (wi := iTup K (tVar 9)) (own := [("way", 6)]) (g := gName 6) (tt := tYes) (te := tCB (rTupOf K) (tCons (tLc (iList K (tVar 5)) (gName 10) tYes (tOp (rIxT K) (tVar 6) (tVar 10)) [10]) tNil)) ?_ ?_ ?_ ?_ ?_ ?_ ?_
          · rfl
          · exact scOthers.nd
          · exact pi_tup (pv 9)
          · exact blkOk_by (N := ["pen", "house", "lows", "n", "turned", "order", "way", "other", "more", "ask", "kind", "low"]) (sc := lcS "ask" .local) (by decide +kernel)
          · exact fun _ _ _ _ _ => by exact (pg_name (i := 6) scOthers.nd rfl (.inr rfl))
          · exact fun _ _ _ _ _ => pts_nil
          · exact fun _ _ _ _ _ => by exact (by
          refine pe_callTy call_tuple_of (by rfl) mt (by decide +kernel) (pa_cons ?_ pa_nil)
          refine pe_lc (wi := iList K (tVar 5)) (own := [("kind", 10)]) (g := gName 10) (tt := tYes) (te := tOp (rIxT K) (tVar 6) (tVar 10)) ?_ ?_ ?_ ?_ ?_ ?_ ?_
          · rfl
          · exact scOthers.nd
          · exact pi_list (pv 5)
          · exact blkOk_by (N := ["pen", "house", "lows", "n", "turned", "order", "way", "other", "more", "ask", "kind", "low"]) (sc := lcS "way" .cell) (by decide +kernel)
          · exact fun _ _ _ _ _ => by exact (pg_name (i := 10) scOthers.nd rfl (.inl rfl))
          · exact fun _ _ _ _ _ => pts_nil
          · exact fun _ _ _ _ _ => by exact (pe_ix ix_tup (pv 6) (pv 10) (fun _ _ => rfl)))))) pa_nil)))
      (pss_cons (ps_if (pt_cmpR (op_neD hr.units) (pe_call GL hr (by rfl) gL kL bL .nil pass0 (pa_cons (pv 7) (pa_cons (pv 3) pa_nil))) (pe_callB (cr_sortD (d := kd) (B := 1000) k1) (by rfl) ms (by decide +kernel) (pa_cons (pe_lc (own := [("low", 11)]) (g := gName 11) (tt := tYes) (te := (tCB (rTupOf K) (tCons (tLc (iList K (tVar 5)) (gName 10) tYes (tOp (rIxT K) (tVar 11) (tVar 10)) [10]) tNil))) rfl scOthers.nd (pi_list (pv 2))
        (blkOk_by (N := ["pen", "house", "lows", "n", "turned", "order", "way", "other", "more", "ask", "kind", "low"]) (sc := defScope sOthers) (by decide +kernel)) (fun _ _ _ _ _ => by exact (pg_name (i := 11) scOthers.nd rfl (.inr rfl))) (fun _ _ _ _ _ => pts_nil)
        (fun _ _ _ _ _ => by exact (by
          refine pe_callTy call_tuple_of (by rfl) mt (by decide +kernel) (pa_cons ?_ pa_nil)
          refine pe_lc (wi := iList K (tVar 5)) (own := [("kind", 10)]) (g := gName 10) (tt := tYes) (te := tOp (rIxT K) (tVar 11) (tVar 10)) ?_ ?_ ?_ ?_ ?_ ?_ ?_
          · rfl
          · exact scOthers.nd
          · exact pi_list (pv 5)
          · exact blkOk_by (N := ["pen", "house", "lows", "n", "turned", "order", "way", "other", "more", "ask", "kind", "low"]) (sc := lcS "low" .cell) (by decide +kernel)
          · exact fun _ _ _ _ _ => by exact (pg_name (i := 10) scOthers.nd rfl (.inl rfl))
          · exact fun _ _ _ _ _ => pts_nil
          · exact fun _ _ _ _ _ => by exact (pe_ix ix_tup (pv 11) (pv 10) (fun _ _ => rfl))))) pa_nil)) (nomark _)) (pss_one (ps_ret pe_bl)) pss_nil)
      (pss_cons (ps_set (i := 6) scOthers.nd rfl (.inl rfl) (pe_callTy call_tuple_of (by rfl) mt (by decide +kernel) (pa_cons (pe_lc (own := [("kind", 10)]) (g := gName 10) (tt := tYes) rfl scOthers.nd (pi_list (pv 5))
        (blkOk_by (N := ["pen", "house", "lows", "n", "turned", "order", "way", "other", "more", "ask", "kind", "low"]) (sc := defScope sOthers) (by decide +kernel)) (fun _ _ _ _ _ => by exact (pg_name (i := 10) scOthers.nd rfl (.inl rfl))) (fun _ _ _ _ _ => pts_nil)
        (fun _ _ _ _ _ => by exact (pe_op op_sub (pe_call GT hr (by rfl) gT kT bT .nil pass0 (pa_cons (pv 0) (pa_cons pe_int pa_nil))) pe_int))) pa_nil)))
      (pss_cons (ps_set (i := 8) scOthers.nd rfl (.inr rfl) (pe_op op_catN (pe_tup (pa_cons (pe_op op_catN (pe_ix ix_tup (pv 1) pe_int (fun _ _ => rfl)) (pe_tup (pa_cons (pv 6) pa_nil))) pa_nil)) (pe_slice (r := rSlN K) sl_tupN (pv 1) (po_some pe_int) po_none)))
      (pss_cons (ps_if (pt_cmpR (op_neD hr.units) (pe_lc (own := [("low", 11)]) (g := gName 11) (tt := tNot (tB (tCall (spLasts K) [] E0 (tCons (tVar 8) (tCons (tVar 11) (tCons (tVar 3) tNil)))))) rfl scOthers.nd (pi_list (pv 2))
        (blkOk_by (N := ["pen", "house", "lows", "n", "turned", "order", "way", "other", "more", "ask", "kind", "low"]) (sc := defScope sOthers) (by decide +kernel)) (fun _ _ _ _ _ => by exact (pg_name (i := 11) scOthers.nd rfl (.inl rfl))) (fun _ _ _ _ _ => by exact pts_one (pt_not (pt_val (pe_call GB hr (by rfl) gB kB bB .nil pass0 (pa_cons (pv 8) (pa_cons (pv 11) (pa_cons (pv 3) pa_nil)))))))
        (fun _ _ _ _ _ => by exact (pv 11))) (pe_lst pa_nil) (nomark _)) (pss_one (ps_ret pe_bl)) pss_nil)
      (pss_one (ps_ret (pe_cmpR (op_eqD hr.units) (pe_lc (own := [("low", 11)]) (g := gName 11) (tt := tNot (tB (tCall (spLasts K) [] E0 (tCons (tVar 1) (tCons (tVar 11) (tCons (tVar 3) tNil)))))) rfl scOthers.nd (pi_list (pe_call GL hr (by rfl) gL kL bL .nil pass0 (pa_cons (pe_op op_catN (pv 1) (pe_tup (pa_cons (pe_tup (pa_cons (pv 6) pa_nil)) pa_nil))) (pa_cons (pv 3) pa_nil))))
        (blkOk_by (N := ["pen", "house", "lows", "n", "turned", "order", "way", "other", "more", "ask", "kind", "low"]) (sc := defScope sOthers) (by decide +kernel)) (fun _ _ _ _ _ => by exact (pg_name (i := 11) scOthers.nd rfl (.inl rfl))) (fun _ _ _ _ _ => by exact pts_one (pt_not (pt_val (pe_call GB hr (by rfl) gB kB bB .nil pass0 (pa_cons (pv 1) (pa_cons (pv 11) (pa_cons (pv 3) pa_nil)))))))
        (fun _ _ _ _ _ => by exact (pv 11))) (pe_lst pa_nil) (nomark _))))))))))), ?_⟩
    -- sem
    unfold penMost at hg
    have k4 := bx.k4
    have o := bx.box.hs
    have len := o.len
    have lo := lows_of can k1 k4 fun x hx => ln_prj o n hx
    have hone := bx.one
    have n1000 : n ≤ 1000 := by have := cf.n6; omega
    have fw : ∀ {g : Asks}, BoxN g kd size → Few (asks4 g) n 49 := fun b => b.box.few cf nn
    obtain ⟨at0, left0, hp0, _⟩ := hP.pe
    have hx0 := hx
    cases hx with
    | @tup ha asv _ hT hall =>
    have lv : asv.length = h.length := by rw [dpAll_len hall, List.length_map]
    -- turned about
    refine ⟨_, rfl, _, rfl, ha, rfl, ⟨_, hT⟩, fun D nD => ?_⟩
    have sD := same_upd (o := .lst []) nD
    obtain ⟨npD, ncD⟩ := hP.nep nD
    refine lc_tup (K := K) (a := ha) (xs := asv) (fun j H1 => Kp p H H1 ∧ Pen H1 p c ns (g + 20 * j) ∧ ∃ (ps : List V) (gs : Asks), H1 D = some (.lst ps) ∧ DpAll K H1 ps (gs.map askD) ∧ gs.length = j ∧ ByItem List.Perm gs h)
      ⟨sD.kp, hP.same sD, [], [], upd_same, .nil, rfl, byItem_nil⟩ (fun j H1 _ ⟨kp1, _⟩ => kp1.seqT hp0 hT) ?_ ?_
    · rintro j v H1 hj ⟨kp1, P1, ps, gs, hD, dps, lg, pg⟩
      obtain ⟨d, hd, dv⟩ := dpAll_get hall hj
      rw [List.getElem?_map] at hd
      obtain ⟨a, haj, rfl⟩ := Option.map_eq_some_iff.mp hd
      have ma := List.mem_of_getElem? haj
      have a4 := h4 a ma
      have lps := dpAll_len dps
      rw [List.length_map] at lps
      have j3 : j < 3 := by have := (List.getElem?_eq_some_iff.mp haj).1; omega
      have dv1 := hP.dp kp1 dv (noL_ask a)
      cases dv1 with
      | @tup aa ws _ aT wall =>
      have lws : ws.length = a.length := by rw [dpAll_len wall, List.length_map]
      refine ⟨rfl, ?_⟩
      refine ⟨_, rfl, _, rfl, p, c, ns, _, aa, ws, a.map wayD, rfl, P1, by unfold penMost; omega, .inr aT, wall, fun d hd => ?_, by omega, fun q1 H2 ys es kp2 P2 nq hq dys pm => ?_⟩
      · obtain ⟨l, _, rfl⟩ := List.mem_map.mp hd
        exact plain_way l
      · obtain ⟨a', pa, rfl⟩ := perm_lift wayD pm
        refine ⟨q1, ys, rfl, .inl ⟨SqL.of hq, fun W nW => ?_⟩⟩
        have sW := same_upd (o := .tup ys) nW
        have dW : Dp K (upd H2 W (.tup ys)) (.ref W) (askD a') := dp_tup nW dys
        have hDW := sW _ _ (kp2 _ _ hD npD.symm)
        refine ⟨ps, hDW, small_line (by omega), ((kp1.trans kp2).same sW).put nD, ((P2.same sW).put npD ncD).mono (by omega), ps ++ [.ref W], gs ++ [a'], upd_same, ?_, by rw [List.length_append, lg]; rfl, byItem_snoc pg (by rw [lg]; exact haj) pa⟩
        exact dpAll_put hDW (dpAll_app1 (dpAll_same sW (P1.dpAll kp2 dps (noLAll_map noL_ask gs))) dW) (noLAll_map noL_ask _)
    rintro H1 ⟨kp1, P1, ps, gs, hD, dps, lg, pg⟩
    have lps := dpAll_len dps
    rw [List.length_map] at lps
    refine ⟨p, c, ns, _, D, ps, gs.map askD, rfl, P1, by unfold penMost; omega, .inl (SqL.of hD), dps, fun d hd => ?_, by omega, fun q1 H2 ys es kp2 P2 nq hq dys pm => ?_⟩
    · obtain ⟨l, _, rfl⟩ := List.mem_map.mp hd
      exact plain_ask l
    obtain ⟨gs', pgs, rfl⟩ := perm_lift askD pm
    have tok := turnOk_of (by omega) pg pgs
    refine ⟨q1, ys, rfl, .inl ⟨SqL.of hq, fun W nW => ?_⟩⟩
    have sW := same_upd (o := .tup ys) nW
    have dW : Dp K (upd H2 W (.tup ys)) (.ref W) (houseD gs') := dp_tup nW dys
    have kpW := (kp1.trans kp2).same sW
    have PW := (P2.same sW).mono (m := g + 80) (by omega)
    have hlW := kpW _ _ hl nlp
    have dusW := hP.dpAll kpW dus (noLAll_map noL_way _)
    have hxW := hP.dp kpW hx0 (noL_house h)
    have hTW := kpW.seqT hp0 hT
    have hallW := hP.dpAll kpW hall (noLAll_map noL_ask h)
    generalize upd H2 W (.tup ys) = G at sW dW kpW PW hlW dusW hxW hTW hallW ⊢
    have bt := tok.box bx
    have dl : Dp K G (.ref l) (stsD (M.map fun x : List Int => x.take kd)) := .lst (SqL.of hlW) dusW
    -- told alike
    refine ⟨_, rfl, _, rfl, .ref W, gs', kd, n, 49, rfl, dW, bt.box.hs, n1000, fw bt, fun q2 H3 rs M2 s3 nq2 hq2 drs can2 => ?_⟩
    have e2 : M = M2 := (ofPerm can can2 fun x => tok.ln).symm
    subst e2
    refine ⟨_, rfl, stsD _, stsD _, .lst (SqL.of hq2) drs, dp_same s3 dl, sts_shaped _, sts_shaped _, _, rfl, ifF (by rw [eqv_sts_self]; rfl) ?_⟩
    have hT3 := s3.seqT hTW
    refine ⟨_, rfl, _, rfl, 1, rfl, ha, asv, rfl, hT3, fun c1 H4 s4 h1 => ?_⟩
    rw [show (1 : Int) = ((1 : Nat) : Int) from rfl, cutV_to (by omega)] at h1
    refine ⟨ha, c1, _, _, rfl, rfl, s4.seqT hT3, h1, ?_, fun c2 H5 s5 h2 => ?_⟩
    · rw [List.length_take, lv, sizeLine_eq]
      omega
    have s35 := s3.trans (s4.trans s5)
    have d2 : Dp K H5 (.ref c2) (houseD (h ++ h.take 1)) := .tup h2 (by
      rw [List.map_append, List.map_take]
      exact dpAll_app (dpAll_same s35 hallW) (dpAll_take 1 (dpAll_same s35 hallW)))
    have b2 : BoxN (h ++ h.take 1) kd size := bx.app (fun a ha => bx.all a (List.mem_of_mem_take ha)) (by rw [List.length_take]; omega)
    refine ⟨_, rfl, .ref c2, h ++ h.take 1, kd, n, 49, rfl, d2, b2.box.hs, n1000, fw b2, fun q3 H6 rs3 M3 s6 nq3 hq3 drs3 can3 => ?_⟩
    have e3 : M = M3 := (ofPerm can can3 fun x => ln_like (fun b hb => ⟨b, List.mem_append_left _ hb, fun w hw => hw⟩) (fun a ha => by
      rcases List.mem_append.mp ha with ha | ha
      · exact ⟨a, ha, fun w hw => hw⟩
      · exact ⟨a, List.mem_of_mem_take ha, fun w hw => hw⟩)).symm
    subst e3
    have sG6 := s35.trans s6
    refine ⟨_, rfl, stsD _, stsD _, .lst (SqL.of hq3) drs3, dp_same sG6 dl, sts_shaped _, sts_shaped _, _, rfl, ifF (by rw [eqv_sts_self]; rfl) ?_⟩
    -- the kinds' order
    obtain ⟨a0, w0, ha0, hw0⟩ := o.ne
    have ma0 := List.mem_of_getElem? ha0
    obtain ⟨v0, hv0, dv0⟩ := dpAll_getD (i := 0) (d := askD a0) hallW (by rw [List.getElem?_map, ha0]; rfl)
    cases dv0 with
    | @tup aa ws _ aT wall =>
    obtain ⟨u0, hu0, du0⟩ := dpAll_getD (i := 0) (d := wayD w0) wall (by rw [List.getElem?_map, hw0]; rfl)
    obtain ⟨wa, rfl, wT⟩ := way_of du0
    have lw0 := len a0 ma0 w0 (List.mem_of_getElem? hw0)
    refine ⟨_, rfl, _, rfl, ha, asv, 0, .ref aa, rfl, rfl, sG6.seqT hTW, atI_nat (j := 0) hv0, aa, ws, 0, .ref wa, rfl, rfl, sG6.seqT aT, atI_nat (j := 0) hu0, wa, _, rfl, .inr (sG6.seqT wT), _, rfl, ?_, fun L nL => ?_⟩
    · rw [List.length_map, lw0]
      exact RgOk.of_le (by decide) (by omega) (by decide) (by omega)
    have eL : rgV 0 (((w0.map V.int).length : Nat) : Int) = ((List.range kd).map fun i : Nat => (i : Int)).map V.int := by
      unfold rgV
      rw [List.length_map, lw0, List.map_map, show ((kd : Int) - 0).toNat = kd by omega]
      refine List.map_congr_left fun i _ => ?_
      show V.int (0 + (i : Int)) = V.int i
      rw [Int.zero_add]
    rw [eL]
    have sL := same_upd (o := .lst (((List.range kd).map fun i : Nat => (i : Int)).map V.int)) nL
    have PL := PW.same (sG6.trans sL)
    refine ⟨p, c, ns, _, L, _, ((List.range kd).map fun i : Nat => (i : Int)).map PyData.int, rfl, PL, by unfold penMost; omega, .inl (SqL.of upd_same), dpAll_ints _, fun d hd => ?_, by simp only [List.length_map, List.length_range]; omega, fun q4 H8 ys4 es4 kp8 P8 nq4 hq4 dys4 pm4 => ?_⟩
    · obtain ⟨z, _, rfl⟩ := List.mem_map.mp hd
      exact plain_int z
    obtain ⟨os, pos, rfl⟩ := perm_lift PyData.int pm4
    obtain ⟨ord, pord, rfl⟩ := perm_lift (fun i : Nat => (i : Int)) pos
    obtain rfl := ints_of_dp dys4
    have oK : OrdK kd ord := ⟨pord, k4⟩
    have npq4 : q4 ≠ p := (PL.nep nq4).1.symm
    have kpG8 := ((sG6.trans sL).kp (p := p)).trans kp8
    obtain ⟨at1, left1, hp1, _⟩ := PW.pe
    have hT8 := kpG8.seqT hp1 hTW
    have hall8 := PW.dpAll kpG8 hallW (noLAll_map noL_ask h)
    have hl8 := kpG8 _ _ hlW nlp
    have dus8 := PW.dpAll kpG8 dusW (noLAll_map noL_way _)
    have hx8 := PW.dp kpG8 hxW (noL_house h)
    have aT8 := kpG8.seqT hp1 aT
    have wall8 := PW.dpAll kpG8 wall (noLAll_map noL_way _)
    have kpH8 := kpW.trans kpG8
    -- the other house
    refine ⟨_, rfl, ha, rfl, ⟨_, hT8⟩, fun D1 nD1 => ?_⟩
    have sD1 := same_upd (o := .lst []) nD1
    refine lc_tup (K := K) (a := ha) (xs := asv) (fun j H1 => Same H8 H1 ∧ ∃ ps, H1 D1 = some (.lst ps) ∧ DpAll K H1 ps (((h.take j).map fun a => a.map (pmk ord)).map askD)) ⟨sD1, [], upd_same, .nil⟩ (fun j H1 _ ⟨s1, _⟩ => s1.seqT hT8) ?_ ?_
    · rintro j v H9 hj ⟨s9, ps9, hD9, dps9⟩
      obtain ⟨d, hd, dv⟩ := dpAll_get hall8 hj
      rw [List.getElem?_map] at hd
      obtain ⟨a, haj, rfl⟩ := Option.map_eq_some_iff.mp hd
      have ma := List.mem_of_getElem? haj
      have a4 := h4 a ma
      have lp9 := dpAll_len dps9
      simp only [List.length_map, List.length_take] at lp9
      cases dv with
      | @tup aa' ws' _ aT' wall' =>
      have lws' : ws'.length = a.length := by rw [dpAll_len wall', List.length_map]
      refine ⟨rfl, ?_⟩
      refine ⟨_, rfl, aa', rfl, ⟨_, s9.seqT aT'⟩, fun D2 nD2 => ?_⟩
      have sD2 := same_upd (o := .lst []) nD2
      refine lc_tup (K := K) (a := aa') (xs := ws') (fun i H10 => Same H9 H10 ∧ ∃ qs, H10 D2 = some (.lst qs) ∧ DpAll K H10 qs (((a.take i).map (pmk ord)).map wayD)) ⟨sD2, [], upd_same, .nil⟩ (fun i H10 _ ⟨s10, _⟩ => (s9.trans s10).seqT aT') ?_ ?_
      · rintro i u H10 hi ⟨s10, qs, hD10, dqs⟩
        obtain ⟨w1, hw1, dw⟩ := sts_get wall' hi
        have lw1 := len a ma w1 (List.mem_of_getElem? hw1)
        have lq := sts_len dqs
        simp only [List.length_map, List.length_take] at lq
        obtain ⟨wa', rfl, wT'⟩ := way_of dw
        refine ⟨rfl, ?_⟩
        refine ⟨_, rfl, q4, rfl, ⟨_, SqL.of (s10 _ _ (s9 _ _ hq4))⟩, fun D3 nD3 => ?_⟩
        have sD3 := same_upd (o := .lst []) nD3
        refine lc_list (K := K) (a := q4) (xs := (ord.map fun i : Nat => (i : Int)).map V.int) (fun t H11 => Same H10 H11 ∧ H11 D3 = some (.lst ((pmk (ord.take t) w1).map V.int))) ⟨sD3, upd_same⟩ (fun t H11 _ ⟨s11, _⟩ => SqL.of (s11 _ _ (s10 _ _ (s9 _ _ hq4)))) ?_ ?_
        · rintro t v H11 ht ⟨s11, hD11⟩
          rw [List.getElem?_map, List.getElem?_map, Option.map_map] at ht
          obtain ⟨k0, hk0, rfl⟩ := Option.map_eq_some_iff.mp ht
          have lk := oK.lt (List.mem_of_getElem? hk0)
          refine ⟨rfl, ?_⟩
          refine ⟨_, rfl, _, rfl, wa', _, (k0 : Int), .int (w1.getD k0 0), rfl, rfl, (s9.trans (s10.trans s11)).seqT wT', atI_nat (by rw [List.getElem?_map, List.getD_eq_getElem?_getD, List.getElem?_eq_getElem (by omega)]; rfl), ?_⟩
          refine ⟨_, hD11, small_line (by rw [List.length_map]; unfold pmk; rw [List.length_map, List.length_take, oK.len]; omega), fun b o e => ?_, ?_⟩
          · rw [upd_ne (ne_of_none e nD3)]
            exact s11 _ _ e
          · rw [upd_same, take_snoc hk0]
            unfold pmk
            rw [List.map_append, List.map_append]
            rfl
        · rintro H11 ⟨s11, hD11⟩
          rw [take_all (by rw [List.length_map, List.length_map])] at hD11
          refine ⟨D3, _, rfl, .inl ⟨SqL.of hD11, fun W3 nW3 => ?_⟩⟩
          have sW3 := same_upd (o := .tup ((pmk ord w1).map V.int)) nW3
          have dW3 := dp_tup nW3 (dpAll_ints (K := K) (pmk ord w1))
          have hD2' := sW3 _ _ (s11 _ _ hD10)
          refine ⟨qs, hD2', small_line (by omega), fun b o e => ?_, qs ++ [.ref W3], upd_same, ?_⟩
          · rw [upd_ne (ne_of_none e nD2)]
            exact sW3 _ _ (s11 _ _ (s10 _ _ e))
          · rw [take_snoc hw1, List.map_append]
            exact dpAll_put hD2' (dpAll_app1 (dpAll_same (s11.trans sW3) dqs) dW3) (noLAll_map noL_way _)
      · rintro H10 ⟨s10, qs, hD10, dqs⟩
        rw [take_all lws'] at dqs
        refine ⟨D2, _, rfl, .inl ⟨SqL.of hD10, fun W2 nW2 => ?_⟩⟩
        have sW2 := same_upd (o := .tup qs) nW2
        have dW2 : Dp K (upd H10 W2 (.tup qs)) (.ref W2) (askD (a.map (pmk ord))) := dp_tup nW2 dqs
        have hD1' := sW2 _ _ (s10 _ _ hD9)
        refine ⟨ps9, hD1', small_line (by omega), fun b o e => ?_, ps9 ++ [.ref W2], upd_same, ?_⟩
        · rw [upd_ne (ne_of_none e nD1)]
          exact sW2 _ _ (s10 _ _ (s9 _ _ e))
        · rw [take_snoc haj, List.map_append]
          exact dpAll_put hD1' (dpAll_app1 (dpAll_same (s10.trans sW2) dps9) dW2) (noLAll_map noL_ask _)
    rintro H9 ⟨s9, ps9, hD9, dps9⟩
    rw [take_all lv] at dps9
    refine ⟨D1, _, rfl, .inl ⟨SqL.of hD9, fun W1 nW1 => ?_⟩⟩
    have sW1 := same_upd (o := .tup ps9) nW1
    have dW1 : Dp K (upd H9 W1 (.tup ps9)) (.ref W1) (houseD (kindsH ord h)) := dp_tup nW1 dps9
    have s8W := s9.trans sW1
    generalize upd H9 W1 (.tup ps9) = G1 at sW1 dW1 s8W ⊢
    have size0 : 0 ≤ size := by have := cf.s1; omega
    have bk := kinds_box oK bx size0
    -- led over
    refine ⟨_, rfl, _, rfl, .ref W1, kindsH ord h, kd, n, 49, rfl, dW1, bk.box.hs, n1000, fw bk, fun q5 H12 rs5 M5 s12 nq5 hq5 drs5 can5 => ?_⟩
    have s8' := s8W.trans s12
    refine ⟨_, rfl, l, rfl, ⟨_, SqL.of (s8' _ _ hl8)⟩, fun D4 nD4 => ?_⟩
    have sD4 := same_upd (o := .lst []) nD4
    have lus : us.length = M.length := by rw [dpAll_len dus8, List.length_map, List.length_map]
    have getL : ∀ {i : Nat} {v : V}, us[i]? = some v → ∃ x, M[i]? = some x ∧ x ∈ M ∧ Dp K H8 v (wayD (x.take kd)) := fun {i v} e => by
      obtain ⟨t, ht, dv⟩ := sts_get dus8 e
      rw [List.getElem?_map] at ht
      obtain ⟨x, hx, rfl⟩ := Option.map_eq_some_iff.mp ht
      exact ⟨x, hx, List.mem_of_getElem? hx, dv⟩
    refine lc_list (K := K) (a := l) (xs := us) (fun j H13 => Same H12 H13 ∧ ∃ ps, H13 D4 = some (.lst ps) ∧ DpAll K H13 ps ((((M.take j).map fun x : List Int => x.take kd).map (pmk ord)).map wayD)) ⟨sD4, [], upd_same, .nil⟩ (fun j H13 _ ⟨s13, _⟩ => SqL.of (s13 _ _ (s8' _ _ hl8))) ?_ ?_
    · rintro j v H13 hj ⟨s13, ps, hD13, dps13⟩
      obtain ⟨x1, hx1, m1, dv⟩ := getL hj
      have lx1 := lo.len x1 m1
      obtain ⟨ta, rfl, tT⟩ := way_of dv
      have lp13 := sts_len dps13
      simp only [List.length_map, List.length_take] at lp13
      refine ⟨rfl, ?_⟩
      refine ⟨_, rfl, q4, rfl, ⟨_, SqL.of (s13 _ _ (s8' _ _ hq4))⟩, fun D3 nD3 => ?_⟩
      have sD3 := same_upd (o := .lst []) nD3
      refine lc_list (K := K) (a := q4) (xs := (ord.map fun i : Nat => (i : Int)).map V.int) (fun t H11 => Same H13 H11 ∧ H11 D3 = some (.lst ((pmk (ord.take t) (x1.take kd)).map V.int))) ⟨sD3, upd_same⟩ (fun t H11 _ ⟨s11, _⟩ => SqL.of (s11 _ _ (s13 _ _ (s8' _ _ hq4)))) ?_ ?_
      · rintro t v H11 ht ⟨s11, hD11⟩
        rw [List.getElem?_map, List.getElem?_map, Option.map_map] at ht
        obtain ⟨k0, hk0, rfl⟩ := Option.map_eq_some_iff.mp ht
        have lk := oK.lt (List.mem_of_getElem? hk0)
        refine ⟨rfl, ?_⟩
        refine ⟨_, rfl, _, rfl, ta, _, (k0 : Int), .int ((x1.take kd).getD k0 0), rfl, rfl, (s8'.trans (s13.trans s11)).seqT tT, atI_nat (by rw [List.getElem?_map, List.getD_eq_getElem?_getD, List.getElem?_eq_getElem (by omega)]; rfl), ?_⟩
        refine ⟨_, hD11, small_line (by rw [List.length_map]; unfold pmk; rw [List.length_map, List.length_take, oK.len]; omega), fun b o e => ?_, ?_⟩
        · rw [upd_ne (ne_of_none e nD3)]
          exact s11 _ _ e
        · rw [upd_same, take_snoc hk0]
          unfold pmk
          rw [List.map_append, List.map_append]
          rfl
      · rintro H11 ⟨s11, hD11⟩
        rw [take_all (by rw [List.length_map, List.length_map])] at hD11
        refine ⟨D3, _, rfl, .inl ⟨SqL.of hD11, fun W3 nW3 => ?_⟩⟩
        have sW3 := same_upd (o := .tup ((pmk ord (x1.take kd)).map V.int)) nW3
        have dW3 := dp_tup nW3 (dpAll_ints (K := K) (pmk ord (x1.take kd)))
        have hD2' := sW3 _ _ (s11 _ _ hD13)
        refine ⟨ps, hD2', small_line (by omega), fun b o e => ?_, ps ++ [.ref W3], upd_same, ?_⟩
        · rw [upd_ne (ne_of_none e nD4)]
          exact sW3 _ _ (s11 _ _ (s13 _ _ e))
        · rw [take_snoc hx1, List.map_append, List.map_append]
          exact dpAll_put hD2' (dpAll_app1 (dpAll_same (s11.trans sW3) dps13) dW3) (noLAll_map noL_way _)
    rintro H13 ⟨s13, ps, hD13, dps13⟩
    rw [take_all lus] at dps13
    have bdP : ∀ t ∈ (M.map fun x : List Int => x.take kd).map (pmk ord), t.length = kd ∧ TS.Bd 1000 t := fun t ht => by
      obtain ⟨t0, ht0, rfl⟩ := List.mem_map.mp ht
      obtain ⟨x1, m1, rfl⟩ := List.mem_map.mp ht0
      refine ⟨oK.pmk_len _, fun z hz => ?_⟩
      obtain ⟨k0, hk0, rfl⟩ := List.mem_map.mp hz
      have lk := oK.lt hk0
      have lx1 := lo.len x1 m1
      rw [List.getD_eq_getElem?_getD, List.getElem?_eq_getElem (by omega)]
      have mm := List.getElem_mem (l := x1.take kd) (n := k0) (by omega)
      exact ⟨lo.pos x1 m1 _ mm, big x1 m1 _ (List.mem_of_mem_take mm)⟩
    refine ⟨D4, ps, (M.map fun x : List Int => x.take kd).map (pmk ord), rfl, SqL.of hD13, dps13, by rw [List.length_map, List.length_map]; omega, bdP, fun ys T r1 pm pw np dT => ?_⟩
    have sT := same_upd (o := .lst ys) np
    have e5 := kinds_lows oK len lo can can5 (fun t ht => (bdP t (pm.mem_iff.mp ht)).2) pm pw
    subst e5
    refine ⟨stsD _, stsD _, dp_same (s13.trans sT) (.lst (SqL.of hq5) drs5), .lst (SqL.of upd_same) dT, sts_shaped _, sts_shaped _, _, rfl, ifF (by rw [eqv_sts_self]; rfl) ?_⟩
    have s8T := s8'.trans (s13.trans sT)
    have P9 := P8.same s8T
    have kpT := kpH8.same s8T
    generalize upd H13 r1 (.lst ys) = G2 at sT dT s8T P9 kpT ⊢
    -- a way more, drawn
    have hq9 := s8T _ _ hq4
    refine ⟨_, rfl, q4, rfl, ⟨_, SqL.of hq9⟩, fun D nD => ?_⟩
    have sD := same_upd (o := .lst []) nD
    obtain ⟨npD, ncD⟩ := P9.nep nD
    refine lc_list (K := K) (a := q4) (xs := (ord.map fun i : Nat => (i : Int)).map V.int) (fun t H14 => Kp p G2 H14 ∧ Pen H14 p c ns (g + 120 + t) ∧ H14 q4 = some (.lst ((ord.map fun i : Nat => (i : Int)).map V.int)) ∧ ∃ zs : List Int, H14 D = some (.lst (zs.map V.int)) ∧ zs.length = t ∧ ∀ z ∈ zs, -1 ≤ z ∧ z ≤ 1)
      ⟨sD.kp, (P9.same sD).mono (by omega), sD _ _ hq9, [], upd_same, rfl, by simp⟩ (fun t H14 _ ⟨_, _, hq, _⟩ => SqL.of hq) ?_ ?_
    · rintro t v H14 ht ⟨kp14, P14, hq14, zs, hD14, lz, bz⟩
      have tk : t < kd := by
        have := (List.getElem?_eq_some_iff.mp ht).1
        simp only [List.length_map, oK.len] at this
        exact this
      refine ⟨rfl, ?_⟩
      refine ⟨_, rfl, p, c, ns, _, 3, rfl, P14, by unfold penMost; omega, by decide, by decide, fun r H15 r0 r1 kp15 P15 => ?_⟩
      have hD15 := kp15 _ _ hD14 npD.symm
      refine ⟨r, 1, rfl, rfl, _, hD15, small_line (by rw [List.length_map]; omega), (kp14.trans kp15).put nD, (P15.put npD ncD).mono (by omega), ?_, zs ++ [r - 1], ?_, by rw [List.length_append, lz]; rfl, mem_app1 bz ⟨by omega, by omega⟩⟩
      · rw [upd_ne (ne_of_none hq9 nD)]
        exact kp15 _ _ hq14 npq4
      · rw [upd_same, List.map_append]
        rfl
    rintro H14 ⟨kp14, P14, hq14, zs, hD14, lz, bz⟩
    have lzk : zs.length = kd := by rw [lz, List.length_map, List.length_map, oK.len]
    refine ⟨D, _, rfl, .inl ⟨SqL.of hD14, fun W nW => ?_⟩⟩
    have sW2 := same_upd (o := .tup (zs.map V.int)) nW
    have dW2 := dp_tup nW (dpAll_ints (K := K) zs)
    have kp8 := (s8T.kp (p := p)).trans (kp14.same sW2)
    have kpHe := kpH8.trans kp8
    obtain ⟨at2, left2, hp2, _⟩ := P8.pe
    have hTe := kp8.seqT hp2 hT8
    have halle := P8.dpAll kp8 hall8 (noLAll_map noL_ask h)
    have hle := kp8 _ _ hl8 nlp
    have duse := P8.dpAll kp8 dus8 (noLAll_map noL_way _)
    have hxe := P8.dp kp8 hx8 (noL_house h)
    have aTe := kp8.seqT hp2 aT8
    have walle := P8.dpAll kp8 wall8 (noLAll_map noL_way _)
    have Pe : Pen (upd H14 W (.tup (zs.map V.int))) p c ns (g + 500) := (P14.same sW2).mono (by simp only [List.length_map, oK.len]; omega)
    generalize upd H14 W (.tup (zs.map V.int)) = G3 at dW2 kpHe hTe halle hle duse hxe aTe walle Pe ⊢
    -- the first ask with it
    refine ⟨_, rfl, ha, asv, 0, .ref aa, rfl, rfl, hTe, atI_nat (j := 0) hv0, _, rfl, by show 1 ≤ sizeLine; decide, fun T1 nT1 => ?_⟩
    have sT1 := same_upd (o := .tup [V.ref W]) nT1
    refine ⟨aa, T1, _, _, rfl, rfl, sT1.seqT aTe, SqT.of upd_same, ?_, fun c1 H15 s15 h1 => ?_⟩
    · have := dpAll_len walle
      have a4 := h4 a0 ma0
      rw [List.length_map] at this
      rw [this, sizeLine_eq]
      show _ + 1 ≤ _
      omega
    refine ⟨by show 1 ≤ sizeLine; decide, fun T2 nT2 => ?_⟩
    have sT2 := same_upd (o := .tup [V.ref c1]) nT2
    have s3 := sT1.trans (s15.trans sT2)
    refine ⟨_, rfl, 1, rfl, ha, asv, rfl, s3.seqT hTe, fun c2 H16 s16 h2 => ?_⟩
    rw [show (1 : Int) = ((1 : Nat) : Int) from rfl, cutV_from (by omega)] at h2
    refine ⟨T2, c2, _, _, rfl, rfl, s16.seqT (SqT.of upd_same), h2, ?_, fun c3 H17 s17 h3' => ?_⟩
    · rw [List.length_drop, lv, sizeLine_eq]
      show 1 + _ ≤ _
      omega
    have sm := s3.trans (s16.trans s17)
    have dm : Dp K H17 (.ref c3) (houseD ((a0 ++ [zs]) :: h.drop 1)) := .tup h3' (.cons (.tup ((sT2.trans (s16.trans s17)).seqT h1) (by
      rw [List.map_append]
      exact dpAll_app (dpAll_same sm walle) (.cons (dp_same sm dW2) .nil))) (by
      rw [List.map_drop]
      exact dpAll_drop 1 (dpAll_same sm halle)))
    have ha0e : h = a0 :: h.drop 1 := by
      cases h with
      | nil => cases ha0
      | cons b r => rw [Option.some.inj (show some b = some a0 from ha0)]; rfl
    have a4 := h4 a0 ma0
    have size1 := cf.s1
    have bz' : ∀ z ∈ zs, -size ≤ z ∧ z ≤ size := fun z hz => by
      have := bz z hz
      omega
    have bm : BoxN ((a0 ++ [zs]) :: h.drop 1) kd size := by
      refine ⟨by simp, by rw [List.length_cons, List.length_drop]; omega, k1, k4, fun a ha => ?_⟩
      rcases List.mem_cons.mp ha with rfl | ha
      · obtain ⟨z1, z2, z3⟩ := bx.all a0 ma0
        refine ⟨by rw [List.length_append]; omega, by rw [List.length_append]; show a0.length + 1 ≤ 5; omega, fun l hl => ?_⟩
        rcases List.mem_append.mp hl with hl | hl
        · exact z3 l hl
        · rw [List.mem_singleton.mp hl]
          exact ⟨lzk, bz'⟩
      · exact bx.all a (List.mem_of_mem_drop ha)
    have lnm : ∀ x, LN (asks4 h) n x → LN (asks4 ((a0 ++ [zs]) :: h.drop 1)) n x := fun x => LN.sub0 fun b hb => by
      rcases List.mem_cons.mp hb with rfl | hb
      · exact ⟨a0, ma0, fun w hw => List.mem_append_left _ hw⟩
      · exact ⟨b, List.mem_of_mem_drop hb, fun w hw => hw⟩
    -- with a way more all last
    refine ⟨_, rfl, l, rfl, ⟨_, SqL.of (sm _ _ hle)⟩, fun D5 nD5 => ?_⟩
    have sD5 := same_upd (o := .lst []) nD5
    refine lc_list (K := K) (a := l) (xs := us) (fun i H18 => Same H17 H18 ∧ H18 D5 = some (.lst [])) ⟨sD5, upd_same⟩ (fun i H18 _ ⟨s18, _⟩ => SqL.of (s18 _ _ (sm _ _ hle))) ?_ ?_
    · rintro i v H18 hi ⟨s18, hD18⟩
      obtain ⟨x1, _, m1, dv⟩ := lows_get duse hi
      have lx1 := lo.len x1 m1
      refine ⟨rfl, ?_⟩
      refine ⟨_, rfl, _, rfl, _, rfl, .ref c3, v, _, x1.take kd, kd, n, 49, rfl, dp_same s18 dm, dp_same (sm.trans s18) dv, bm.box.hs, by omega, by omega, lo.pos x1 m1, n1000, fw bm, fun b H19 s19 hb => ?_⟩
      rw [lo.back x1 m1] at hb
      obtain rfl : b = true := hb.mpr (lnm _ ((can.up x1 (can.ok x1 m1)).mp ⟨x1, m1, le4_refl (can.ok x1 m1)⟩))
      exact ⟨true, rfl, ifF rfl ⟨s18.trans s19, s19 _ _ hD18⟩⟩
    rintro H18 ⟨s18, hD18⟩
    refine ⟨by show 0 ≤ sizeLine; decide, fun E1 nE => ?_⟩
    have sE := same_upd (o := .lst []) nE
    refine ⟨.list [], .list [], .lst (SqL.of (sE _ _ hD18)) .nil, .lst (SqL.of upd_same) .nil, by decide, by decide, _, rfl, ?_⟩
    refine ifF rfl ?_
    have sn := sm.trans (s18.trans sE)
    -- an ask more
    refine ⟨_, rfl, _, rfl, by show 1 ≤ sizeLine; decide, fun T3 nT3 => ?_⟩
    have sT3 := same_upd (o := .tup [V.ref W]) nT3
    refine ⟨by show 1 ≤ sizeLine; decide, fun T4 nT4 => ?_⟩
    have sT4 := same_upd (o := .tup [V.ref T3]) nT4
    have s34 := sn.trans (sT3.trans sT4)
    refine ⟨ha, T4, _, _, rfl, rfl, s34.seqT hTe, SqT.of upd_same, ?_, fun c4 H20 s20 h4' => ?_⟩
    · rw [lv, sizeLine_eq]
      show _ + 1 ≤ _
      omega
    have s320 := s34.trans s20
    have da : Dp K H20 (.ref c4) (houseD (h ++ [[zs]])) := .tup h4' (by
      rw [List.map_append]
      exact dpAll_app (dpAll_same s320 halle) (.cons (.tup ((sT4.trans s20).seqT (SqT.of upd_same)) (.cons (dp_same s320 dW2) .nil)) .nil))
    have ba : BoxN (h ++ [[zs]]) kd size := bx.app (fun a ha => by
      rw [List.mem_singleton.mp ha]
      refine ⟨by simp, by simp, fun l hl => ?_⟩
      rw [List.mem_singleton.mp hl]
      exact ⟨lzk, bz'⟩) (by simp; omega)
    refine ⟨_, rfl, .ref c4, h ++ [[zs]], kd, n, 49, rfl, da, ba.box.hs, n1000, fw ba, fun q6 H21 rs6 M6 s21 nq6 hq6 drs6 can6 => ?_⟩
    have lo6 := lows_of can6 k1 k4 fun x hx => ln_prj ba.box.hs n hx
    have s321 := s320.trans s21
    refine ⟨q6, rfl, ⟨_, SqL.of hq6⟩, fun D6 nD6 => ?_⟩
    have sD6 := same_upd (o := .lst []) nD6
    refine lc_list (K := K) (a := q6) (xs := rs6) (fun i H22 => Same H21 H22 ∧ H22 D6 = some (.lst [])) ⟨sD6, upd_same⟩ (fun i H22 _ ⟨s22, _⟩ => SqL.of (s22 _ _ hq6)) ?_ ?_
    · rintro i v H22 hi ⟨s22, hD22⟩
      obtain ⟨x1, _, m1, dv⟩ := lows_get drs6 hi
      have lx1 := lo6.len x1 m1
      refine ⟨rfl, ?_⟩
      refine ⟨_, rfl, _, rfl, _, rfl, .ref ha, v, h, x1.take kd, kd, n, 49, rfl, dp_same (s321.trans s22) hxe, dp_same s22 dv, o, by omega, by omega, lo6.pos x1 m1, n1000, fw bx, fun b H23 s23 hb => ?_⟩
      rw [lo6.back x1 m1] at hb
      obtain rfl : b = true := hb.mpr (LN.sub0 (fun b hb => ⟨b, List.mem_append_left _ hb, fun w hw => hw⟩) ((can6.up x1 (can6.ok x1 m1)).mp ⟨x1, m1, le4_refl (can6.ok x1 m1)⟩))
      exact ⟨true, rfl, ifF rfl ⟨s22.trans s23, s23 _ _ hD22⟩⟩
    rintro H22 ⟨s22, hD22⟩
    refine ⟨by show 0 ≤ sizeLine; decide, fun E2 nE2 => ?_⟩
    have sE2 := same_upd (o := .lst []) nE2
    refine ⟨.list [], .list [], .lst (SqL.of (sE2 _ _ hD22)) .nil, .lst (SqL.of upd_same) .nil, by decide, by decide, ?_⟩
    have sz := s321.trans (s22.trans sE2)
    exact q _ (kpHe.same sz) (Pe.same sz)
end
/-! ### the law of k04 -/
def sLaw : Stmt := topS 39
def spLaw (K : PySem.W.Frag) : Sp := fun vs H Q _ => ∃ (a : Addr) (ns : List Int), vs = [.ref a] ∧ SqL K H a (ns.map V.int) ∧ ns.length ≤ 63 ∧ ∀ H', Q (.bl true) H'
theorem canon_small {h : Asks} {kd n n' : Nat} {size : Int} {M : List (List Int)} (b : BoxH h kd size) (c : Cfg kd size n') (hn : n ≤ n') (can : Canon M (LN (asks4 h) n)) : M.length ≤ 60 ∧ ∀ x ∈ M, ∀ z ∈ x, z < 1000 := by
  have fw := b.few c hn
  have k1 := c.k1
  have s0 : 0 ≤ size := by have := c.s1; omega
  have m := mul_le' s0 hn
  have z0 : 0 ≤ size * (n : Int) := Int.mul_nonneg s0 (by omega)
  have top : size * (n' : Int) ≤ 18 := by
    by_cases k2 : 2 ≤ kd
    · have := c.more k2
      omega
    · exact c.one (by omega)
  constructor
  · by_cases z : n = 0
    · subst z
      rw [can.uniq (canon_zero (asks4 h))]
      decide
    · obtain ⟨j, rfl⟩ : ∃ j, n = j + 1 := ⟨n - 1, by omega⟩
      have z := fw.all j (Nat.lt_succ_self j) (asks4 h) (fun a ha => ha) M (can.congr fun x _ => ⟨fun h => ⟨h.down, h⟩, fun h => h.2⟩)
      omega
  · have W := b.ways s0 c.k3
    intro x hx z hz
    obtain ⟨p, q, r, s, rfl, h1, h2, h3, h4⟩ := canon_box (t1 := 18) (t2 := 18) (t3 := 18) (t4 := 18) can (by decide) (by decide) (by decide) (by decide) (fun x hx h => ln_clip W n hx (by omega) (by split <;> omega) (by split <;> omega) (by omega) h) x hx
    simp only [List.mem_cons, List.not_mem_nil, or_false] at hz
    omega
theorem cutV_take (xs : List V) (k : Nat) : cutV xs none (some (k : Int)) = xs.take k := by
  by_cases z : k ≤ xs.length
  · exact cutV_to z
  · unfold cutV
    rw [show HT.sIx xs.length xs.length (some (k : Int)) = min k xs.length from HT.sIx_nat _ _ k, HT.sIx_none, List.drop_zero, Nat.sub_zero, Nat.min_eq_right (by omega), List.take_length, List.take_of_length_le (by omega)]
section
variable {P : Program} {w : World} {K : PySem.W.Frag} {mg : Str → Option Value} {base : Heap}
structure Txt (mg : Str → Option Value) (fO fT fM fL fW fX fR : Addr) : Prop where
  gO : mg "_law_open" = some (.ref fO)
  gT : mg "_law_take" = some (.ref fT)
  gM : mg "_law_small" = some (.ref fM)
  gL : mg "least" = some (.ref fL)
  gW : mg "_law_lows_right" = some (.ref fW)
  gX : mg "_law_others_right" = some (.ref fX)
  gR : mg "_law_store_right" = some (.ref fR)
  range : mg "range" = none
  tuple : mg "tuple" = none
  max : mg "max" = none
theorem scLaw : FnScope ["script", "pen", "turn", "house", "kinds", "most", "top", "n", "lows", "some", "low", "kind", "k", "one", "store"] ["script"] (defScope sLaw) := ⟨rfl, rfl, rfl, by decide +kernel, rfl, by decide +kernel, by decide +kernel⟩
theorem ok_law {f fO fT fM fL fW fX fR : Addr} {fd fdO fdT fdM fdL fdW fdX fdR : FuncData} (F : Fun K "law" "law" sLaw f fd) (T : Txt mg fO fT fM fL fW fX fR)
    (GO : FnOk P w K mg base CX0 1 fO fdO ["script"] (spOpen K)) (kO : PySem.W.keepIn K (.ref fO) = true) (bO : Binds K fdO ["script"] [])
    (GT : FnOk P w K mg base CX0 2 fT fdT ["pen", "amount"] spTake) (kT : PySem.W.keepIn K (.ref fT) = true) (bT : Binds K fdT ["pen", "amount"] [])
    (GM : FnOk P w K mg base CX0 4 fM fdM ["pen"] (spSmall K)) (kM : PySem.W.keepIn K (.ref fM) = true) (bM : Binds K fdM ["pen"] [])
    (GL : FnOk P w K mg base CX0 9 fL fdL ["house", "n"] (spLeast K)) (kL : PySem.W.keepIn K (.ref fL) = true) (bL : Binds K fdL ["house", "n"] [])
    (GW : FnOk P w K mg base CX0 10 fW fdW ["house", "lows", "n"] (spLowsRight K)) (kW : PySem.W.keepIn K (.ref fW) = true) (bW : Binds K fdW ["house", "lows", "n"] [])
    (GX : FnOk P w K mg base CX0 10 fX fdX ["pen", "house", "lows", "n"] (spOthers K)) (kX : PySem.W.keepIn K (.ref fX) = true) (bX : Binds K fdX ["pen", "house", "lows", "n"] [])
    (GR : FnOk P w K mg base CX0 11 fR fdR ["house", "store", "n", "lows"] (spStoreRight K)) (kR : PySem.W.keepIn K (.ref fR) = true) (bR : Binds K fdR ["house", "store", "n", "lows"] []) :
    FnOk P w K mg base CX0 12 f fd ["script"] (spLaw K) := by
  refine F.ok scLaw (fun vs H Q E h => ?_) (fun cdv A outer s H vs Q E hr h => ?_)
  · obtain ⟨a, ns, rfl, _⟩ := h
    rfl
  · obtain ⟨a, ns, rfl, hS, hlen, q⟩ := h
    have h1 : Room 1 _ := hr.mono (by decide)
    have h2 : Room 2 _ := hr.mono (by decide)
    have h4 : Room 4 _ := hr.mono (by decide)
    have h6 : Room 9 _ := hr.mono (by decide)
    have h7 : Room 10 _ := hr.mono (by decide)
    refine ⟨_, pss_cons (ps_set (i := 1) scLaw.nd rfl (.inr rfl) (pe_call GO h1 (by rfl) T.gO kO bO .nil pass0 (pa_cons (pv 0) pa_nil)))
      (pss_cons (ps_for PassesOwn.never rfl (pi_range1 (by rfl) T.range (pa_cons pe_int pa_nil)) (pg_name (i := 2) scLaw.nd rfl (.inl rfl)) (pss_cons (ps_asg (pe_call GM h4 (by rfl) T.gM kM bM .nil pass0 (pa_cons (pv 1) pa_nil)) (pg_tup (by rfl) (pgs_cons (pg_name (i := 3) scLaw.nd rfl (.inr rfl)) (pgs_cons (pg_name (i := 4) scLaw.nd rfl (.inr rfl)) (pgs_cons (pg_name (i := 5) scLaw.nd rfl (.inl rfl)) (pgs_cons (pg_name (i := 6) scLaw.nd rfl (.inr rfl)) pgs_nil))))))
      (pss_cons (ps_set (i := 7) scLaw.nd rfl (.inr rfl) (pe_call GT h2 (by rfl) T.gT kT bT .nil pass0 (pa_cons (pv 1) (pa_cons (pe_op op_add (pv 5) pe_int) pa_nil))))
      (pss_cons (ps_set (i := 8) scLaw.nd rfl (.inr rfl) (pe_call GL h6 (by rfl) T.gL kL bL .nil pass0 (pa_cons (pv 3) (pa_cons (pv 7) pa_nil))))
      (pss_cons (ps_if (PW.pt (pw_or (pt_not (pt_val (pe_call GW h7 (by rfl) T.gW kW bW .nil pass0 (pa_cons (pv 3) (pa_cons (pv 8) (pa_cons (pv 7) pa_nil)))))) (pw_or1 (pt_not (pt_val (pe_call GX h7 (by rfl) T.gX kX bX .nil pass0 (pa_cons (pv 1) (pa_cons (pv 3) (pa_cons (pv 8) (pa_cons (pv 7) pa_nil)))))))))) (pss_one (ps_ret pe_bl)) pss_nil)
      (pss_cons (ps_set (i := 9) scLaw.nd rfl (.inl rfl) (pe_op op_cat (pe_lc (own := [("k", 12)]) (g := gName 12) (tt := tYes) (te := (tCB (rTupOf K) (tCons (tLc (iRng1 (tCons (tVar 4) tNil)) (gName 11) tYes (tCall spTake [] E0 (tCons (tVar 1) (tCons (tOp (rI0 fun i j => .int (i + j)) (tVar 6) (tC (.int 1))) tNil))) [11]) tNil))) rfl scLaw.nd (pi_range1 (by rfl) T.range (pa_cons pe_int pa_nil))
        (blkOk_by (N := ["script", "pen", "turn", "house", "kinds", "most", "top", "n", "lows", "some", "low", "kind", "k", "one", "store"]) (sc := defScope sLaw) (by decide +kernel)) (fun _ _ _ _ _ => by exact (pg_name (i := 12) scLaw.nd rfl (.inl rfl))) (fun _ _ _ _ _ => pts_nil)
        (fun _ _ _ _ _ => by exact (by
          refine pe_callTy call_tuple_of (by rfl) T.tuple (by decide +kernel) (pa_cons ?_ pa_nil)
          refine pe_lc (wi := iRng1 (tCons (tVar 4) tNil)) (own := [("kind", 11)]) (g := gName 11) (tt := tYes) (te := tCall spTake [] E0 (tCons (tVar 1) (tCons (tOp (rI0 fun i j => .int (i + j)) (tVar 6) (tC (.int 1))) tNil))) ?_ ?_ ?_ ?_ ?_ ?_ ?_
          · rfl
          · exact scLaw.nd
          · exact (pi_range1 (by rfl) T.range (pa_cons (pv 4) pa_nil))
          · exact blkOk_by (N := ["script", "pen", "turn", "house", "kinds", "most", "top", "n", "lows", "some", "low", "kind", "k", "one", "store"]) (sc := lcSc [(".0", .local), ("k", .local), ("tuple", .globalImplicit), ("range", .globalImplicit), ("kinds", .cell), ("pen", .cell), ("top", .cell)]) (by decide +kernel)
          · exact fun _ _ _ _ _ => by exact (pg_name (i := 11) scLaw.nd rfl (.inl rfl))
          · exact fun _ _ _ _ _ => pts_nil
          · exact fun _ _ _ _ _ => by exact (pe_call GT h2 (by rfl) T.gT kT bT .nil pass0 (pa_cons (pv 1) (pa_cons (pe_op op_add (pv 6) pe_int) pa_nil)))))) (pe_slice sl_list (pv 8) po_none (po_some pe_int))))
      (pss_cons (ps_for PassesOwn.never rfl (pi_list (pe_slice sl_list (pv 8) po_none (po_some pe_int))) (pg_name (i := 10) scLaw.nd rfl (.inl rfl)) (pss_one (ps_expr (pe_bm PySem.F.plainAttrs_list PySem.F.slot_list_append PySem.F.type_list_append mt_append (pv 9) (pa_cons (pe_callTy call_tuple_of (by rfl) T.tuple (by decide +kernel) (pa_cons (pe_lc (own := [("one", 13)]) (g := gName 13) (tt := tYes) rfl scLaw.nd (pi_tup (pv 10))
        (blkOk_by (N := ["script", "pen", "turn", "house", "kinds", "most", "top", "n", "lows", "some", "low", "kind", "k", "one", "store"]) (sc := defScope sLaw) (by decide +kernel)) (fun _ _ _ _ _ => by exact (pg_name (i := 13) scLaw.nd rfl (.inl rfl))) (fun _ _ _ _ _ => pts_nil)
        (fun _ _ _ _ _ => by exact (pe_callB (call_max2 rfl) (by rfl) T.max (by decide +kernel) (pa_cons pe_int (pa_cons (pe_op op_sub (pe_op op_add (pv 13) (pe_call GT h2 (by rfl) T.gT kT bT .nil pass0 (pa_cons (pv 1) (pa_cons pe_int pa_nil)))) pe_int) pa_nil))))) pa_nil)) pa_nil)))))
      (pss_one (ps_if (pt_cmpR (op_neD hr.units) (pe_lc (own := [("store", 14)]) (g := gName 14) (tt := tNot (tB (tCall (spStoreRight K) [] E0 (tCons (tVar 3) (tCons (tVar 14) (tCons (tVar 7) (tCons (tVar 8) tNil))))))) rfl scLaw.nd (pi_list (pv 9))
        (blkOk_by (N := ["script", "pen", "turn", "house", "kinds", "most", "top", "n", "lows", "some", "low", "kind", "k", "one", "store"]) (sc := defScope sLaw) (by decide +kernel)) (fun _ _ _ _ _ => by exact (pg_name (i := 14) scLaw.nd rfl (.inl rfl))) (fun _ _ _ _ _ => by exact pts_one (pt_not (pt_val (pe_call GR hr (by rfl) T.gR kR bR .nil pass0 (pa_cons (pv 3) (pa_cons (pv 14) (pa_cons (pv 7) (pa_cons (pv 8) pa_nil))))))))
        (fun _ _ _ _ _ => by exact (pv 14))) (pe_lst pa_nil) (nomark _)) (pss_one (ps_ret pe_bl)) pss_nil)))))))))
      (pss_one (ps_ret pe_bl))), ?_⟩
    -- pen
    refine ⟨_, rfl, a, ns, rfl, hS, hlen, fun H0 p c ms s0 P0 _ => ?_⟩
    refine ⟨3, rfl, by decide, by decide, ?_⟩
    refine for_range (lo := 0) (n := 3) (fun t σ H1 => ∃ (y2 y3 y4 y5 y6 y7 y8 y9 y10 : Option V), σ = [some (.ref a), some (.ref p), y2, y3, y4, y5, y6, y7, y8, y9, y10, none, none, none, none] ∧ Pen H1 p c ms (3000 * t))
      ⟨none, none, none, none, none, none, none, none, none, rfl, P0⟩ ?_ ?_
    · rintro t σ H1 ht ⟨y2, y3, y4, y5, y6, y7, y8, y9, y10, rfl, P1⟩
      -- a small house
      refine ⟨_, rfl, p, c, ms, _, rfl, P1, by unfold penMost; omega, fun r H2 ha h kd n' size kp2 P2 hr2 dh okh cf => ?_⟩
      have k1 := cf.k1
      have k3 := cf.k3
      have s1' := cf.s1
      have n6 := cf.n6
      have s9' := cf.s9
      have bx : BoxN h kd size := BoxN.of okh rfl k1 (by omega) (by decide)
      have h3 : h.length ≤ 3 := by have := okh.most; omega
      have h4' : ∀ a ∈ h, a.length ≤ 4 := fun a ha => by have := (okh.all a ha).most; omega
      refine ⟨r, _, rfl, SqT.of hr2, rfl, _, _, rfl, _, _, rfl, _, _, rfl, _, _, rfl, rfl, ?_⟩
      -- n
      refine ⟨_, rfl, _, rfl, _, 1, rfl, rfl, p, c, ms, _, _, rfl, P2, by unfold penMost; omega, by omega, by omega, fun n0 H3 n00 n01 kp3 P3 => ?_⟩
      obtain ⟨n, rfl⟩ : ∃ n : Nat, n0 = (n : Int) := ⟨n0.toNat, by omega⟩
      have nn : n ≤ n' := by omega
      have dh3 := P2.dp kp3 dh (noL_house h)
      -- the least ones
      refine ⟨_, rfl, _, rfl, .ref ha, h, kd, n, 49, rfl, dh3, bx.box.hs, by omega, bx.box.few cf nn, fun l H4 us M s4 nl hl dus can => ?_⟩
      obtain ⟨m60, big⟩ := canon_small bx.box cf nn can
      have lo := lows_of can k1 (by omega) fun x hx => ln_prj bx.box.hs n hx
      have P4 := P3.same s4
      have nlp : l ≠ p := (P3.nep nl).1.symm
      have dh4 := dp_same s4 dh3
      have dl4 : Dp K H4 (.ref l) (lowsD kd M) := .lst (SqL.of hl) dus
      refine ⟨_, rfl, _, rfl, _, rfl, .ref ha, .ref l, h, M, kd, n, 49, rfl, dh4, dl4, bx.box.hs, can, m60, big, by omega, bx.box.few cf nn, fun H5 s5 => ?_⟩
      refine ⟨_, rfl, ifF rfl ?_⟩
      have P5 := P4.same s5
      refine ⟨_, rfl, _, rfl, _, rfl, _, rfl, p, c, ms, _, .ref ha, l, us, h, M, kd, n, n', size, rfl, P5, by unfold penMost; omega, dp_same s5 dh4, s5 _ _ hl, nlp, dpAll_same s5 dus, bx, h3, h4', cf, nn, can, m60, big, fun H6 kp6 P6 => ?_⟩
      refine ⟨_, rfl, ifF rfl ?_⟩
      have hl6 := kp6 _ _ (s5 _ _ hl) nlp
      have dus6 := P5.dpAll kp6 (dpAll_same s5 dus) (noLAll_map noL_way _)
      have dh6 := P5.dp kp6 (dp_same s5 dh4) (noL_house h)
      have lus : us.length = M.length := by rw [dpAll_len dus6, List.length_map, List.length_map]
      replace P6 := P6.mono (m := 3000 * t + 2000) (by omega)
      -- some
      refine ⟨4, rfl, by decide, by decide, fun D nD => ?_⟩
      have sD := same_upd (o := .lst []) nD
      obtain ⟨npD, ncD⟩ := P6.nep nD
      refine lc_range (lo := 0) (n := 4) (fun j H7 => Kp p H6 H7 ∧ Pen H7 p c ms (3000 * t + 2000 + 10 * j) ∧ ∃ (ps : List V) (S : List (List Int)), H7 D = some (.lst ps) ∧ DpAll K H7 ps (S.map wayD) ∧ S.length = j ∧ ∀ s ∈ S, s.length = kd ∧ ∀ z ∈ s, 0 ≤ z)
        ⟨sD.kp, P6.same sD, [], [], upd_same, .nil, rfl, by simp⟩ ?_ ?_
      · rintro j H7 hj ⟨kp7, P7, ps, S, hD, dps, lS, okS⟩
        refine ⟨rfl, ?_⟩
        refine ⟨_, rfl, (kd : Int), rfl, by omega, by omega, fun G nG => ?_⟩
        have sG := same_upd (o := .lst []) nG
        obtain ⟨npG, ncG⟩ := P7.nep nG
        refine lc_range (lo := 0) (n := (kd : Int).toNat) (fun i H8 => Kp p H7 H8 ∧ Pen H8 p c ms (3000 * t + 2000 + 10 * j + i) ∧ ∃ zs : List Int, H8 G = some (.lst (zs.map V.int)) ∧ zs.length = i ∧ ∀ z ∈ zs, 0 ≤ z)
          ⟨sG.kp, P7.same sG, [], upd_same, rfl, by simp⟩ ?_ ?_
        · rintro i H8 hi ⟨kp8, P8, zs, hG, lz, bz⟩
          refine ⟨rfl, ?_⟩
          have top0 : 0 ≤ (n' : Int) * size := Int.mul_nonneg (by omega) (by omega)
          have top1 : (n' : Int) * size ≤ 6 * 9 := Int.mul_le_mul (by omega) s9' (by omega) (by omega)
          refine ⟨_, rfl, _, rfl, _, 1, rfl, rfl, p, c, ms, _, _, rfl, P8, by unfold penMost; omega, by omega, by omega, fun z H9 z0 z1 kp9 P9 => ?_⟩
          refine ⟨_, kp9 _ _ hG npG.symm, small_line (by rw [List.length_map]; omega), (kp8.trans kp9).put nG, (P9.put npG ncG), zs ++ [z], ?_, by rw [List.length_append, lz]; rfl, mem_app1 bz z0⟩
          rw [upd_same, List.map_append]
          rfl
        · rintro H8 ⟨kp8, P8, zs, hG, lz, bz⟩
          refine ⟨G, _, rfl, .inl ⟨SqL.of hG, fun W nW => ?_⟩⟩
          have sW := same_upd (o := .tup (zs.map V.int)) nW
          have dW := dp_tup nW (dpAll_ints (K := K) zs)
          have lps := sts_len dps
          have hDW := sW _ _ (kp8 _ _ hD npD.symm)
          refine ⟨ps, hDW, small_line (by omega), ((kp7.trans kp8).same sW).put nD, ((P8.same sW).put npD ncD).mono (by omega), ps ++ [.ref W], S ++ [zs], upd_same, ?_, by rw [List.length_append, lS]; rfl, mem_app1 okS ⟨by omega, bz⟩⟩
          exact dpAll_put hDW (dpAll_app1 (dpAll_same sW (P7.dpAll kp8 dps (noLAll_map noL_way _))) dW) (noLAll_map noL_way _)
      rintro H7 ⟨kp7, P7, ps, S, hD, dps, lS, okS⟩
      have lps := sts_len dps
      have hl7 := kp7 _ _ hl6 nlp
      have dus7 := P6.dpAll kp7 dus6 (noLAll_map noL_way _)
      refine ⟨_, rfl, 2, rfl, l, us, rfl, SqL.of hl7, fun p2 n2 => ?_⟩
      rw [show (2 : Int) = ((2 : Nat) : Int) from rfl, cutV_take]
      have s2 := same_upd (o := .lst (us.take 2)) n2
      have lt2 : (us.take 2).length ≤ 2 := by rw [List.length_take]; omega
      have P8 := P7.same s2
      have hl8 := s2 _ _ hl7
      have dus8 := dpAll_same s2 dus7
      have dh8 := dp_same s2 (P6.dp kp7 dh6 (noL_house h))
      have dps8 := dpAll_same s2 dps
      have hD8 := s2 _ _ hD
      have h28 : upd H7 p2 (.lst (us.take 2)) p2 = some (.lst (us.take 2)) := upd_same
      generalize upd H7 p2 (.lst (us.take 2)) = H8 at s2 P8 hl8 dus8 dh8 dps8 hD8 h28 ⊢
      refine ⟨D, p2, _, _, rfl, rfl, hD8, h28, by rw [sizeLine_eq]; omega, fun l9 n9 => ?_⟩
      have s9 := same_upd (o := .lst (ps ++ us.take 2)) n9
      obtain ⟨np9, nc9⟩ := P8.nep n9
      have okS9 : ∀ s ∈ S ++ (M.map fun x : List Int => x.take kd).take 2, s.length = kd ∧ ∀ z ∈ s, 0 ≤ z := fun s hs => by
        rcases List.mem_append.mp hs with hs | hs
        · exact okS s hs
        · obtain ⟨x, mx, rfl⟩ := List.mem_map.mp (List.mem_of_mem_take hs)
          exact ⟨lo.len x mx, lo.pos x mx⟩
      have dps9 : DpAll K (upd H8 l9 (.lst (ps ++ us.take 2))) (ps ++ us.take 2) ((S ++ (M.map fun x : List Int => x.take kd).take 2).map wayD) := dpAll_same s9 (by
        rw [List.map_append, List.map_take]
        exact dpAll_app dps8 (dpAll_take 2 dus8))
      have lS9 : (S ++ (M.map fun x : List Int => x.take kd).take 2).length ≤ 6 := by
        rw [List.length_append, List.length_take, lS]
        omega
      generalize S ++ (M.map fun x : List Int => x.take kd).take 2 = S9 at okS9 dps9 lS9
      generalize ps ++ us.take 2 = ps9 at s9 dps9 ⊢
      -- and near least ones
      refine ⟨_, rfl, 3, rfl, l, us, rfl, SqL.of (s9 _ _ hl8), fun p3 n3 => ?_⟩
      rw [show (3 : Int) = ((3 : Nat) : Int) from rfl, cutV_take]
      have s3 := same_upd (o := .lst (us.take 3)) n3
      have n39 : l9 ≠ p3 := ne_of_none upd_same n3
      have np3 := ((P8.same s9).nep n3).1
      have s93 := s9.trans s3
      refine ⟨p3, rfl, ⟨_, SqL.of upd_same⟩, ?_⟩
      refine for_list (K := K) (a := p3) (xs := us.take 3) (fun i σ H10 => ∃ (y10 : Option V) (ps : List V) (S : List (List Int)), σ = [some (.ref a), some (.ref p), some (.int (0 + (t : Int))), some (.ref ha), some (.int (kd : Int)), some (.int (n' : Int)), some (.int ((n' : Int) * size)), some (.int (n : Int)), some (.ref l), some (.ref l9), y10, none, none, none, none] ∧
          Kp p H8 H10 ∧ Pen H10 p c ms (3000 * t + 2100 + 10 * i) ∧ H10 l9 = some (.lst ps) ∧ DpAll K H10 ps (S.map wayD) ∧ H10 p3 = some (.lst (us.take 3)) ∧ S.length ≤ 6 + i ∧ ∀ s ∈ S, s.length = kd ∧ ∀ z ∈ s, 0 ≤ z)
        ⟨y10, ps9, S9, rfl, s93.kp, (P8.same s93).mono (by omega), s3 _ _ upd_same, dpAll_same s3 dps9, upd_same, lS9, okS9⟩ ?_ ?_ ?_
      · rintro i σ H10 _ ⟨_, _, _, _, _, _, _, _, h3, _⟩
        exact SqL.of h3
      · rintro i v σ H10 hi ⟨y10', ps, S, rfl, kp10, P10, hl10, dps10, hp3, lS10, okS10⟩
        have i3 : i < 3 := by
          have := (List.getElem?_eq_some_iff.mp hi).1
          rw [List.length_take] at this
          omega
        have hi' : us[i]? = some v := by
          rw [List.getElem?_take_of_lt i3] at hi
          exact hi
        obtain ⟨x, _, mx, dv⟩ := lows_get dus8 hi'
        have lx := lo.len x mx
        obtain ⟨ta, rfl, hT⟩ := way_of dv
        obtain ⟨at8, left8, hp8, _⟩ := P8.pe
        have hT10 := kp10.seqT hp8 hT
        obtain ⟨at10, left10, hp10, _⟩ := P10.pe
        refine ⟨_, rfl, .inl ⟨rfl, _, SqL.of hl10⟩, _, rfl, ta, rfl, ⟨_, hT10⟩, fun G nG => ?_⟩
        have sG := same_upd (o := .lst []) nG
        obtain ⟨npG, ncG⟩ := P10.nep nG
        refine lc_tup (K := K) (a := ta) (xs := (x.take kd).map V.int) (fun j H11 => Kp p H10 H11 ∧ Pen H11 p c ms (3000 * t + 2100 + 10 * i + j) ∧ ∃ zs : List Int, H11 G = some (.lst (zs.map V.int)) ∧ zs.length = j ∧ ∀ z ∈ zs, 0 ≤ z)
          ⟨sG.kp, P10.same sG, [], upd_same, rfl, by simp⟩ (fun j H11 _ ⟨kp11, _⟩ => kp11.seqT hp10 hT10) ?_ ?_
        · rintro j v H11 hj ⟨kp11, P11, zs, hG, lz, bz⟩
          have jk : j < kd := by
            have := (List.getElem?_eq_some_iff.mp hj).1
            rw [List.length_map, lx] at this
            exact this
          obtain ⟨z, _, rfl⟩ := ints_get hj
          refine ⟨rfl, ?_⟩
          refine ⟨_, rfl, _, rfl, p, c, ms, _, 3, rfl, P11, by unfold penMost; omega, by decide, by decide, fun r H12 r0 r1 kp12 P12 => ?_⟩
          refine ⟨z, r, rfl, rfl, _, 1, rfl, rfl, 0, _, rfl, ?_⟩
          refine ⟨_, kp12 _ _ hG npG.symm, small_line (by rw [List.length_map]; omega), (kp11.trans kp12).put nG, (P12.put npG ncG), zs ++ [if z + r - 1 > 0 then z + r - 1 else 0], ?_, by rw [List.length_append, lz]; rfl, mem_app1 bz (by split <;> omega)⟩
          rw [upd_same, List.map_append]
          rfl
        · rintro H11 ⟨kp11, P11, zs, hG, lz, bz⟩
          have lzk : zs.length = kd := by rw [lz, List.length_map, lx]
          refine ⟨G, _, rfl, .inl ⟨SqL.of hG, fun W nW => ?_⟩⟩
          have sW := same_upd (o := .tup (zs.map V.int)) nW
          have dW := dp_tup nW (dpAll_ints (K := K) zs)
          have lps := sts_len dps10
          have n9p : l9 ≠ p := np9.symm
          have hlW := sW _ _ (kp11 _ _ hl10 n9p)
          refine ⟨l9, ps, _, rfl, rfl, hlW, small_line (by omega), ?_⟩
          refine ⟨_, ps ++ [.ref W], S ++ [zs], rfl, ((kp10.trans kp11).same sW).put n9, ((P11.same sW).put np9 nc9).mono (by rw [lz, List.length_map] at *; omega), upd_same, ?_, ?_, by rw [List.length_append]; show S.length + 1 ≤ _; omega, mem_app1 okS10 ⟨lzk, bz⟩⟩
          · exact dpAll_put hlW (dpAll_app1 (dpAll_same sW (P10.dpAll kp11 dps10 (noLAll_map noL_way _))) dW) (noLAll_map noL_way _)
          · rw [upd_ne n39.symm]
            exact sW _ _ (kp11 _ _ hp3 np3.symm)
      · rintro σ H10 ⟨y10', ps, S, rfl, kp10, P10, hl10, dps10, hp3, lS10, okS10⟩
        have lt3 : (us.take 3).length ≤ 3 := by rw [List.length_take]; omega
        have dh10 := P8.dp kp10 dh8 (noL_house h)
        have hlo10 := kp10 _ _ hl8 nlp
        have dus10 := P8.dpAll kp10 dus8 (noLAll_map noL_way _)
        have dl10 : Dp K H10 (.ref l) (lowsD kd M) := .lst (SqL.of hlo10) dus10
        have lps := sts_len dps10
        refine ⟨_, rfl, l9, rfl, ⟨_, SqL.of hl10⟩, fun G nG => ?_⟩
        have sG := same_upd (o := .lst []) nG
        refine lc_list (K := K) (a := l9) (xs := ps) (fun i H11 => Same H10 H11 ∧ H11 G = some (.lst [])) ⟨sG, upd_same⟩ (fun i H11 _ ⟨s11, _⟩ => SqL.of (s11 _ _ hl10)) ?_ ?_
        · rintro i v H11 hi ⟨s11, hG⟩
          obtain ⟨st, hst, dv⟩ := sts_get dps10 hi
          obtain ⟨lst', pst⟩ := okS10 st (List.mem_of_getElem? hst)
          refine ⟨rfl, ?_⟩
          refine ⟨_, rfl, _, rfl, _, rfl, _, rfl, .ref ha, v, .ref l, h, st, M, kd, n, 49, rfl, dp_same s11 dh10, dp_same s11 dv, dp_same s11 dl10, bx.box.hs, lst', pst, can, by omega, by omega, bx.box.few cf nn, fun H12 s12 => ?_⟩
          exact ⟨true, rfl, ifF rfl ⟨s11.trans s12, s12 _ _ hG⟩⟩
        · rintro H11 ⟨s11, hG⟩
          refine ⟨by show 0 ≤ sizeLine; decide, fun E1 nE => ?_⟩
          have sE := same_upd (o := .lst []) nE
          refine ⟨.list [], .list [], .lst (SqL.of (sE _ _ hG)) .nil, .lst (SqL.of upd_same) .nil, by decide, by decide, _, rfl, ?_⟩
          refine ifF rfl ?_
          exact ⟨_, _, _, _, _, _, _, _, _, rfl, (P10.same (s11.trans sE)).mono (by omega)⟩
    · rintro σ H1 ⟨y2, y3, y4, y5, y6, y7, y8, y9, y10, rfl, P1⟩
      exact q H1
end
/-! ### what the top has written -/
theorem all_mk {l : PySem.W.OpenLaw} {w : World} {K : PySem.W.Frag} {h : Heap} {mg : Str → Option Value} {fa f1 f2 f3 f4 f5 f6 f7 f8 f9 f10 f11 f12 f13 f14 f15 f16 f17 f18 f19 f20 f21 f22 f23 f24 f25 f26 f27 f28 f29 f30 f31 f32 f33 f34 C1 : Addr} (X : K.In h) (G : h.Ns mainGlobals mg) (hfa : mg "law" = some (.ref fa))
    {od1 an1 od2 an2 od3 an3 od4 an4 od5 an5 od6 an6 od7 an7 od8 an8 od9 an9 od10 an10 od11 an11 od12 an12 od13 an13 od14 an14 od15 an15 od16 an16 od17 an17 od18 an18 od19 an19 od20 an20 od21 an21 od22 an22 od23 an23 od24 an24 od25 an25 od26 an26 od27 an27 od28 an28 od29 an29 od30 an30 od31 an31 od32 an32 od33 an33 od34 an34 : Option Addr} {sl1 sl2 sl3 sl4 sl5 sl6 sl7 sl8 sl9 sl10 sl11 sl12 sl13 sl14 sl15 sl16 sl17 sl18 sl19 sl20 sl21 sl22 sl23 sl24 sl25 sl26 sl27 sl28 sl29 sl30 sl31 sl32 sl33 sl34 : Array (Option Value)} {oc1 kV1 dc1 pm1 cd1 ct1 oc2 kV2 dc2 pm2 cd2 ct2 oc3 kV3 dc3 pm3 cd3 ct3 oc4 kV4 dc4 pm4 cd4 ct4 oc5 kV5 dc5 pm5 cd5 ct5 oc6 kV6 dc6 pm6 cd6 ct6 oc7 kV7 dc7 pm7 cd7 ct7 oc8 kV8 dc8 pm8 cd8 ct8 oc9 kV9 dc9 pm9 cd9 ct9 oc10 kV10 dc10 pm10 cd10 ct10 oc11 kV11 dc11 pm11 cd11 ct11 oc12 kV12 dc12 pm12 cd12 ct12 oc13 kV13 dc13 pm13 cd13 ct13 oc14 kV14 dc14 pm14 cd14 ct14 oc15 kV15 dc15 pm15 cd15 ct15 oc16 kV16 dc16 pm16 cd16 ct16 oc17 kV17 dc17 pm17 cd17 ct17 oc18 kV18 dc18 pm18 cd18 ct18 oc19 kV19 dc19 pm19 cd19 ct19 oc20 kV20 dc20 pm20 cd20 ct20 oc21 kV21 dc21 pm21 cd21 ct21 oc22 kV22 dc22 pm22 cd22 ct22 oc23 kV23 dc23 pm23 cd23 ct23 oc24 kV24 dc24 pm24 cd24 ct24 oc25 kV25 dc25 pm25 cd25 ct25 oc26 kV26 dc26 pm26 cd26 ct26 oc27 kV27 dc27 pm27 cd27 ct27 oc28 kV28 dc28 pm28 cd28 ct28 oc29 kV29 dc29 pm29 cd29 ct29 oc30 kV30 dc30 pm30 cd30 ct30 oc31 kV31 dc31 pm31 cd31 ct31 oc32 kV32 dc32 pm32 cd32 ct32 oc33 kV33 dc33 pm33 cd33 ct33 oc34 kV34 dc34 pm34 cd34 ct34 : Value}
    (aC1 : PySem.W.nsIn K mainGlobals "Chart" = some (some (.ref C1))) (pg1 : PySem.W.plainGet K C1 Str.empty = true) (hd1 : PySem.W.hasDictIn K C1 = true) (po1 : PySem.W.plainOver K C1 = true) (sa1 : PySem.W.findIn K (.ref C1) "__setattr__" = some (some (.builtin "object.__setattr__"))) (mk1 : PySem.W.makesIn K C1 = true) (kc1 : PySem.W.keepIn K (.ref C1) = true)
    (na1_kinds : PySem.W.findIn K (.ref C1) "_kinds" = some none)
    (na1_rooms : PySem.W.findIn K (.ref C1) "_rooms" = some none)
    (na1_lists : PySem.W.findIn K (.ref C1) "_lists" = some none)
    (na1_boxes : PySem.W.findIn K (.ref C1) "_boxes" = some none)
    (a1 : PySem.W.nsIn K mainGlobals "in_four" = some (some (.ref f1)))
    (l1 : K.lookup f1 = some ⟨oc1, od1, .func (PySem.W.fnOf "in_four" "in_four" (defArgs sInFour) (defBody sInFour) (defScope sInFour) .none kV1 dc1 pm1 an1 cd1 ct1), sl1⟩) (c1 : PySem.W.codeIn K cd1 "in_four" = true) (k1 : PySem.W.keepIn K (.ref f1) = true)
    (a2 : PySem.W.nsIn K mainGlobals "covers_one" = some (some (.ref f2)))
    (l2 : K.lookup f2 = some ⟨oc2, od2, .func (PySem.W.fnOf "covers_one" "covers_one" (defArgs sCovOne) (defBody sCovOne) (defScope sCovOne) .none kV2 dc2 pm2 an2 cd2 ct2), sl2⟩) (c2 : PySem.W.codeIn K cd2 "covers_one" = true) (k2 : PySem.W.keepIn K (.ref f2) = true)
    (a3 : PySem.W.nsIn K mainGlobals "least_of" = some (some (.ref f3)))
    (l3 : K.lookup f3 = some ⟨oc3, od3, .func (PySem.W.fnOf "least_of" "least_of" (defArgs sLeastOf) (defBody sLeastOf) (defScope sLeastOf) .none kV3 dc3 pm3 an3 cd3 ct3), sl3⟩) (c3 : PySem.W.codeIn K cd3 "least_of" = true) (k3 : PySem.W.keepIn K (.ref f3) = true)
    (a4 : PySem.W.nsIn K mainGlobals "needed" = some (some (.ref f4)))
    (l4 : K.lookup f4 = some ⟨oc4, od4, .func (PySem.W.fnOf "needed" "needed" (defArgs sNeeded) (defBody sNeeded) (defScope sNeeded) .none kV4 dc4 pm4 an4 cd4 ct4), sl4⟩) (c4 : PySem.W.codeIn K cd4 "needed" = true) (k4 : PySem.W.keepIn K (.ref f4) = true)
    (a5 : PySem.W.nsIn K mainGlobals "joined" = some (some (.ref f5)))
    (l5 : K.lookup f5 = some ⟨oc5, od5, .func (PySem.W.fnOf "joined" "joined" (defArgs sJoined) (defBody sJoined) (defScope sJoined) .none kV5 dc5 pm5 an5 cd5 ct5), sl5⟩) (c5 : PySem.W.codeIn K cd5 "joined" = true) (k5 : PySem.W.keepIn K (.ref f5) = true)
    (a6 : PySem.W.nsIn K mainGlobals "least_in_both" = some (some (.ref f6)))
    (l6 : K.lookup f6 = some ⟨oc6, od6, .func (PySem.W.fnOf "least_in_both" "least_in_both" (defArgs sBoth) (defBody sBoth) (defScope sBoth) .none kV6 dc6 pm6 an6 cd6 ct6), sl6⟩) (c6 : PySem.W.codeIn K cd6 "least_in_both" = true) (k6 : PySem.W.keepIn K (.ref f6) = true)
    (a7 : PySem.W.nsIn K mainGlobals "least_in_all" = some (some (.ref f7)))
    (l7 : K.lookup f7 = some ⟨oc7, od7, .func (PySem.W.fnOf "least_in_all" "least_in_all" (defArgs sInAll) (defBody sInAll) (defScope sInAll) .none kV7 dc7 pm7 an7 cd7 ct7), sl7⟩) (c7 : PySem.W.codeIn K cd7 "least_in_all" = true) (k7 : PySem.W.keepIn K (.ref f7) = true)
    (a8 : PySem.W.nsIn K mainGlobals "least_one_more" = some (some (.ref f8)))
    (l8 : K.lookup f8 = some ⟨oc8, od8, .func (PySem.W.fnOf "least_one_more" "least_one_more" (defArgs sOneMore) (defBody sOneMore) (defScope sOneMore) .none kV8 dc8 pm8 an8 cd8 ct8), sl8⟩) (c8 : PySem.W.codeIn K cd8 "least_one_more" = true) (k8 : PySem.W.keepIn K (.ref f8) = true)
    (a9 : PySem.W.nsIn K mainGlobals "least_for_ask" = some (some (.ref f9)))
    (l9 : K.lookup f9 = some ⟨oc9, od9, .func (PySem.W.fnOf "least_for_ask" "least_for_ask" (defArgs sForAsk) (defBody sForAsk) (defScope sForAsk) .none kV9 dc9 pm9 an9 cd9 ct9), sl9⟩) (c9 : PySem.W.codeIn K cd9 "least_for_ask" = true) (k9 : PySem.W.keepIn K (.ref f9) = true)
    (a10 : PySem.W.nsIn K mainGlobals "no_more_than" = some (some (.ref f10)))
    (l10 : K.lookup f10 = some ⟨oc10, od10, .func (PySem.W.fnOf "no_more_than" "no_more_than" (defArgs sNoMore) (defBody sNoMore) (defScope sNoMore) .none kV10 dc10 pm10 an10 cd10 ct10), sl10⟩) (c10 : PySem.W.codeIn K cd10 "no_more_than" = true) (k10 : PySem.W.keepIn K (.ref f10) = true)
    (a11 : PySem.W.nsIn K mainGlobals "kinds_of" = some (some (.ref f11)))
    (l11 : K.lookup f11 = some ⟨oc11, od11, .func (PySem.W.fnOf "kinds_of" "kinds_of" (defArgs sKindsOf) (defBody sKindsOf) (defScope sKindsOf) .none kV11 dc11 pm11 an11 cd11 ct11), sl11⟩) (c11 : PySem.W.codeIn K cd11 "kinds_of" = true) (k11 : PySem.W.keepIn K (.ref f11) = true)
    (a12 : PySem.W.nsIn K mainGlobals "plan_of" = some (some (.ref f12)))
    (l12 : K.lookup f12 = some ⟨oc12, od12, .func (PySem.W.fnOf "plan_of" "plan_of" (defArgs sPlanOf) (defBody sPlanOf) (defScope sPlanOf) .none kV12 dc12 pm12 an12 cd12 ct12), sl12⟩) (c12 : PySem.W.codeIn K cd12 "plan_of" = true) (k12 : PySem.W.keepIn K (.ref f12) = true)
    (a13 : PySem.W.nsIn K mainGlobals "least_there" = some (some (.ref f13)))
    (l13 : K.lookup f13 = some ⟨oc13, od13, .func (PySem.W.fnOf "least_there" "least_there" (defArgs sLeastThere) (defBody sLeastThere) (defScope sLeastThere) .none kV13 dc13 pm13 an13 cd13 ct13), sl13⟩) (c13 : PySem.W.codeIn K cd13 "least_there" = true) (k13 : PySem.W.keepIn K (.ref f13) = true)
    (a14 : PySem.W.nsIn K mainGlobals "lasts_there" = some (some (.ref f14)))
    (l14 : K.lookup f14 = some ⟨oc14, od14, .func (PySem.W.fnOf "lasts_there" "lasts_there" (defArgs sLastsThere) (defBody sLastsThere) (defScope sLastsThere) .none kV14 dc14 pm14 an14 cd14 ct14), sl14⟩) (c14 : PySem.W.codeIn K cd14 "lasts_there" = true) (k14 : PySem.W.keepIn K (.ref f14) = true)
    (a15 : PySem.W.nsIn K mainGlobals "lasts" = some (some (.ref f15)))
    (l15 : K.lookup f15 = some ⟨oc15, od15, .func (PySem.W.fnOf "lasts" "lasts" (defArgs sLasts) (defBody sLasts) (defScope sLasts) .none kV15 dc15 pm15 an15 cd15 ct15), sl15⟩) (c15 : PySem.W.codeIn K cd15 "lasts" = true) (k15 : PySem.W.keepIn K (.ref f15) = true)
    (a16 : PySem.W.nsIn K mainGlobals "least" = some (some (.ref f16)))
    (l16 : K.lookup f16 = some ⟨oc16, od16, .func (PySem.W.fnOf "least" "least" (defArgs sLeast) (defBody sLeast) (defScope sLeast) .none kV16 dc16 pm16 an16 cd16 ct16), sl16⟩) (c16 : PySem.W.codeIn K cd16 "least" = true) (k16 : PySem.W.keepIn K (.ref f16) = true)
    (a17 : PySem.W.nsIn K mainGlobals "leads" = some (some (.ref f17)))
    (l17 : K.lookup f17 = some ⟨oc17, od17, .func (PySem.W.fnOf "leads" "leads" (defArgs sLeads) (defBody sLeads) (defScope sLeads) .none kV17 dc17 pm17 an17 cd17 ct17), sl17⟩) (c17 : PySem.W.codeIn K cd17 "leads" = true) (k17 : PySem.W.keepIn K (.ref f17) = true)
    (a18 : PySem.W.nsIn K mainGlobals "put_together" = some (some (.ref f18)))
    (l18 : K.lookup f18 = some ⟨oc18, od18, .func (PySem.W.fnOf "put_together" "put_together" (defArgs sPut) (defBody sPut) (defScope sPut) .none kV18 dc18 pm18 an18 cd18 ct18), sl18⟩) (c18 : PySem.W.codeIn K cd18 "put_together" = true) (k18 : PySem.W.keepIn K (.ref f18) = true)
    (a19 : PySem.W.nsIn K mainGlobals "covers" = some (some (.ref f19)))
    (l19 : K.lookup f19 = some ⟨oc19, od19, .func (PySem.W.fnOf "covers" "covers" (defArgs sCovers) (defBody sCovers) (defScope sCovers) .none kV19 dc19 pm19 an19 cd19 ct19), sl19⟩) (c19 : PySem.W.codeIn K cd19 "covers" = true) (k19 : PySem.W.keepIn K (.ref f19) = true)
    (a20 : PySem.W.nsIn K mainGlobals "_law_open" = some (some (.ref f20)))
    (l20 : K.lookup f20 = some ⟨oc20, od20, .func (PySem.W.fnOf "_law_open" "_law_open" (defArgs sOpen) (defBody sOpen) (defScope sOpen) .none kV20 dc20 pm20 an20 cd20 ct20), sl20⟩) (c20 : PySem.W.codeIn K cd20 "_law_open" = true) (k20 : PySem.W.keepIn K (.ref f20) = true)
    (a21 : PySem.W.nsIn K mainGlobals "_law_spread" = some (some (.ref f21)))
    (l21 : K.lookup f21 = some ⟨oc21, od21, .func (PySem.W.fnOf "_law_spread" "_law_spread" (defArgs sSpread) (defBody sSpread) (defScope sSpread) .none kV21 dc21 pm21 an21 cd21 ct21), sl21⟩) (c21 : PySem.W.codeIn K cd21 "_law_spread" = true) (k21 : PySem.W.keepIn K (.ref f21) = true)
    (a22 : PySem.W.nsIn K mainGlobals "_law_take" = some (some (.ref f22)))
    (l22 : K.lookup f22 = some ⟨oc22, od22, .func (PySem.W.fnOf "_law_take" "_law_take" (defArgs sTake) (defBody sTake) (defScope sTake) .none kV22 dc22 pm22 an22 cd22 ct22), sl22⟩) (c22 : PySem.W.codeIn K cd22 "_law_take" = true) (k22 : PySem.W.keepIn K (.ref f22) = true)
    (a23 : PySem.W.nsIn K mainGlobals "_law_house" = some (some (.ref f23)))
    (l23 : K.lookup f23 = some ⟨oc23, od23, .func (PySem.W.fnOf "_law_house" "_law_house" (defArgs sHouse) (defBody sHouse) (defScope sHouse) .none kV23 dc23 pm23 an23 cd23 ct23), sl23⟩) (c23 : PySem.W.codeIn K cd23 "_law_house" = true) (k23 : PySem.W.keepIn K (.ref f23) = true)
    (a24 : PySem.W.nsIn K mainGlobals "_law_small" = some (some (.ref f24)))
    (l24 : K.lookup f24 = some ⟨oc24, od24, .func (PySem.W.fnOf "_law_small" "_law_small" (defArgs sSmall) (defBody sSmall) (defScope sSmall) .none kV24 dc24 pm24 an24 cd24 ct24), sl24⟩) (c24 : PySem.W.codeIn K cd24 "_law_small" = true) (k24 : PySem.W.keepIn K (.ref f24) = true)
    (a25 : PySem.W.nsIn K mainGlobals "_law_plays" = some (some (.ref f25)))
    (l25 : K.lookup f25 = some ⟨oc25, od25, .func (PySem.W.fnOf "_law_plays" "_law_plays" (defArgs sPlays) (defBody sPlays) (defScope sPlays) .none kV25 dc25 pm25 an25 cd25 ct25), sl25⟩) (c25 : PySem.W.codeIn K cd25 "_law_plays" = true) (k25 : PySem.W.keepIn K (.ref f25) = true)
    (a26 : PySem.W.nsIn K mainGlobals "_law_store_right" = some (some (.ref f26)))
    (l26 : K.lookup f26 = some ⟨oc26, od26, .func (PySem.W.fnOf "_law_store_right" "_law_store_right" (defArgs sStoreRight) (defBody sStoreRight) (defScope sStoreRight) .none kV26 dc26 pm26 an26 cd26 ct26), sl26⟩) (c26 : PySem.W.codeIn K cd26 "_law_store_right" = true) (k26 : PySem.W.keepIn K (.ref f26) = true)
    (a27 : PySem.W.nsIn K mainGlobals "_law_lows_right" = some (some (.ref f27)))
    (l27 : K.lookup f27 = some ⟨oc27, od27, .func (PySem.W.fnOf "_law_lows_right" "_law_lows_right" (defArgs sLowsRight) (defBody sLowsRight) (defScope sLowsRight) .none kV27 dc27 pm27 an27 cd27 ct27), sl27⟩) (c27 : PySem.W.codeIn K cd27 "_law_lows_right" = true) (k27 : PySem.W.keepIn K (.ref f27) = true)
    (a28 : PySem.W.nsIn K mainGlobals "_law_turned" = some (some (.ref f28)))
    (l28 : K.lookup f28 = some ⟨oc28, od28, .func (PySem.W.fnOf "_law_turned" "_law_turned" (defArgs sTurned) (defBody sTurned) (defScope sTurned) .none kV28 dc28 pm28 an28 cd28 ct28), sl28⟩) (c28 : PySem.W.codeIn K cd28 "_law_turned" = true) (k28 : PySem.W.keepIn K (.ref f28) = true)
    (a29 : PySem.W.nsIn K mainGlobals "_law_others_right" = some (some (.ref f29)))
    (l29 : K.lookup f29 = some ⟨oc29, od29, .func (PySem.W.fnOf "_law_others_right" "_law_others_right" (defArgs sOthers) (defBody sOthers) (defScope sOthers) .none kV29 dc29 pm29 an29 cd29 ct29), sl29⟩) (c29 : PySem.W.codeIn K cd29 "_law_others_right" = true) (k29 : PySem.W.keepIn K (.ref f29) = true)
    (a30 : PySem.W.nsIn K mainGlobals "law" = some (some (.ref f30)))
    (l30 : K.lookup f30 = some ⟨oc30, od30, .func (PySem.W.fnOf "law" "law" (defArgs sLaw) (defBody sLaw) (defScope sLaw) .none kV30 dc30 pm30 an30 cd30 ct30), sl30⟩) (c30 : PySem.W.codeIn K cd30 "law" = true) (k30 : PySem.W.keepIn K (.ref f30) = true)
    (a31 : PySem.W.findIn K (.ref C1) "__init__" = some (some (.ref f31))) (i31 : PySem.W.isFn K (.ref f31) = true)
    (l31 : K.lookup f31 = some ⟨oc31, od31, .func (PySem.W.fnOf "__init__" "Chart.__init__" (defArgs sChInit) (defBody sChInit) (defScope sChInit) .none kV31 dc31 pm31 an31 cd31 ct31), sl31⟩) (c31 : PySem.W.codeIn K cd31 "Chart.__init__" = true) (k31 : PySem.W.keepIn K (.ref f31) = true)
    (a32 : PySem.W.findIn K (.ref C1) "least" = some (some (.ref f32))) (i32 : PySem.W.isFn K (.ref f32) = true)
    (l32 : K.lookup f32 = some ⟨oc32, od32, .func (PySem.W.fnOf "least" "Chart.least" (defArgs sChLeast) (defBody sChLeast) (defScope sChLeast) .none kV32 dc32 pm32 an32 cd32 ct32), sl32⟩) (c32 : PySem.W.codeIn K cd32 "Chart.least" = true) (k32 : PySem.W.keepIn K (.ref f32) = true)
    (a33 : PySem.W.findIn K (.ref C1) "lasts" = some (some (.ref f33))) (i33 : PySem.W.isFn K (.ref f33) = true)
    (l33 : K.lookup f33 = some ⟨oc33, od33, .func (PySem.W.fnOf "lasts" "Chart.lasts" (defArgs sChLasts) (defBody sChLasts) (defScope sChLasts) .none kV33 dc33 pm33 an33 cd33 ct33), sl33⟩) (c33 : PySem.W.codeIn K cd33 "Chart.lasts" = true) (k33 : PySem.W.keepIn K (.ref f33) = true)
    (a34 : PySem.W.findIn K (.ref C1) "told" = some (some (.ref f34))) (i34 : PySem.W.isFn K (.ref f34) = true)
    (l34 : K.lookup f34 = some ⟨oc34, od34, .func (PySem.W.fnOf "told" "Chart.told" (defArgs sChTold) (defBody sChTold) (defScope sChTold) .none kV34 dc34 pm34 an34 cd34 ct34), sl34⟩) (c34 : PySem.W.codeIn K cd34 "Chart.told" = true) (k34 : PySem.W.keepIn K (.ref f34) = true)
    (z1 : PySem.W.nsIn K mainGlobals "max" = some none)
    (z2 : PySem.W.nsIn K mainGlobals "min" = some none)
    (z3 : PySem.W.nsIn K mainGlobals "len" = some none)
    (z4 : PySem.W.nsIn K mainGlobals "sorted" = some none)
    (z5 : PySem.W.nsIn K mainGlobals "set" = some none)
    (z6 : PySem.W.nsIn K mainGlobals "zip" = some none)
    (z7 : PySem.W.nsIn K mainGlobals "range" = some none)
    (z8 : PySem.W.nsIn K mainGlobals "tuple" = some none)
    (z9 : PySem.W.nsIn K mainGlobals "enumerate" = some none)
    (z10 : PySem.W.nsIn K mainGlobals "list" = some none)
    (z11 : PySem.W.nsIn K mainGlobals "all" = some none)
    {tF tN0 tN1 tN2 tN3 : Tok} {nq : Addr} {odN : Option Addr} {nN : Nat} {slN : Array (Option Value)}
    (aF : PySem.W.nsIn K mainGlobals "FOUR" = some (some (.int 4 tF)))
    (aN : PySem.W.nsIn K mainGlobals "NOTHING" = some (some (.ref nq)))
    (lN : K.lookup nq = some ⟨.type "tuple", odN, .seq #[.int 0 tN0, .int 0 tN1, .int 0 tN2, .int 0 tN3] nN, slN⟩)
    : ∃ fd : FuncData, (∀ (s : Shared) (v : Value), BindsTo s fd ⟨[v], []⟩ [("script", v)]) ∧ ∀ base : Heap, K.In base → base.Ns mainGlobals mg → FnOk l.prog w K mg base CX0 12 fa fd ["script"] (spLaw K) := by
  have e := hfa.symm.trans (PySem.W.mg_of X G a30)
  cases e
  have F1 := fun_mk (st := sInFour) l1 c1 k1
  have g1 := PySem.W.mg_of X G a1
  have b1 := F1.binds (ps := ["numbers"]) fun _ _ _ _ _ _ us hl => match us, hl with | [_], _ => rfl
  have F2 := fun_mk (st := sCovOne) l2 c2 k2
  have g2 := PySem.W.mg_of X G a2
  have b2 := F2.binds (ps := ["store", "stores"]) fun _ _ _ _ _ _ us hl => match us, hl with | [_, _], _ => rfl
  have F3 := fun_mk (st := sLeastOf) l3 c3 k3
  have g3 := PySem.W.mg_of X G a3
  have b3 := F3.binds (ps := ["stores"]) fun _ _ _ _ _ _ us hl => match us, hl with | [_], _ => rfl
  have F4 := fun_mk (st := sNeeded) l4 c4 k4
  have g4 := PySem.W.mg_of X G a4
  have b4 := F4.binds (ps := ["way", "stores"]) fun _ _ _ _ _ _ us hl => match us, hl with | [_, _], _ => rfl
  have F5 := fun_mk (st := sJoined) l5 c5 k5
  have g5 := PySem.W.mg_of X G a5
  have b5 := F5.binds (ps := ["store", "stores"]) fun _ _ _ _ _ _ us hl => match us, hl with | [_, _], _ => rfl
  have F6 := fun_mk (st := sBoth) l6 c6 k6
  have g6 := PySem.W.mg_of X G a6
  have b6 := F6.binds (ps := ["stores", "others"]) fun _ _ _ _ _ _ us hl => match us, hl with | [_, _], _ => rfl
  have F7 := fun_mk (st := sInAll) l7 c7 k7
  have g7 := PySem.W.mg_of X G a7
  have b7 := F7.binds (ps := ["before", "needs"]) fun _ _ _ _ _ _ us hl => match us, hl with | [_, _], _ => rfl
  have F8 := fun_mk (st := sOneMore) l8 c8 k8
  have g8 := PySem.W.mg_of X G a8
  have b8 := F8.binds (ps := ["rooms", "before", "b"]) fun _ _ _ _ _ _ us hl => match us, hl with | [_, _, _], _ => rfl
  have F9 := fun_mk (st := sForAsk) l9 c9 k9
  have g9 := PySem.W.mg_of X G a9
  have b9 := F9.binds (ps := ["ask", "before", "b"]) fun _ _ _ _ _ _ us hl => match us, hl with | [_, _, _], _ => rfl
  have F10 := fun_mk (st := sNoMore) l10 c10 k10
  have g10 := PySem.W.mg_of X G a10
  have b10 := F10.binds (ps := ["b", "stores"]) fun _ _ _ _ _ _ us hl => match us, hl with | [_, _], _ => rfl
  have F11 := fun_mk (st := sKindsOf) l11 c11 k11
  have g11 := PySem.W.mg_of X G a11
  have b11 := F11.binds (ps := ["house"]) fun _ _ _ _ _ _ us hl => match us, hl with | [_], _ => rfl
  have F12 := fun_mk (st := sPlanOf) l12 c12 k12
  have g12 := PySem.W.mg_of X G a12
  have b12 := F12.binds (ps := ["house"]) fun _ _ _ _ _ _ us hl => match us, hl with | [_], _ => rfl
  have F13 := fun_mk (st := sLeastThere) l13 c13 k13
  have g13 := PySem.W.mg_of X G a13
  have b13 := F13.binds (ps := ["plan", "n"]) fun _ _ _ _ _ _ us hl => match us, hl with | [_, _], _ => rfl
  have F14 := fun_mk (st := sLastsThere) l14 c14 k14
  have g14 := PySem.W.mg_of X G a14
  have b14 := F14.binds (ps := ["plan", "stand", "n"]) fun _ _ _ _ _ _ us hl => match us, hl with | [_, _, _], _ => rfl
  have F15 := fun_mk (st := sLasts) l15 c15 k15
  have g15 := PySem.W.mg_of X G a15
  have b15 := F15.binds (ps := ["house", "store", "n"]) fun _ _ _ _ _ _ us hl => match us, hl with | [_, _, _], _ => rfl
  have F16 := fun_mk (st := sLeast) l16 c16 k16
  have g16 := PySem.W.mg_of X G a16
  have b16 := F16.binds (ps := ["house", "n"]) fun _ _ _ _ _ _ us hl => match us, hl with | [_, _], _ => rfl
  have F17 := fun_mk (st := sLeads) l17 c17 k17
  have g17 := PySem.W.mg_of X G a17
  have b17 := F17.binds (ps := ["house", "i", "store"]) fun _ _ _ _ _ _ us hl => match us, hl with | [_, _, _], _ => rfl
  have F18 := fun_mk (st := sPut) l18 c18 k18
  have g18 := PySem.W.mg_of X G a18
  have b18 := F18.binds (ps := ["numbers", "others"]) fun _ _ _ _ _ _ us hl => match us, hl with | [_, _], _ => rfl
  have F19 := fun_mk (st := sCovers) l19 c19 k19
  have g19 := PySem.W.mg_of X G a19
  have b19 := F19.binds (ps := ["store", "other"]) fun _ _ _ _ _ _ us hl => match us, hl with | [_, _], _ => rfl
  have F20 := fun_mk (st := sOpen) l20 c20 k20
  have g20 := PySem.W.mg_of X G a20
  have b20 := F20.binds (ps := ["script"]) fun _ _ _ _ _ _ us hl => match us, hl with | [_], _ => rfl
  have F21 := fun_mk (st := sSpread) l21 c21 k21
  have g21 := PySem.W.mg_of X G a21
  have b21 := F21.binds (ps := ["cell", "at"]) fun _ _ _ _ _ _ us hl => match us, hl with | [_, _], _ => rfl
  have F22 := fun_mk (st := sTake) l22 c22 k22
  have g22 := PySem.W.mg_of X G a22
  have b22 := F22.binds (ps := ["pen", "amount"]) fun _ _ _ _ _ _ us hl => match us, hl with | [_, _], _ => rfl
  have F23 := fun_mk (st := sHouse) l23 c23 k23
  have g23 := PySem.W.mg_of X G a23
  have b23 := F23.binds (ps := ["pen", "kinds", "asks", "ways", "size"]) fun _ _ _ _ _ _ us hl => match us, hl with | [_, _, _, _, _], _ => rfl
  have F24 := fun_mk (st := sSmall) l24 c24 k24
  have g24 := PySem.W.mg_of X G a24
  have b24 := F24.binds (ps := ["pen"]) fun _ _ _ _ _ _ us hl => match us, hl with | [_], _ => rfl
  have F25 := fun_mk (st := sPlays) l25 c25 k25
  have g25 := PySem.W.mg_of X G a25
  have b25 := F25.binds (ps := ["house", "store", "n"]) fun _ _ _ _ _ _ us hl => match us, hl with | [_, _, _], _ => rfl
  have F26 := fun_mk (st := sStoreRight) l26 c26 k26
  have g26 := PySem.W.mg_of X G a26
  have b26 := F26.binds (ps := ["house", "store", "n", "lows"]) fun _ _ _ _ _ _ us hl => match us, hl with | [_, _, _, _], _ => rfl
  have F27 := fun_mk (st := sLowsRight) l27 c27 k27
  have g27 := PySem.W.mg_of X G a27
  have b27 := F27.binds (ps := ["house", "lows", "n"]) fun _ _ _ _ _ _ us hl => match us, hl with | [_, _, _], _ => rfl
  have F28 := fun_mk (st := sTurned) l28 c28 k28
  have g28 := PySem.W.mg_of X G a28
  have b28 := F28.binds (ps := ["pen", "some"]) fun _ _ _ _ _ _ us hl => match us, hl with | [_, _], _ => rfl
  have F29 := fun_mk (st := sOthers) l29 c29 k29
  have g29 := PySem.W.mg_of X G a29
  have b29 := F29.binds (ps := ["pen", "house", "lows", "n"]) fun _ _ _ _ _ _ us hl => match us, hl with | [_, _, _, _], _ => rfl
  have F30 := fun_mk (st := sLaw) l30 c30 k30
  have g30 := PySem.W.mg_of X G a30
  have F31 := fun_mk (st := sChInit) l31 c31 k31
  have M31 : Meth K C1 "__init__" f31 := ⟨a31, i31, k31⟩
  have b31 := F31.binds (ps := ["self", "plan"]) fun _ _ _ _ _ _ us hl => match us, hl with | [_, _], _ => rfl
  have F32 := fun_mk (st := sChLeast) l32 c32 k32
  have M32 : Meth K C1 "least" f32 := ⟨a32, i32, k32⟩
  have b32 := F32.binds (ps := ["self", "n"]) fun _ _ _ _ _ _ us hl => match us, hl with | [_, _], _ => rfl
  have F33 := fun_mk (st := sChLasts) l33 c33 k33
  have M33 : Meth K C1 "lasts" f33 := ⟨a33, i33, k33⟩
  have b33 := F33.binds (ps := ["self", "stand", "n"]) fun _ _ _ _ _ _ us hl => match us, hl with | [_, _, _], _ => rfl
  have F34 := fun_mk (st := sChTold) l34 c34 k34
  have M34 : Meth K C1 "told" f34 := ⟨a34, i34, k34⟩
  have b34 := F34.binds (ps := ["self", "lists"]) fun _ _ _ _ _ _ us hl => match us, hl with | [_, _], _ => rfl
  have Cl1 : L2.Cls K C1 := ⟨pg1, hd1, po1, sa1⟩
  have Mk1 : Mk K C1 f31 := ⟨mk1, a31, i31, kc1⟩
  have gC1 := PySem.W.mg_of X G aC1
  have m_max := PySem.W.mg_none_of X G z1
  have m_min := PySem.W.mg_none_of X G z2
  have m_len := PySem.W.mg_none_of X G z3
  have m_sorted := PySem.W.mg_none_of X G z4
  have m_set := PySem.W.mg_none_of X G z5
  have m_zip := PySem.W.mg_none_of X G z6
  have m_range := PySem.W.mg_none_of X G z7
  have m_tuple := PySem.W.mg_none_of X G z8
  have m_enumerate := PySem.W.mg_none_of X G z9
  have m_list := PySem.W.mg_none_of X G z10
  have m_all := PySem.W.mg_none_of X G z11
  refine ⟨PySem.W.fnOf "law" "law" (defArgs sLaw) (defBody sLaw) (defScope sLaw) .none kV30 dc30 pm30 an30 cd30 ct30, fun s v => .of_eq rfl, fun base _ _ => ?_⟩
  have gF := PySem.W.mg_of X G aF
  have gN := PySem.W.mg_of X G aN
  have hN : ∀ H : Hp, Dp K H (.ref nq) (wayD [0, 0, 0, 0]) := nothing_at (its := #[]) lN rfl rfl
  have P1 := ok_inFour (P := l.prog) (w := w) (base := base) (k := 0) F1 gF m_len
  have P2a := ok_covOne (P := l.prog) (w := w) (mg := mg) (base := base) (k := 0) F2
  have P3 := ok_leastOf (k := 0) F3 P2a F2.kp b2 g2 m_sorted m_set
  have P4 := ok_needed (P := l.prog) (w := w) (base := base) (k := 0) F4 m_max
  have P5 := ok_joined (P := l.prog) (w := w) (mg := mg) (base := base) (k := 0) F5
  have P6 := ok_both (k := 0) F6 (P2a.mono (by decide)) F2.kp b2 g2 (P5.mono (by decide)) F5.kp b5 g5 P3 F3.kp b3 g3
  have PA := ok_inAll (k := 0) F7 P6 F6.kp b6 g6 m_sorted m_len
  have PM := ok_noMore (P := l.prog) (w := w) (base := base) (k := 0) F10 m_max
  have PK := ok_forAsk (k := 0) F9 (P4.mono (by decide)) F4.kp b4 g4 (PM.mono (by decide)) F10.kp b10 g10 P3 F3.kp b3 g3
  have PO := ok_oneMore (k := 0) F8 (PK.mono (by decide)) F9.kp b9 g9 PA F7.kp b7 g7 m_zip
  have TC : ChTxt K C1 := ⟨Cl1, na1_kinds, na1_rooms, na1_lists, na1_boxes⟩
  have QI := ok_chInit (k := 0) F31 TC P1 F1.kp b1 g1 gN hN
  have QL := ok_chLeast (k := 0) F32 TC PO F8.kp b8 g8 m_len
  have QS := ok_chLasts (k := 0) F33 TC QL M32 b32 (P1.mono (by decide)) F1.kp b1 g1 (P2a.mono (by decide)) F2.kp b2 g2 m_len m_range m_min
  have QT := ok_chTold (P := l.prog) (w := w) (mg := mg) (base := base) (k := 0) F34 TC
  have CF : ChFns l.prog w K mg base 0 C1 f31 f32 f33 f34 _ _ _ _ := ⟨TC, Mk1, gC1, QI, b31, QL, M32, b32, QS, M33, b33, QT, M34, b34⟩
  have P7 := ok_kindsOf (P := l.prog) (w := w) (base := base) (k := 0) F11 m_len
  have PP := ok_planOf (k := 0) F12 P7 F11.kp b11 g11 m_tuple
  have PLT := ok_leastThere (k := 0) F13 CF
  have PST := ok_lastsThere (k := 0) F14 CF
  have P9 := ok_least (k := 0) F16 PP F12.kp b12 g12 PLT F13.kp b13 g13
  have P8 := ok_lasts (k := 0) F15 PP F12.kp b12 g12 PST F14.kp b14 g14
  have GO : FnOk l.prog w K mg base CX0 1 f20 _ ["script"] (spOpen K) := ok_open (k := 0) F20 m_list m_enumerate
  have GT : FnOk l.prog w K mg base CX0 2 f22 _ ["pen", "amount"] spTake := ok_take (k := 0) F22 F21 b21 g21 m_len
  have GT6 : FnOk l.prog w K mg base CX0 9 f22 _ ["pen", "amount"] spTake := ok_take (k := 7) F22 F21 b21 g21 m_len
  have GT5 : FnOk l.prog w K mg base CX0 5 f22 _ ["pen", "amount"] spTake := ok_take (k := 3) F22 F21 b21 g21 m_len
  have GH := ok_house (k := 0) (base := base) (P := l.prog) (w := w) F23 GT F22.kp b22 g22 m_range m_tuple m_len
  have GM := ok_small (k := 0) F24 GT F22.kp b22 g22 GH F23.kp b23 g23
  have GU2 := ok_put (P := l.prog) (w := w) (base := base) (k := 0) F18 m_zip m_tuple
  have GE := ok_leads (k := 0) F17 GU2 F18.kp b18 g18 m_enumerate m_min
  have GC := ok_covers (k := 8) (base := base) (P := l.prog) (w := w) (mg := mg) F19 m_zip m_all
  have GP := ok_plays (k := 4) F25 (GE.mono (by decide)) F17.kp b17 g17 P8 F15.kp b15 g15 m_range m_len
  have GR := ok_storeRight (k := 4) F26 GC F19.kp b19 g19 P8 F15.kp b15 g15 GP F25.kp b25 g25
  have GW := ok_lowsRight (k := 4) F27 GC F19.kp b19 g19 P8 F15.kp b15 g15 m_range m_len m_sorted
  have GU := ok_turned (k := 3) F28 GT5 F22.kp b22 g22 m_list m_len
  have GX := ok_others (k := 3) F29 GT6 F22.kp b22 g22 (GU.mono (by decide)) F28.kp b28 g28 (P9.mono (by decide)) F16.kp b16 g16 P8 F15.kp b15 g15 m_tuple m_list m_range m_len m_sorted
  exact ok_law F30 ⟨g20, g22, g24, g16, g27, g29, g26, m_range, m_tuple, m_max⟩ GO F20.kp b20 GT F22.kp b22 GM F24.kp b24 (P9.mono (by decide)) F16.kp b16 GW F27.kp b27 GX F29.kp b29 GR F26.kp b26
end My
open PySem PySem.W PyProof.Rows
set_option maxRecDepth 100000 in
set_option maxHeartbeats 0 in
theorem PySem.Challenge.cw_everstock_k04_whole_what_lasts_holds : PySem.Challenge.rw_everstock_k04_whole_what_lasts.Holds := by
  w_on; o_law; k_head; (case hw => w_witness2)
  k_fill
  refine L2.walk_of (l := PySem.Challenge.rw_everstock_k04_whole_what_lasts) (n := 63) (k := 12) (x := "script") (CX := fun _ => L2.CX0) (sp := fun w => My.spLaw _) rfl (by decide) rfl ⟨rfl, by decide, by decide⟩ (fun w h Y => PySem.W.kIn_of Y) ?F (fun _ _ a ns hl _ hS => ⟨a, ns, rfl, hS, hl, fun _ => rfl⟩) (fun _ _ _ _ _ h => h)
  case F =>
    intro w mg fa h KX G hmg
    refine' My.all_mk KX G hmg ?aC1 ?pg1 ?hd1 ?po1 ?sa1 ?mk1 ?kc1 ?na1_kinds ?na1_rooms ?na1_lists ?na1_boxes ?a1 ?l1 ?c1 ?k1 ?a2 ?l2 ?c2 ?k2 ?a3 ?l3 ?c3 ?k3 ?a4 ?l4 ?c4 ?k4 ?a5 ?l5 ?c5 ?k5 ?a6 ?l6 ?c6 ?k6 ?a7 ?l7 ?c7 ?k7 ?a8 ?l8 ?c8 ?k8 ?a9 ?l9 ?c9 ?k9 ?a10 ?l10 ?c10 ?k10 ?a11 ?l11 ?c11 ?k11 ?a12 ?l12 ?c12 ?k12 ?a13 ?l13 ?c13 ?k13 ?a14 ?l14 ?c14 ?k14 ?a15 ?l15 ?c15 ?k15 ?a16 ?l16 ?c16 ?k16 ?a17 ?l17 ?c17 ?k17 ?a18 ?l18 ?c18 ?k18 ?a19 ?l19 ?c19 ?k19 ?a20 ?l20 ?c20 ?k20 ?a21 ?l21 ?c21 ?k21 ?a22 ?l22 ?c22 ?k22 ?a23 ?l23 ?c23 ?k23 ?a24 ?l24 ?c24 ?k24 ?a25 ?l25 ?c25 ?k25 ?a26 ?l26 ?c26 ?k26 ?a27 ?l27 ?c27 ?k27 ?a28 ?l28 ?c28 ?k28 ?a29 ?l29 ?c29 ?k29 ?a30 ?l30 ?c30 ?k30 ?a31 ?i31 ?l31 ?c31 ?k31 ?a32 ?i32 ?l32 ?c32 ?k32 ?a33 ?i33 ?l33 ?c33 ?k33 ?a34 ?i34 ?l34 ?c34 ?k34 ?z1 ?z2 ?z3 ?z4 ?z5 ?z6 ?z7 ?z8 ?z9 ?z10 ?z11 ?aF ?aN ?lN
    (case aC1 => k_is); (case pg1 => k_is); (case hd1 => k_is); (case po1 => k_is); (case sa1 => k_is); (case mk1 => k_is); (case kc1 => k_is); (case na1_kinds => k_is); (case na1_rooms => k_is); (case na1_lists => k_is); (case na1_boxes => k_is); (case a1 => k_is); (case l1 => k_is); (case c1 => k_is); (case k1 => k_is); (case a2 => k_is); (case l2 => k_is); (case c2 => k_is); (case k2 => k_is); (case a3 => k_is); (case l3 => k_is); (case c3 => k_is); (case k3 => k_is); (case a4 => k_is); (case l4 => k_is); (case c4 => k_is); (case k4 => k_is); (case a5 => k_is); (case l5 => k_is); (case c5 => k_is); (case k5 => k_is); (case a6 => k_is); (case l6 => k_is); (case c6 => k_is); (case k6 => k_is); (case a7 => k_is); (case l7 => k_is); (case c7 => k_is); (case k7 => k_is); (case a8 => k_is); (case l8 => k_is); (case c8 => k_is); (case k8 => k_is); (case a9 => k_is); (case l9 => k_is); (case c9 => k_is); (case k9 => k_is); (case a10 => k_is); (case l10 => k_is); (case c10 => k_is); (case k10 => k_is); (case a11 => k_is); (case l11 => k_is); (case c11 => k_is); (case k11 => k_is); (case a12 => k_is); (case l12 => k_is); (case c12 => k_is); (case k12 => k_is); (case a13 => k_is); (case l13 => k_is); (case c13 => k_is); (case k13 => k_is); (case a14 => k_is); (case l14 => k_is); (case c14 => k_is); (case k14 => k_is); (case a15 => k_is); (case l15 => k_is); (case c15 => k_is); (case k15 => k_is); (case a16 => k_is); (case l16 => k_is); (case c16 => k_is); (case k16 => k_is); (case a17 => k_is); (case l17 => k_is); (case c17 => k_is); (case k17 => k_is); (case a18 => k_is); (case l18 => k_is); (case c18 => k_is); (case k18 => k_is); (case a19 => k_is); (case l19 => k_is); (case c19 => k_is); (case k19 => k_is); (case a20 => k_is); (case l20 => k_is); (case c20 => k_is); (case k20 => k_is); (case a21 => k_is); (case l21 => k_is); (case c21 => k_is); (case k21 => k_is); (case a22 => k_is); (case l22 => k_is); (case c22 => k_is); (case k22 => k_is); (case a23 => k_is); (case l23 => k_is); (case c23 => k_is); (case k23 => k_is); (case a24 => k_is); (case l24 => k_is); (case c24 => k_is); (case k24 => k_is); (case a25 => k_is); (case l25 => k_is); (case c25 => k_is); (case k25 => k_is); (case a26 => k_is); (case l26 => k_is); (case c26 => k_is); (case k26 => k_is); (case a27 => k_is); (case l27 => k_is); (case c27 => k_is); (case k27 => k_is); (case a28 => k_is); (case l28 => k_is); (case c28 => k_is); (case k28 => k_is); (case a29 => k_is); (case l29 => k_is); (case c29 => k_is); (case k29 => k_is); (case a30 => k_is); (case l30 => k_is); (case c30 => k_is); (case k30 => k_is); (case a31 => k_is); (case i31 => k_is); (case l31 => k_is); (case c31 => k_is); (case k31 => k_is); (case a32 => k_is); (case i32 => k_is); (case l32 => k_is); (case c32 => k_is); (case k32 => k_is); (case a33 => k_is); (case i33 => k_is); (case l33 => k_is); (case c33 => k_is); (case k33 => k_is); (case a34 => k_is); (case i34 => k_is); (case l34 => k_is); (case c34 => k_is); (case k34 => k_is); (case z1 => k_is); (case z2 => k_is); (case z3 => k_is); (case z4 => k_is); (case z5 => k_is); (case z6 => k_is); (case z7 => k_is); (case z8 => k_is); (case z9 => k_is); (case z10 => k_is); (case z11 => k_is); (case aF => k_is); (case aN => k_is); (case lN => k_is)
#print axioms PySem.Challenge.cw_everstock_k04_whole_what_lasts_holds
